/-
  impl.KroneckerMethods. (Made by mkkm2.py top.)
-/
import Derived.Test.YtopdfblfhdooaaaKm2b
namespace Go.Proofs.Ytopdfblfhdooaaa
open Go.RowKit
set_option maxRecDepth 100000
attribute [local irreducible] wpList
theorem alY_impl_Method {o : Oper} {a : Act} {w : World} (ho : o.op = .alloc 28) : (execOp a.eval o).run Try.prog w = .ok (.value (.pointer (some ⟨w.heap.size, 0, none⟩))) (w.alloc (.cells #[.int .i64 0, .int .i64 0, .int .i64 0, .int .i64 0, .slice none 0 0] 28 (0, 0))) := by
  unfold execOp
  rw [ho]
  kernel_rfl
set_option maxHeartbeats 4000000 in
theorem kmF_ok (P n m k : Nat) (A : Option Addr) (c : Nat) (qs : List (List Nat)) (u v t : Nat) (B : Option Addr) (d : Nat) (rs : List (List Nat)) (N1 N2 N3 : Nat) (g1 g2 : Nat) (w : World) (hg1 : At w g1 (.cells #[.int .i64 (P : Nat), .int .i64 (n : Nat), .int .i64 (m : Nat), .int .i64 (k : Nat), .slice A qs.length c] 28 (0, 0))) (hg2 : At w g2 (.cells #[.int .i64 (P : Nat), .int .i64 (u : Nat), .int .i64 (v : Nat), .int .i64 (t : Nat), .slice B rs.length d] 28 (0, 0))) (hR : Rd w A qs) (hS : Rd w B rs) (hx : methB P n m k qs = true) (hy : methB P u v t rs = true) (hN1 : n * u = N1) (hN2 : m * v = N2) (hN3 : k * t = N3) (h1 : N1 ≤ 9) (h2 : N2 ≤ 9) (h3 : N3 ≤ 9) (hc : qs.length * rs.length ≤ 30) :
    Calls Try.prog 31 #[.pointer (some ⟨g1, 0, none⟩), .pointer (some ⟨g2, 0, none⟩)] w (fun e w' => ∃ vv, e = .returned (.tuple #[.agg #[.int .i64 P, .int .i64 N1, .int .i64 N2, .int .i64 N3, vv], .int .i64 0]) ∧ Own w' w.heap.size vv (kmO (kmQ P n m k u v t) qs rs (qs.length)) ∧ Below w.heap.size w w') := by
  have hB := Below.refl w.heap.size w
  have HXx := Lib.hid hx
  have HYx := Lib.hid hy
  have HN1x := Lib.hid hN1
  have HN2x := Lib.hid hN2
  have HN3x := Lib.hid hN3
  have H1x := Lib.hid h1
  have H2x := Lib.hid h2
  have H3x := Lib.hid h3
  have HCx := Lib.hid hc
  clear hx hy hN1 hN2 hN3 h1 h2 h3 hc
  obtain ⟨L9, hL⟩ : ∃ z9, (kmO (kmQ P n m k u v t) qs rs (qs.length)).length = z9 := ⟨_, rfl⟩
  have HL := Lib.hid hL
  clear hL
  go_enter Try.func31, Try.ntmps31
  go_upto_region 0 with (fail)
  refine wp_region_lit ?_
  refine ls_op rfl (fun K' hK' => ?_)
  have lz1 := hB.size
  have lz2 := hg1.lt
  have lz3 := hg2.lt
  refine wp_new (some 2) rfl (alY_impl_Method rfl) (fun Wz4 nnz5 => ?_)
  have bz6 := nnz5.below (Below.refl _ _) (Nat.le_refl _)
  replace hB := below_after hB bz6
  replace hg1 := hg1.after bz6
  replace hg2 := hg2.after bz6
  have hz7 : At Wz4 w.heap.size (.cells #[.int .i64 0, .int .i64 0, .int .i64 0, .int .i64 0, .slice none 0 0] 28 (0, 0)) := nnz5.at_
  refine hK' _ _ ?_
  clear hK' K' nnz5 bz6
  go_frame
  refine ls_ex (some 3) (.int .i64 0) rfl rfl (exec_assign _ rfl (.int .i64 0) rfl) ?_
  go_frame
  refine wpList_nil ?_
  go_upto_region 1 with (fail)
  refine wp_region_lit ?_
  refine ls_ex (some 4) (.agg #[.int .i64 (P : Nat), .int .i64 (n : Nat), .int .i64 (m : Nat), .int .i64 (k : Nat), .slice A qs.length c]) rfl rfl (exec_load_all 28 _ rfl g1 rfl _ _ _ hg1 Try.underlying28 rfl 5 (by kernel_rfl) rfl) ?_
  go_frame
  refine ls_ex (some 5) (.agg #[.int .i64 (P : Nat), .int .i64 (u : Nat), .int .i64 (v : Nat), .int .i64 (t : Nat), .slice B rs.length d]) rfl rfl (exec_load_all 28 _ rfl g2 rfl _ _ _ hg2 Try.underlying28 rfl 5 (by kernel_rfl) rfl) ?_
  go_frame
  refine ls_op rfl (fun K' hK' => ?_)
  have lz10 := hB.size
  have lz11 := hg1.lt
  have lz12 := hg2.lt
  have lz13 := hz7.lt
  have lo9 := hB.size
  refine wp_call2 (some 6) rfl 32 _ _ _ rfl (fun args w => by kernel_rfl) _ _ rfl rfl _ (kroneckerMethod_ok P n m k A c qs u v t B d rs N1 N2 N3 _ (hR.keep hB) (hS.keep hB) HXx.out HYx.out HN1x.out HN2x.out HN3x.out H1x.out H2x.out H3x.out HCx.out) (fun e Wz8 h => ?_)
  obtain ⟨v9, rfl, ho, bz9⟩ := h
  replace hB := below_after hB bz9
  replace hg1 := hg1.after bz9
  replace hg2 := hg2.after bz9
  replace hz7 := hz7.after bz9
  obtain ⟨A9, c9, rfl⟩ := Own.rdN2 ho (n := L9) HL.out
  clear bz9
  refine ⟨_, rfl, ?_⟩
  refine hK' _ _ ?_
  clear hK' K'
  go_frame
  refine ls_op rfl (fun K' hK' => ?_)
  refine wp_store_all 28 _ _ rfl rfl w.heap.size rfl #[.int .i64 P, .int .i64 N1, .int .i64 N2, .int .i64 N3, .slice A9 L9 c9] rfl _ _ hz7 5 (by kernel_rfl) rfl rfl (one5 _ _ _ _ _ _ _) (fun Wz14 pz15 => ?_)
  replace hB := pz15.below hB (by omega)
  replace hg1 := pz15.other hg1 (by omega)
  replace hg2 := pz15.other hg2 (by omega)
  replace ho := ho.put pz15 (ho.off hz7 (by decide))
  replace hz7 : At Wz14 w.heap.size (.cells #[.int .i64 P, .int .i64 N1, .int .i64 N2, .int .i64 N3, .slice A9 L9 c9] 28 (0, 0)) := pz15.at_
  refine hK' _ _ ?_
  clear hK' K' pz15
  refine ls_ex (some 3) (.int .i64 0) rfl rfl (exec_assign _ rfl (.int .i64 0) rfl) ?_
  go_frame
  refine wpList_nil ?_
  go_wp2_with fail
  refine bodyPost_ret (results_at2 rfl _ _ w.heap.size _ _ _ rfl _ rfl hz7 Try.underlying28 rfl 5 (by kernel_rfl) rfl) rfl ?_
  exact ⟨_, rfl, ho.mono (by omega), hB⟩
set_option maxHeartbeats 4000000 in
theorem kmF_no (P n m k : Nat) (A : Option Addr) (c : Nat) (qs : List (List Nat)) (u v t : Nat) (B : Option Addr) (d : Nat) (rs : List (List Nat)) (N1 N2 N3 : Nat) (g1 g2 : Nat) (w : World) (hg1 : At w g1 (.cells #[.int .i64 (P : Nat), .int .i64 (n : Nat), .int .i64 (m : Nat), .int .i64 (k : Nat), .slice A qs.length c] 28 (0, 0))) (hg2 : At w g2 (.cells #[.int .i64 (P : Nat), .int .i64 (u : Nat), .int .i64 (v : Nat), .int .i64 (t : Nat), .slice B rs.length d] 28 (0, 0))) (hR : Rd w A qs) (hS : Rd w B rs) (hx : methB P n m k qs = true) (hy : methB P u v t rs = true) (hN1 : n * u = N1) (hN2 : m * v = N2) (hN3 : k * t = N3) (h1 : N1 ≤ 9) (h2 : N2 ≤ 9) (h3 : N3 ≤ 9) (hc : 30 < qs.length * rs.length) :
    Calls Try.prog 31 #[.pointer (some ⟨g1, 0, none⟩), .pointer (some ⟨g2, 0, none⟩)] w (fun e w' => FailsM e ∧ Below w.heap.size w w') := by
  have hB := Below.refl w.heap.size w
  have HXx := Lib.hid hx
  have HYx := Lib.hid hy
  have HN1x := Lib.hid hN1
  have HN2x := Lib.hid hN2
  have HN3x := Lib.hid hN3
  have H1x := Lib.hid h1
  have H2x := Lib.hid h2
  have H3x := Lib.hid h3
  have HCx := Lib.hid hc
  clear hx hy hN1 hN2 hN3 h1 h2 h3 hc
  go_enter Try.func31, Try.ntmps31
  go_upto_region 0 with (fail)
  refine wp_region_lit ?_
  refine ls_op rfl (fun K' hK' => ?_)
  have lz1 := hB.size
  have lz2 := hg1.lt
  have lz3 := hg2.lt
  refine wp_new (some 2) rfl (alY_impl_Method rfl) (fun Wz4 nnz5 => ?_)
  have bz6 := nnz5.below (Below.refl _ _) (Nat.le_refl _)
  replace hB := below_after hB bz6
  replace hg1 := hg1.after bz6
  replace hg2 := hg2.after bz6
  have hz7 : At Wz4 w.heap.size (.cells #[.int .i64 0, .int .i64 0, .int .i64 0, .int .i64 0, .slice none 0 0] 28 (0, 0)) := nnz5.at_
  refine hK' _ _ ?_
  clear hK' K' nnz5 bz6
  go_frame
  refine ls_ex (some 3) (.int .i64 0) rfl rfl (exec_assign _ rfl (.int .i64 0) rfl) ?_
  go_frame
  refine wpList_nil ?_
  go_upto_region 1 with (fail)
  refine wp_region_lit ?_
  refine ls_ex (some 4) (.agg #[.int .i64 (P : Nat), .int .i64 (n : Nat), .int .i64 (m : Nat), .int .i64 (k : Nat), .slice A qs.length c]) rfl rfl (exec_load_all 28 _ rfl g1 rfl _ _ _ hg1 Try.underlying28 rfl 5 (by kernel_rfl) rfl) ?_
  go_frame
  refine ls_ex (some 5) (.agg #[.int .i64 (P : Nat), .int .i64 (u : Nat), .int .i64 (v : Nat), .int .i64 (t : Nat), .slice B rs.length d]) rfl rfl (exec_load_all 28 _ rfl g2 rfl _ _ _ hg2 Try.underlying28 rfl 5 (by kernel_rfl) rfl) ?_
  go_frame
  refine ls_op rfl (fun K' hK' => ?_)
  have lz10 := hB.size
  have lz11 := hg1.lt
  have lz12 := hg2.lt
  have lz13 := hz7.lt
  refine wp_call2_p 32 _ _ _ rfl (fun args w => by kernel_rfl) _ _ rfl rfl _ (kroneckerMethod_no P n m k A c qs u v t B d rs N1 N2 N3 _ (hR.keep hB) (hS.keep hB) HXx.out HYx.out HN1x.out HN2x.out HN3x.out H1x.out H2x.out H3x.out HCx.out) (fun e Wz8 h => ?_)
  obtain ⟨hf, bz9⟩ := h
  replace hB := below_after hB bz9
  replace hg1 := hg1.after bz9
  replace hg2 := hg2.after bz9
  replace hz7 := hz7.after bz9
  refine ⟨_, hf, ?_⟩
  exact ⟨rfl, rfl, hB⟩
set_option maxHeartbeats 4000000 in
theorem implKm_a1 (xp xn xm xk : Int) (A : Option Addr) (c : Nat) (qs : List (List Nat)) (yp yn ym yk : Int) (B : Option Addr) (d : Nat) (rs : List (List Nat)) (w : World) (hR : Rd w A qs) (hlx : qs.length ≤ 1048576) (hS : Rd w B rs) (hly : rs.length ≤ 1048576) (hx : methB xp xn xm xk qs = false) :
    Calls Try.prog 9 #[.agg #[.int .i64 xp, .int .i64 xn, .int .i64 xm, .int .i64 xk, .slice A qs.length c], .agg #[.int .i64 yp, .int .i64 yn, .int .i64 ym, .int .i64 yk, .slice B rs.length d]] w (ResH w (hZ (kmCode xp xn xm xk qs yp yn ym yk rs) xp) (hZ (kmCode xp xn xm xk qs yp yn ym yk rs) (xn * yn)) (hZ (kmCode xp xn xm xk qs yp yn ym yk rs) (xm * ym)) (hZ (kmCode xp xn xm xk qs yp yn ym yk rs) (xk * yk)) (hL (kmCode xp xn xm xk qs yp yn ym yk rs) (kmR xp xn xm xk yn ym yk qs rs)) (kmCode xp xn xm xk qs yp yn ym yk rs)) := by
  have hB := Below.refl w.heap.size w
  have _u0 := hS
  have _u1 := hly
  clear _u0 _u1
  have HC : Hid (kmCode xp xn xm xk qs yp yn ym yk rs = 1) := Lib.hid (by unfold kmCode; rw [hx]; simp)
  have HX := Lib.hid hx
  clear hx
  go_enter Try.func9, Try.ntmps9
  go_upto_region 0 with (fail)
  refine wp_region_lit ?_
  refine ls_op rfl (fun K' hK' => ?_)
  have lz1 := hB.size
  refine wp_new (some 2) rfl (exec_box 28 _ rfl (#[.int .i64 xp, .int .i64 xn, .int .i64 xm, .int .i64 xk, .slice A qs.length c]) rfl) (fun Wz2 nnz3 => ?_)
  have bz4 := nnz3.below (Below.refl _ _) (Nat.le_refl _)
  replace hB := below_after hB bz4
  have hz5 : At Wz2 w.heap.size (.cells #[.int .i64 xp, .int .i64 xn, .int .i64 xm, .int .i64 xk, .slice A qs.length c] 28 (0, 0)) := nnz3.at_
  refine hK' _ _ ?_
  clear hK' K' nnz3 bz4
  go_frame
  refine ls_op rfl (fun K' hK' => ?_)
  have lz6 := hB.size
  have lz7 := hz5.lt
  refine wp_new (some 3) rfl (exec_box 28 _ rfl (#[.int .i64 yp, .int .i64 yn, .int .i64 ym, .int .i64 yk, .slice B rs.length d]) rfl) (fun Wz8 nnz9 => ?_)
  have bz10 := nnz9.below (Below.refl _ _) (Nat.le_refl _)
  replace hB := below_after hB bz10
  replace hz5 := hz5.after bz10
  have hz11 : At Wz8 Wz2.heap.size (.cells #[.int .i64 yp, .int .i64 yn, .int .i64 ym, .int .i64 yk, .slice B rs.length d] 28 (0, 0)) := nnz9.at_
  refine hK' _ _ ?_
  clear hK' K' nnz9 bz10
  go_frame
  refine ls_op rfl (fun K' hK' => ?_)
  have lz12 := hB.size
  have lz13 := hz5.lt
  have lz14 := hz11.lt
  refine wp_new (some 4) rfl (alY_impl_Method rfl) (fun Wz15 nnz16 => ?_)
  have bz17 := nnz16.below (Below.refl _ _) (Nat.le_refl _)
  replace hB := below_after hB bz17
  replace hz5 := hz5.after bz17
  replace hz11 := hz11.after bz17
  have hz18 : At Wz15 Wz8.heap.size (.cells #[.int .i64 0, .int .i64 0, .int .i64 0, .int .i64 0, .slice none 0 0] 28 (0, 0)) := nnz16.at_
  refine hK' _ _ ?_
  clear hK' K' nnz16 bz17
  go_frame
  refine ls_ex (some 5) (.int .i64 0) rfl rfl (exec_assign _ rfl (.int .i64 0) rfl) ?_
  go_frame
  refine wpList_nil ?_
  go_upto_region 1 with (fail)
  refine wp_region_lit ?_
  refine ls_ex (some 6) (.agg #[.int .i64 xp, .int .i64 xn, .int .i64 xm, .int .i64 xk, .slice A qs.length c]) rfl rfl (exec_load_all 28 _ rfl w.heap.size rfl _ _ _ hz5 Try.underlying28 rfl 5 (by kernel_rfl) rfl) ?_
  go_frame
  refine ls_op rfl (fun K' hK' => ?_)
  have lz21 := hB.size
  have lz22 := hz5.lt
  have lz23 := hz11.lt
  have lz24 := hz18.lt
  refine wp_call1 (some 7) rfl 26 _ _ rfl (fun args w => by kernel_rfl) _ rfl _ (implIsMethod_c xp xn xm xk A c qs _ (hR.keep hB) hlx) (fun e Wz19 h => ?_)
  obtain ⟨rfl, bz20⟩ := h
  replace hB := below_after hB bz20
  replace hz5 := hz5.after bz20
  replace hz11 := hz11.after bz20
  replace hz18 := hz18.after bz20
  rw [HX.out]
  clear bz20
  refine ⟨_, rfl, ?_⟩
  refine hK' _ _ ?_
  clear hK' K'
  go_frame
  refine ls_ex (some 8) (.bool true) rfl rfl (exec_not _ _ rfl false rfl) ?_
  go_frame
  refine ls_ex (some 9) (.bool true) rfl rfl (exec_move _ rfl (.bool true) rfl) ?_
  go_frame
  refine ls_skip_g (some 10) rfl rfl ?_
  go_frame
  refine ls_skip_g (some 11) rfl rfl ?_
  go_frame
  refine ls_skip_g (some 12) rfl rfl ?_
  go_frame
  refine ls_ex (some 13) (.bool true) rfl rfl (exec_pick _ _ _ rfl true rfl (.bool true) rfl) ?_
  go_frame
  refine wpList_nil ?_
  go_upto_region 2 with (fail)
  refine wp_region_lit ?_
  refine ls_ex (some 14) (.agg #[.int .i64 0, .int .i64 0, .int .i64 0, .int .i64 0, .slice none 0 0]) rfl rfl (exec_build_nil 28 rfl _ (by kernel_rfl)) ?_
  go_frame
  refine ls_op rfl (fun K' hK' => ?_)
  refine wp_store_all 28 _ _ rfl rfl Wz8.heap.size rfl #[.int .i64 0, .int .i64 0, .int .i64 0, .int .i64 0, .slice none 0 0] rfl _ _ hz18 5 (by kernel_rfl) rfl rfl (one5 _ _ _ _ _ _ _) (fun Wz25 pz26 => ?_)
  replace hB := pz26.below hB (by omega)
  replace hz5 := pz26.other hz5 (by omega)
  replace hz11 := pz26.other hz11 (by omega)
  replace hz18 : At Wz25 Wz8.heap.size (.cells #[.int .i64 0, .int .i64 0, .int .i64 0, .int .i64 0, .slice none 0 0] 28 (0, 0)) := pz26.at_
  refine hK' _ _ ?_
  clear hK' K' pz26
  refine ls_ex (some 5) (.int .i64 1) rfl rfl (exec_assign _ rfl (.int .i64 1) rfl) ?_
  go_frame
  refine wpList_nil ?_
  go_wp2_with fail
  refine bodyPost_ret (results_at2 rfl _ _ Wz8.heap.size _ _ _ rfl _ rfl hz18 Try.underlying28 rfl 5 (by kernel_rfl) rfl) rfl ?_
  unfold ResH hZ hL
  rw [HC.out]
  exact ⟨_, rfl, Own.nil _ _, hB⟩
set_option maxHeartbeats 4000000 in
theorem implKm_a2 (xp xn xm xk : Int) (A : Option Addr) (c : Nat) (qs : List (List Nat)) (yp yn ym yk : Int) (B : Option Addr) (d : Nat) (rs : List (List Nat)) (w : World) (hR : Rd w A qs) (hlx : qs.length ≤ 1048576) (hS : Rd w B rs) (hly : rs.length ≤ 1048576) (hx : methB xp xn xm xk qs = true) (hy : methB yp yn ym yk rs = false) :
    Calls Try.prog 9 #[.agg #[.int .i64 xp, .int .i64 xn, .int .i64 xm, .int .i64 xk, .slice A qs.length c], .agg #[.int .i64 yp, .int .i64 yn, .int .i64 ym, .int .i64 yk, .slice B rs.length d]] w (ResH w (hZ (kmCode xp xn xm xk qs yp yn ym yk rs) xp) (hZ (kmCode xp xn xm xk qs yp yn ym yk rs) (xn * yn)) (hZ (kmCode xp xn xm xk qs yp yn ym yk rs) (xm * ym)) (hZ (kmCode xp xn xm xk qs yp yn ym yk rs) (xk * yk)) (hL (kmCode xp xn xm xk qs yp yn ym yk rs) (kmR xp xn xm xk yn ym yk qs rs)) (kmCode xp xn xm xk qs yp yn ym yk rs)) := by
  have hB := Below.refl w.heap.size w
  have HC : Hid (kmCode xp xn xm xk qs yp yn ym yk rs = 1) := Lib.hid (by unfold kmCode; rw [hx, hy]; simp)
  have HX := Lib.hid hx
  have HY := Lib.hid hy
  clear hx hy
  go_enter Try.func9, Try.ntmps9
  go_upto_region 0 with (fail)
  refine wp_region_lit ?_
  refine ls_op rfl (fun K' hK' => ?_)
  have lz1 := hB.size
  refine wp_new (some 2) rfl (exec_box 28 _ rfl (#[.int .i64 xp, .int .i64 xn, .int .i64 xm, .int .i64 xk, .slice A qs.length c]) rfl) (fun Wz2 nnz3 => ?_)
  have bz4 := nnz3.below (Below.refl _ _) (Nat.le_refl _)
  replace hB := below_after hB bz4
  have hz5 : At Wz2 w.heap.size (.cells #[.int .i64 xp, .int .i64 xn, .int .i64 xm, .int .i64 xk, .slice A qs.length c] 28 (0, 0)) := nnz3.at_
  refine hK' _ _ ?_
  clear hK' K' nnz3 bz4
  go_frame
  refine ls_op rfl (fun K' hK' => ?_)
  have lz6 := hB.size
  have lz7 := hz5.lt
  refine wp_new (some 3) rfl (exec_box 28 _ rfl (#[.int .i64 yp, .int .i64 yn, .int .i64 ym, .int .i64 yk, .slice B rs.length d]) rfl) (fun Wz8 nnz9 => ?_)
  have bz10 := nnz9.below (Below.refl _ _) (Nat.le_refl _)
  replace hB := below_after hB bz10
  replace hz5 := hz5.after bz10
  have hz11 : At Wz8 Wz2.heap.size (.cells #[.int .i64 yp, .int .i64 yn, .int .i64 ym, .int .i64 yk, .slice B rs.length d] 28 (0, 0)) := nnz9.at_
  refine hK' _ _ ?_
  clear hK' K' nnz9 bz10
  go_frame
  refine ls_op rfl (fun K' hK' => ?_)
  have lz12 := hB.size
  have lz13 := hz5.lt
  have lz14 := hz11.lt
  refine wp_new (some 4) rfl (alY_impl_Method rfl) (fun Wz15 nnz16 => ?_)
  have bz17 := nnz16.below (Below.refl _ _) (Nat.le_refl _)
  replace hB := below_after hB bz17
  replace hz5 := hz5.after bz17
  replace hz11 := hz11.after bz17
  have hz18 : At Wz15 Wz8.heap.size (.cells #[.int .i64 0, .int .i64 0, .int .i64 0, .int .i64 0, .slice none 0 0] 28 (0, 0)) := nnz16.at_
  refine hK' _ _ ?_
  clear hK' K' nnz16 bz17
  go_frame
  refine ls_ex (some 5) (.int .i64 0) rfl rfl (exec_assign _ rfl (.int .i64 0) rfl) ?_
  go_frame
  refine wpList_nil ?_
  go_upto_region 1 with (fail)
  refine wp_region_lit ?_
  refine ls_ex (some 6) (.agg #[.int .i64 xp, .int .i64 xn, .int .i64 xm, .int .i64 xk, .slice A qs.length c]) rfl rfl (exec_load_all 28 _ rfl w.heap.size rfl _ _ _ hz5 Try.underlying28 rfl 5 (by kernel_rfl) rfl) ?_
  go_frame
  refine ls_op rfl (fun K' hK' => ?_)
  have lz21 := hB.size
  have lz22 := hz5.lt
  have lz23 := hz11.lt
  have lz24 := hz18.lt
  refine wp_call1 (some 7) rfl 26 _ _ rfl (fun args w => by kernel_rfl) _ rfl _ (implIsMethod_c xp xn xm xk A c qs _ (hR.keep hB) hlx) (fun e Wz19 h => ?_)
  obtain ⟨rfl, bz20⟩ := h
  replace hB := below_after hB bz20
  replace hz5 := hz5.after bz20
  replace hz11 := hz11.after bz20
  replace hz18 := hz18.after bz20
  rw [HX.out]
  clear bz20
  refine ⟨_, rfl, ?_⟩
  refine hK' _ _ ?_
  clear hK' K'
  go_frame
  refine ls_ex (some 8) (.bool false) rfl rfl (exec_not _ _ rfl true rfl) ?_
  go_frame
  refine ls_ex (some 9) (.bool false) rfl rfl (exec_move _ rfl (.bool false) rfl) ?_
  go_frame
  refine ls_ex_g (some 10) (.agg #[.int .i64 yp, .int .i64 yn, .int .i64 ym, .int .i64 yk, .slice B rs.length d]) rfl rfl (exec_load_all 28 _ rfl Wz2.heap.size rfl _ _ _ hz11 Try.underlying28 rfl 5 (by kernel_rfl) rfl) ?_
  go_frame
  refine ls_op_g rfl (fun K' hK' => ?_)
  have lz27 := hB.size
  have lz28 := hz5.lt
  have lz29 := hz11.lt
  have lz30 := hz18.lt
  refine wp_call1 (some 11) rfl 26 _ _ rfl (fun args w => by kernel_rfl) _ rfl _ (implIsMethod_c yp yn ym yk B d rs _ (hS.keep hB) hly) (fun e Wz25 h => ?_)
  obtain ⟨rfl, bz26⟩ := h
  replace hB := below_after hB bz26
  replace hz5 := hz5.after bz26
  replace hz11 := hz11.after bz26
  replace hz18 := hz18.after bz26
  rw [HY.out]
  clear bz26
  refine ⟨_, rfl, ?_⟩
  refine hK' _ _ ?_
  clear hK' K'
  go_frame
  refine ls_ex_g (some 12) (.bool true) rfl rfl (exec_not _ _ rfl false rfl) ?_
  go_frame
  refine ls_ex (some 13) (.bool true) rfl rfl (exec_pick _ _ _ rfl false rfl (.bool true) rfl) ?_
  go_frame
  refine wpList_nil ?_
  go_upto_region 2 with (fail)
  refine wp_region_lit ?_
  refine ls_ex (some 14) (.agg #[.int .i64 0, .int .i64 0, .int .i64 0, .int .i64 0, .slice none 0 0]) rfl rfl (exec_build_nil 28 rfl _ (by kernel_rfl)) ?_
  go_frame
  refine ls_op rfl (fun K' hK' => ?_)
  refine wp_store_all 28 _ _ rfl rfl Wz8.heap.size rfl #[.int .i64 0, .int .i64 0, .int .i64 0, .int .i64 0, .slice none 0 0] rfl _ _ hz18 5 (by kernel_rfl) rfl rfl (one5 _ _ _ _ _ _ _) (fun Wz31 pz32 => ?_)
  replace hB := pz32.below hB (by omega)
  replace hz5 := pz32.other hz5 (by omega)
  replace hz11 := pz32.other hz11 (by omega)
  replace hz18 : At Wz31 Wz8.heap.size (.cells #[.int .i64 0, .int .i64 0, .int .i64 0, .int .i64 0, .slice none 0 0] 28 (0, 0)) := pz32.at_
  refine hK' _ _ ?_
  clear hK' K' pz32
  refine ls_ex (some 5) (.int .i64 1) rfl rfl (exec_assign _ rfl (.int .i64 1) rfl) ?_
  go_frame
  refine wpList_nil ?_
  go_wp2_with fail
  refine bodyPost_ret (results_at2 rfl _ _ Wz8.heap.size _ _ _ rfl _ rfl hz18 Try.underlying28 rfl 5 (by kernel_rfl) rfl) rfl ?_
  unfold ResH hZ hL
  rw [HC.out]
  exact ⟨_, rfl, Own.nil _ _, hB⟩
set_option maxHeartbeats 4000000 in
theorem implKm_b (xp xn xm xk : Int) (A : Option Addr) (c : Nat) (qs : List (List Nat)) (yp yn ym yk : Int) (B : Option Addr) (d : Nat) (rs : List (List Nat)) (w : World) (hR : Rd w A qs) (hlx : qs.length ≤ 1048576) (hS : Rd w B rs) (hly : rs.length ≤ 1048576) (hx : methB xp xn xm xk qs = true) (hy : methB yp yn ym yk rs = true) (hp : xp ≠ yp) :
    Calls Try.prog 9 #[.agg #[.int .i64 xp, .int .i64 xn, .int .i64 xm, .int .i64 xk, .slice A qs.length c], .agg #[.int .i64 yp, .int .i64 yn, .int .i64 ym, .int .i64 yk, .slice B rs.length d]] w (ResH w (hZ (kmCode xp xn xm xk qs yp yn ym yk rs) xp) (hZ (kmCode xp xn xm xk qs yp yn ym yk rs) (xn * yn)) (hZ (kmCode xp xn xm xk qs yp yn ym yk rs) (xm * ym)) (hZ (kmCode xp xn xm xk qs yp yn ym yk rs) (xk * yk)) (hL (kmCode xp xn xm xk qs yp yn ym yk rs) (kmR xp xn xm xk yn ym yk qs rs)) (kmCode xp xn xm xk qs yp yn ym yk rs)) := by
  have hB := Below.refl w.heap.size w
  have HC : Hid (kmCode xp xn xm xk qs yp yn ym yk rs = 2) := Lib.hid (by unfold kmCode; rw [hx, hy]; simp [hp])
  have HX := Lib.hid hx
  have HY := Lib.hid hy
  have HP : Hid ((xp != yp) = true) := Lib.hid (by simp [hp])
  clear hx hy hp
  go_enter Try.func9, Try.ntmps9
  go_upto_region 0 with (fail)
  refine wp_region_lit ?_
  refine ls_op rfl (fun K' hK' => ?_)
  have lz1 := hB.size
  refine wp_new (some 2) rfl (exec_box 28 _ rfl (#[.int .i64 xp, .int .i64 xn, .int .i64 xm, .int .i64 xk, .slice A qs.length c]) rfl) (fun Wz2 nnz3 => ?_)
  have bz4 := nnz3.below (Below.refl _ _) (Nat.le_refl _)
  replace hB := below_after hB bz4
  have hz5 : At Wz2 w.heap.size (.cells #[.int .i64 xp, .int .i64 xn, .int .i64 xm, .int .i64 xk, .slice A qs.length c] 28 (0, 0)) := nnz3.at_
  refine hK' _ _ ?_
  clear hK' K' nnz3 bz4
  go_frame
  refine ls_op rfl (fun K' hK' => ?_)
  have lz6 := hB.size
  have lz7 := hz5.lt
  refine wp_new (some 3) rfl (exec_box 28 _ rfl (#[.int .i64 yp, .int .i64 yn, .int .i64 ym, .int .i64 yk, .slice B rs.length d]) rfl) (fun Wz8 nnz9 => ?_)
  have bz10 := nnz9.below (Below.refl _ _) (Nat.le_refl _)
  replace hB := below_after hB bz10
  replace hz5 := hz5.after bz10
  have hz11 : At Wz8 Wz2.heap.size (.cells #[.int .i64 yp, .int .i64 yn, .int .i64 ym, .int .i64 yk, .slice B rs.length d] 28 (0, 0)) := nnz9.at_
  refine hK' _ _ ?_
  clear hK' K' nnz9 bz10
  go_frame
  refine ls_op rfl (fun K' hK' => ?_)
  have lz12 := hB.size
  have lz13 := hz5.lt
  have lz14 := hz11.lt
  refine wp_new (some 4) rfl (alY_impl_Method rfl) (fun Wz15 nnz16 => ?_)
  have bz17 := nnz16.below (Below.refl _ _) (Nat.le_refl _)
  replace hB := below_after hB bz17
  replace hz5 := hz5.after bz17
  replace hz11 := hz11.after bz17
  have hz18 : At Wz15 Wz8.heap.size (.cells #[.int .i64 0, .int .i64 0, .int .i64 0, .int .i64 0, .slice none 0 0] 28 (0, 0)) := nnz16.at_
  refine hK' _ _ ?_
  clear hK' K' nnz16 bz17
  go_frame
  refine ls_ex (some 5) (.int .i64 0) rfl rfl (exec_assign _ rfl (.int .i64 0) rfl) ?_
  go_frame
  refine wpList_nil ?_
  go_upto_region 1 with (fail)
  refine wp_region_lit ?_
  refine ls_ex (some 6) (.agg #[.int .i64 xp, .int .i64 xn, .int .i64 xm, .int .i64 xk, .slice A qs.length c]) rfl rfl (exec_load_all 28 _ rfl w.heap.size rfl _ _ _ hz5 Try.underlying28 rfl 5 (by kernel_rfl) rfl) ?_
  go_frame
  refine ls_op rfl (fun K' hK' => ?_)
  have lz21 := hB.size
  have lz22 := hz5.lt
  have lz23 := hz11.lt
  have lz24 := hz18.lt
  refine wp_call1 (some 7) rfl 26 _ _ rfl (fun args w => by kernel_rfl) _ rfl _ (implIsMethod_c xp xn xm xk A c qs _ (hR.keep hB) hlx) (fun e Wz19 h => ?_)
  obtain ⟨rfl, bz20⟩ := h
  replace hB := below_after hB bz20
  replace hz5 := hz5.after bz20
  replace hz11 := hz11.after bz20
  replace hz18 := hz18.after bz20
  rw [HX.out]
  clear bz20
  refine ⟨_, rfl, ?_⟩
  refine hK' _ _ ?_
  clear hK' K'
  go_frame
  refine ls_ex (some 8) (.bool false) rfl rfl (exec_not _ _ rfl true rfl) ?_
  go_frame
  refine ls_ex (some 9) (.bool false) rfl rfl (exec_move _ rfl (.bool false) rfl) ?_
  go_frame
  refine ls_ex_g (some 10) (.agg #[.int .i64 yp, .int .i64 yn, .int .i64 ym, .int .i64 yk, .slice B rs.length d]) rfl rfl (exec_load_all 28 _ rfl Wz2.heap.size rfl _ _ _ hz11 Try.underlying28 rfl 5 (by kernel_rfl) rfl) ?_
  go_frame
  refine ls_op_g rfl (fun K' hK' => ?_)
  have lz27 := hB.size
  have lz28 := hz5.lt
  have lz29 := hz11.lt
  have lz30 := hz18.lt
  refine wp_call1 (some 11) rfl 26 _ _ rfl (fun args w => by kernel_rfl) _ rfl _ (implIsMethod_c yp yn ym yk B d rs _ (hS.keep hB) hly) (fun e Wz25 h => ?_)
  obtain ⟨rfl, bz26⟩ := h
  replace hB := below_after hB bz26
  replace hz5 := hz5.after bz26
  replace hz11 := hz11.after bz26
  replace hz18 := hz18.after bz26
  rw [HY.out]
  clear bz26
  refine ⟨_, rfl, ?_⟩
  refine hK' _ _ ?_
  clear hK' K'
  go_frame
  refine ls_ex_g (some 12) (.bool false) rfl rfl (exec_not _ _ rfl true rfl) ?_
  go_frame
  refine ls_ex (some 13) (.bool false) rfl rfl (exec_pick _ _ _ rfl false rfl (.bool false) rfl) ?_
  go_frame
  refine wpList_nil ?_
  go_upto_region 3 with (fail)
  refine wp_region_lit ?_
  refine ls_ex (some 15) (.pointer (some ⟨w.heap.size, 0, none⟩)) rfl rfl (exec_fieldAddr 28 _ 0 rfl _ (by kernel_rfl)) ?_
  go_frame
  refine ls_ex (some 16) (.int .i64 xp) rfl rfl (exec_load_one 2 _ rfl w.heap.size 0 rfl (.int .i64 xp) _ Try.underlying2 rfl (hz5.at_ 0)) ?_
  go_frame
  refine ls_ex (some 17) (.pointer (some ⟨Wz2.heap.size, 0, none⟩)) rfl rfl (exec_fieldAddr 28 _ 0 rfl _ (by kernel_rfl)) ?_
  go_frame
  refine ls_ex (some 18) (.int .i64 yp) rfl rfl (exec_load_one 2 _ rfl Wz2.heap.size 0 rfl (.int .i64 yp) _ Try.underlying2 rfl (hz11.at_ 0)) ?_
  go_frame
  refine ls_ex (some 19) (.bool true) rfl rfl (exec_neq _ _ _ _ rfl xp yp rfl rfl true HP.out) ?_
  go_frame
  refine wpList_nil ?_
  go_upto_region 4 with (fail)
  refine wp_region_lit ?_
  refine ls_ex (some 20) (.agg #[.int .i64 0, .int .i64 0, .int .i64 0, .int .i64 0, .slice none 0 0]) rfl rfl (exec_build_nil 28 rfl _ (by kernel_rfl)) ?_
  go_frame
  refine ls_op rfl (fun K' hK' => ?_)
  refine wp_store_all 28 _ _ rfl rfl Wz8.heap.size rfl #[.int .i64 0, .int .i64 0, .int .i64 0, .int .i64 0, .slice none 0 0] rfl _ _ hz18 5 (by kernel_rfl) rfl rfl (one5 _ _ _ _ _ _ _) (fun Wz31 pz32 => ?_)
  replace hB := pz32.below hB (by omega)
  replace hz5 := pz32.other hz5 (by omega)
  replace hz11 := pz32.other hz11 (by omega)
  replace hz18 : At Wz31 Wz8.heap.size (.cells #[.int .i64 0, .int .i64 0, .int .i64 0, .int .i64 0, .slice none 0 0] 28 (0, 0)) := pz32.at_
  refine hK' _ _ ?_
  clear hK' K' pz32
  refine ls_ex (some 5) (.int .i64 2) rfl rfl (exec_assign _ rfl (.int .i64 2) rfl) ?_
  go_frame
  refine wpList_nil ?_
  go_wp2_with fail
  refine bodyPost_ret (results_at2 rfl _ _ Wz8.heap.size _ _ _ rfl _ rfl hz18 Try.underlying28 rfl 5 (by kernel_rfl) rfl) rfl ?_
  unfold ResH hZ hL
  rw [HC.out]
  exact ⟨_, rfl, Own.nil _ _, hB⟩
set_option maxHeartbeats 12800000 in
theorem implKm_c (P n m k : Nat) (A : Option Addr) (c : Nat) (qs : List (List Nat)) (u v t : Nat) (B : Option Addr) (d : Nat) (rs : List (List Nat)) (w : World) (hR : Rd w A qs) (hlx : qs.length ≤ 1048576) (hS : Rd w B rs) (hly : rs.length ≤ 1048576) (hx : methB P n m k qs = true) (hy : methB P u v t rs = true) (hc : ¬ (n * u ≤ 9 ∧ m * v ≤ 9 ∧ k * t ≤ 9)) :
    Calls Try.prog 9 #[.agg #[.int .i64 (P : Nat), .int .i64 (n : Nat), .int .i64 (m : Nat), .int .i64 (k : Nat), .slice A qs.length c], .agg #[.int .i64 (P : Nat), .int .i64 (u : Nat), .int .i64 (v : Nat), .int .i64 (t : Nat), .slice B rs.length d]] w (ResH w (hZ (kmCode P n m k qs P u v t rs) P) (hZ (kmCode P n m k qs P u v t rs) (n * u)) (hZ (kmCode P n m k qs P u v t rs) (m * v)) (hZ (kmCode P n m k qs P u v t rs) (k * t)) (hL (kmCode P n m k qs P u v t rs) (kmR P n m k u v t qs rs)) (kmCode P n m k qs P u v t rs)) := by
  have hB := Below.refl w.heap.size w
  obtain ⟨s0, s1, s2, s3, hl30, _⟩ := methB_parts hx
  obtain ⟨_, t1, t2, t3, hs30, _⟩ := methB_parts hy
  have hP : 2 ≤ P ∧ P ≤ 5 := by have := prime_le5 s0; omega
  have b1 : 1 ≤ n ∧ n ≤ 9 := by simp only [sideB, Bool.and_eq_true, decide_eq_true_eq] at s1; omega
  have b2 : 1 ≤ m ∧ m ≤ 9 := by simp only [sideB, Bool.and_eq_true, decide_eq_true_eq] at s2; omega
  have b3 : 1 ≤ k ∧ k ≤ 9 := by simp only [sideB, Bool.and_eq_true, decide_eq_true_eq] at s3; omega
  have b4 : 1 ≤ u ∧ u ≤ 9 := by simp only [sideB, Bool.and_eq_true, decide_eq_true_eq] at t1; omega
  have b5 : 1 ≤ v ∧ v ≤ 9 := by simp only [sideB, Bool.and_eq_true, decide_eq_true_eq] at t2; omega
  have b6 : 1 ≤ t ∧ t ≤ 9 := by simp only [sideB, Bool.and_eq_true, decide_eq_true_eq] at t3; omega
  obtain ⟨N1, hN1⟩ : ∃ N, n * u = N := ⟨_, rfl⟩
  obtain ⟨N2, hN2⟩ : ∃ N, m * v = N := ⟨_, rfl⟩
  obtain ⟨N3, hN3⟩ : ∃ N, k * t = N := ⟨_, rfl⟩
  obtain ⟨LL, hLL⟩ : ∃ N, qs.length * rs.length = N := ⟨_, rfl⟩
  have c1 : N1 ≤ 9 * 9 := by rw [← hN1]; exact Nat.mul_le_mul b1.2 b4.2
  have c2 : N2 ≤ 9 * 9 := by rw [← hN2]; exact Nat.mul_le_mul b2.2 b5.2
  have c3 : N3 ≤ 9 * 9 := by rw [← hN3]; exact Nat.mul_le_mul b3.2 b6.2
  have c4 : LL ≤ 30 * 30 := by rw [← hLL]; exact Nat.mul_le_mul hl30 hs30
  have e1 : (n : Int) * (u : Int) = (N1 : Int) := by rw [← hN1]; simp
  have e2 : (m : Int) * (v : Int) = (N2 : Int) := by rw [← hN2]; simp
  have e3 : (k : Int) * (t : Int) = (N3 : Int) := by rw [← hN3]; simp
  have e4 : (qs.length : Int) * (rs.length : Int) = (LL : Int) := by rw [← hLL]; simp
  have HN1 : Hid (IntKind.i64.wrap ((n : Int) * (u : Int)) = (N1 : Int)) := Lib.hid (by rw [e1]; exact IntWalk.i64_in _ (by omega))
  have HN2 : Hid (IntKind.i64.wrap ((m : Int) * (v : Int)) = (N2 : Int)) := Lib.hid (by rw [e2]; exact IntWalk.i64_in _ (by omega))
  have HN3 : Hid (IntKind.i64.wrap ((k : Int) * (t : Int)) = (N3 : Int)) := Lib.hid (by rw [e3]; exact IntWalk.i64_in _ (by omega))
  have HLL : Hid (IntKind.i64.wrap ((qs.length : Int) * (rs.length : Int)) = (LL : Int)) := Lib.hid (by rw [e4]; exact IntWalk.i64_in _ (by omega))
  have HX := Lib.hid hx
  have HY := Lib.hid hy
  rw [hN1, hN2, hN3] at hc
  have HC : Hid (kmCode P n m k qs P u v t rs = 3) := Lib.hid (by unfold kmCode; rw [hx, hy, e1, e2, e3, hLL]; simp; omega)
  have HAL : Hid ((sideB (N1 : Int) && sideB (N2 : Int) && sideB (N3 : Int)) = false) := Lib.hid (by
    have d1 : 1 ≤ N1 := by rw [← hN1]; exact Nat.mul_pos b1.1 b4.1
    have d2 : 1 ≤ N2 := by rw [← hN2]; exact Nat.mul_pos b2.1 b5.1
    have d3 : 1 ≤ N3 := by rw [← hN3]; exact Nat.mul_pos b3.1 b6.1
    rw [Bool.eq_false_iff]; simp [sideB]; omega)
  rw [e1, e2, e3]
  clear hx hy s0 s1 s2 s3 t1 t2 t3 hN1 hN2 hN3 hLL e1 e2 e3 e4 b1 b2 b3 b4 b5 b6
  go_enter Try.func9, Try.ntmps9
  go_upto_region 0 with (fail)
  refine wp_region_lit ?_
  refine ls_op rfl (fun K' hK' => ?_)
  have lz1 := hB.size
  refine wp_new (some 2) rfl (exec_box 28 _ rfl (#[.int .i64 (P : Nat), .int .i64 (n : Nat), .int .i64 (m : Nat), .int .i64 (k : Nat), .slice A qs.length c]) rfl) (fun Wz2 nnz3 => ?_)
  have bz4 := nnz3.below (Below.refl _ _) (Nat.le_refl _)
  replace hB := below_after hB bz4
  have hz5 : At Wz2 w.heap.size (.cells #[.int .i64 (P : Nat), .int .i64 (n : Nat), .int .i64 (m : Nat), .int .i64 (k : Nat), .slice A qs.length c] 28 (0, 0)) := nnz3.at_
  refine hK' _ _ ?_
  clear hK' K' nnz3 bz4
  go_frame
  refine ls_op rfl (fun K' hK' => ?_)
  have lz6 := hB.size
  have lz7 := hz5.lt
  refine wp_new (some 3) rfl (exec_box 28 _ rfl (#[.int .i64 (P : Nat), .int .i64 (u : Nat), .int .i64 (v : Nat), .int .i64 (t : Nat), .slice B rs.length d]) rfl) (fun Wz8 nnz9 => ?_)
  have bz10 := nnz9.below (Below.refl _ _) (Nat.le_refl _)
  replace hB := below_after hB bz10
  replace hz5 := hz5.after bz10
  have hz11 : At Wz8 Wz2.heap.size (.cells #[.int .i64 (P : Nat), .int .i64 (u : Nat), .int .i64 (v : Nat), .int .i64 (t : Nat), .slice B rs.length d] 28 (0, 0)) := nnz9.at_
  refine hK' _ _ ?_
  clear hK' K' nnz9 bz10
  go_frame
  refine ls_op rfl (fun K' hK' => ?_)
  have lz12 := hB.size
  have lz13 := hz5.lt
  have lz14 := hz11.lt
  refine wp_new (some 4) rfl (alY_impl_Method rfl) (fun Wz15 nnz16 => ?_)
  have bz17 := nnz16.below (Below.refl _ _) (Nat.le_refl _)
  replace hB := below_after hB bz17
  replace hz5 := hz5.after bz17
  replace hz11 := hz11.after bz17
  have hz18 : At Wz15 Wz8.heap.size (.cells #[.int .i64 0, .int .i64 0, .int .i64 0, .int .i64 0, .slice none 0 0] 28 (0, 0)) := nnz16.at_
  refine hK' _ _ ?_
  clear hK' K' nnz16 bz17
  go_frame
  refine ls_ex (some 5) (.int .i64 0) rfl rfl (exec_assign _ rfl (.int .i64 0) rfl) ?_
  go_frame
  refine wpList_nil ?_
  go_upto_region 1 with (fail)
  refine wp_region_lit ?_
  refine ls_ex (some 6) (.agg #[.int .i64 (P : Nat), .int .i64 (n : Nat), .int .i64 (m : Nat), .int .i64 (k : Nat), .slice A qs.length c]) rfl rfl (exec_load_all 28 _ rfl w.heap.size rfl _ _ _ hz5 Try.underlying28 rfl 5 (by kernel_rfl) rfl) ?_
  go_frame
  refine ls_op rfl (fun K' hK' => ?_)
  have lz21 := hB.size
  have lz22 := hz5.lt
  have lz23 := hz11.lt
  have lz24 := hz18.lt
  refine wp_call1 (some 7) rfl 26 _ _ rfl (fun args w => by kernel_rfl) _ rfl _ (implIsMethod_c (P : Nat) (n : Nat) (m : Nat) (k : Nat) A c qs _ (hR.keep hB) hlx) (fun e Wz19 h => ?_)
  obtain ⟨rfl, bz20⟩ := h
  replace hB := below_after hB bz20
  replace hz5 := hz5.after bz20
  replace hz11 := hz11.after bz20
  replace hz18 := hz18.after bz20
  rw [HX.out]
  clear bz20
  refine ⟨_, rfl, ?_⟩
  refine hK' _ _ ?_
  clear hK' K'
  go_frame
  refine ls_ex (some 8) (.bool false) rfl rfl (exec_not _ _ rfl true rfl) ?_
  go_frame
  refine ls_ex (some 9) (.bool false) rfl rfl (exec_move _ rfl (.bool false) rfl) ?_
  go_frame
  refine ls_ex_g (some 10) (.agg #[.int .i64 (P : Nat), .int .i64 (u : Nat), .int .i64 (v : Nat), .int .i64 (t : Nat), .slice B rs.length d]) rfl rfl (exec_load_all 28 _ rfl Wz2.heap.size rfl _ _ _ hz11 Try.underlying28 rfl 5 (by kernel_rfl) rfl) ?_
  go_frame
  refine ls_op_g rfl (fun K' hK' => ?_)
  have lz27 := hB.size
  have lz28 := hz5.lt
  have lz29 := hz11.lt
  have lz30 := hz18.lt
  refine wp_call1 (some 11) rfl 26 _ _ rfl (fun args w => by kernel_rfl) _ rfl _ (implIsMethod_c (P : Nat) (u : Nat) (v : Nat) (t : Nat) B d rs _ (hS.keep hB) hly) (fun e Wz25 h => ?_)
  obtain ⟨rfl, bz26⟩ := h
  replace hB := below_after hB bz26
  replace hz5 := hz5.after bz26
  replace hz11 := hz11.after bz26
  replace hz18 := hz18.after bz26
  rw [HY.out]
  clear bz26
  refine ⟨_, rfl, ?_⟩
  refine hK' _ _ ?_
  clear hK' K'
  go_frame
  refine ls_ex_g (some 12) (.bool false) rfl rfl (exec_not _ _ rfl true rfl) ?_
  go_frame
  refine ls_ex (some 13) (.bool false) rfl rfl (exec_pick _ _ _ rfl false rfl (.bool false) rfl) ?_
  go_frame
  refine wpList_nil ?_
  go_upto_region 3 with (fail)
  refine wp_region_lit ?_
  refine ls_ex (some 15) (.pointer (some ⟨w.heap.size, 0, none⟩)) rfl rfl (exec_fieldAddr 28 _ 0 rfl _ (by kernel_rfl)) ?_
  go_frame
  refine ls_ex (some 16) (.int .i64 (P : Nat)) rfl rfl (exec_load_one 2 _ rfl w.heap.size 0 rfl (.int .i64 (P : Nat)) _ Try.underlying2 rfl (hz5.at_ 0)) ?_
  go_frame
  refine ls_ex (some 17) (.pointer (some ⟨Wz2.heap.size, 0, none⟩)) rfl rfl (exec_fieldAddr 28 _ 0 rfl _ (by kernel_rfl)) ?_
  go_frame
  refine ls_ex (some 18) (.int .i64 (P : Nat)) rfl rfl (exec_load_one 2 _ rfl Wz2.heap.size 0 rfl (.int .i64 (P : Nat)) _ Try.underlying2 rfl (hz11.at_ 0)) ?_
  go_frame
  refine ls_ex (some 19) (.bool false) rfl rfl (exec_neq _ _ _ _ rfl ((P : Nat)) ((P : Nat)) rfl rfl false (by simp)) ?_
  go_frame
  refine wpList_nil ?_
  go_upto_region 5 with (fail)
  refine wp_region_y (zs := []) (S := fun w' => Below w.heap.size w w' ∧ At w' w.heap.size (.cells #[.int .i64 (P : Nat), .int .i64 (n : Nat), .int .i64 (m : Nat), .int .i64 (k : Nat), .slice A qs.length c] 28 (0, 0)) ∧ At w' Wz2.heap.size (.cells #[.int .i64 (P : Nat), .int .i64 (u : Nat), .int .i64 (v : Nat), .int .i64 (t : Nat), .slice B rs.length d] 28 (0, 0))) (S2 := fun w' => True) (by kernel_rfl) ?_
  change wpAnyY _ _ _ _ _ _ _ _ _ _ (World.drew _)
  generalize hwdz31 : World.drew _ = wdz31
  replace hB : Below w.heap.size w wdz31 := by rw [← hwdz31]; exact hB.drew
  replace hz5 : At wdz31 w.heap.size (.cells #[.int .i64 (P : Nat), .int .i64 (n : Nat), .int .i64 (m : Nat), .int .i64 (k : Nat), .slice A qs.length c] 28 (0, 0)) := by rw [← hwdz31]; exact hz5
  replace hz11 : At wdz31 Wz2.heap.size (.cells #[.int .i64 (P : Nat), .int .i64 (u : Nat), .int .i64 (v : Nat), .int .i64 (t : Nat), .slice B rs.length d] 28 (0, 0)) := by rw [← hwdz31]; exact hz11
  replace hz18 : At wdz31 Wz8.heap.size (.cells #[.int .i64 0, .int .i64 0, .int .i64 0, .int .i64 0, .slice none 0 0] 28 (0, 0)) := by rw [← hwdz31]; exact hz18
  clear hwdz31
  refine y_yield 0 (some 21) (.agg #[.int .i64 (P : Nat), .int .i64 (n : Nat), .int .i64 (m : Nat), .int .i64 (k : Nat), .slice A qs.length c]) rfl (by kernel_rfl) (by kernel_rfl) (by kernel_rfl) (fun _ _ _ h => h) rfl rfl ⟨hB, hz5, hz11⟩ (fun w' h' => exec_load_all 28 _ rfl w.heap.size rfl _ _ _ h'.2.1 Try.underlying28 rfl 5 (by kernel_rfl) rfl) ?_
  go_frame
  refine y_yield 2 (some 23) (.agg #[.int .i64 (P : Nat), .int .i64 (u : Nat), .int .i64 (v : Nat), .int .i64 (t : Nat), .slice B rs.length d]) rfl (by kernel_rfl) (by kernel_rfl) (by kernel_rfl) (fun _ _ _ h => h) rfl rfl ⟨hB, hz5, hz11⟩ (fun w' h' => exec_load_all 28 _ rfl Wz2.heap.size rfl _ _ _ h'.2.2 Try.underlying28 rfl 5 (by kernel_rfl) rfl) ?_
  go_frame
  refine y_oper 1 (by kernel_rfl) rfl rfl (fun K' hK' => ?_)
  have lz34 := hB.size
  have lz35 := hz5.lt
  have lz36 := hz11.lt
  have lz37 := hz18.lt
  refine wp_call1 (some 22) rfl 27 _ _ rfl (fun args w => by kernel_rfl) _ rfl _ (mSides_c _ _ _ _ _ _) (fun e Wz32 h => ?_)
  obtain ⟨rfl, bz33⟩ := h
  replace hB := below_after hB bz33
  replace hz5 := hz5.after bz33
  replace hz11 := hz11.after bz33
  replace hz18 := hz18.after bz33
  clear bz33
  refine ⟨_, rfl, ?_⟩
  refine hK' _ _ ⟨hB, hz5, hz11⟩ (fun _ => trivial) ?_
  clear hK' K'
  go_frame
  refine y_oper 3 (by kernel_rfl) rfl rfl (fun K' hK' => ?_)
  have lz40 := hB.size
  have lz41 := hz5.lt
  have lz42 := hz11.lt
  have lz43 := hz18.lt
  refine wp_call1 (some 24) rfl 27 _ _ rfl (fun args w => by kernel_rfl) _ rfl _ (mSides_c _ _ _ _ _ _) (fun e Wz38 h => ?_)
  obtain ⟨rfl, bz39⟩ := h
  replace hB := below_after hB bz39
  replace hz5 := hz5.after bz39
  replace hz11 := hz11.after bz39
  replace hz18 := hz18.after bz39
  clear bz39
  refine ⟨_, rfl, ?_⟩
  refine hK' _ _ ⟨hB, hz5, hz11⟩ (fun _ => trivial) ?_
  clear hK' K'
  go_frame
  refine y_oper 4 (by kernel_rfl) rfl rfl (fun K' hK' => ?_)
  have lz46 := hB.size
  have lz47 := hz5.lt
  have lz48 := hz11.lt
  have lz49 := hz18.lt
  refine wp_call2 (some 25) rfl 28 _ _ _ rfl (fun args w => by kernel_rfl) _ _ rfl rfl _ (timesK_c n m k u v t N1 N2 N3 HN1.out HN2.out HN3.out _) (fun e Wz44 h => ?_)
  obtain ⟨rfl, bz45⟩ := h
  replace hB := below_after hB bz45
  replace hz5 := hz5.after bz45
  replace hz11 := hz11.after bz45
  replace hz18 := hz18.after bz45
  clear bz45
  refine ⟨_, rfl, ?_⟩
  refine hK' _ _ ⟨hB, hz5, hz11⟩ (fun _ => trivial) ?_
  clear hK' K'
  go_frame
  refine y_oper 5 (by kernel_rfl) rfl rfl (fun K' hK' => ?_)
  have lz52 := hB.size
  have lz53 := hz5.lt
  have lz54 := hz11.lt
  have lz55 := hz18.lt
  refine wp_call1 (some 26) rfl 29 _ _ rfl (fun args w => by kernel_rfl) _ rfl _ (isAllowed_c N1 N2 N3 _) (fun e Wz50 h => ?_)
  obtain ⟨rfl, bz51⟩ := h
  replace hB := below_after hB bz51
  replace hz5 := hz5.after bz51
  replace hz11 := hz11.after bz51
  replace hz18 := hz18.after bz51
  rw [HAL.out]
  clear bz51
  refine ⟨_, rfl, ?_⟩
  refine hK' _ _ ⟨hB, hz5, hz11⟩ (fun _ => trivial) ?_
  clear hK' K'
  go_frame
  refine y_yield 6 (some 27) (.bool true) rfl (by kernel_rfl) (by kernel_rfl) (by kernel_rfl) (fun _ _ _ h => h) rfl rfl ⟨hB, hz5, hz11⟩ (fun w' h' => exec_not _ _ rfl false rfl) ?_
  go_frame
  refine y_done (by kernel_rfl) ?_ _
  go_upto_region 6 with (fail)
  refine wp_region_lit ?_
  refine ls_ex (some 28) (.agg #[.int .i64 0, .int .i64 0, .int .i64 0, .int .i64 0, .slice none 0 0]) rfl rfl (exec_build_nil 28 rfl _ (by kernel_rfl)) ?_
  go_frame
  refine ls_op rfl (fun K' hK' => ?_)
  refine wp_store_all 28 _ _ rfl rfl Wz8.heap.size rfl #[.int .i64 0, .int .i64 0, .int .i64 0, .int .i64 0, .slice none 0 0] rfl _ _ hz18 5 (by kernel_rfl) rfl rfl (one5 _ _ _ _ _ _ _) (fun Wz56 pz57 => ?_)
  replace hB := pz57.below hB (by omega)
  replace hz5 := pz57.other hz5 (by omega)
  replace hz11 := pz57.other hz11 (by omega)
  replace hz18 : At Wz56 Wz8.heap.size (.cells #[.int .i64 0, .int .i64 0, .int .i64 0, .int .i64 0, .slice none 0 0] 28 (0, 0)) := pz57.at_
  refine hK' _ _ ?_
  clear hK' K' pz57
  refine ls_ex (some 5) (.int .i64 3) rfl rfl (exec_assign _ rfl (.int .i64 3) rfl) ?_
  go_frame
  refine wpList_nil ?_
  go_wp2_with fail
  refine bodyPost_ret (results_at2 rfl _ _ Wz8.heap.size _ _ _ rfl _ rfl hz18 Try.underlying28 rfl 5 (by kernel_rfl) rfl) rfl ?_
  unfold ResH hZ hL
  rw [HC.out]
  exact ⟨_, rfl, Own.nil _ _, hB⟩
set_option maxHeartbeats 12800000 in
theorem implKm_d (P n m k : Nat) (A : Option Addr) (c : Nat) (qs : List (List Nat)) (u v t : Nat) (B : Option Addr) (d : Nat) (rs : List (List Nat)) (w : World) (hR : Rd w A qs) (hlx : qs.length ≤ 1048576) (hS : Rd w B rs) (hly : rs.length ≤ 1048576) (hx : methB P n m k qs = true) (hy : methB P u v t rs = true) (h1 : n * u ≤ 9) (h2 : m * v ≤ 9) (h3 : k * t ≤ 9) (hc : 30 < qs.length * rs.length) :
    Calls Try.prog 9 #[.agg #[.int .i64 (P : Nat), .int .i64 (n : Nat), .int .i64 (m : Nat), .int .i64 (k : Nat), .slice A qs.length c], .agg #[.int .i64 (P : Nat), .int .i64 (u : Nat), .int .i64 (v : Nat), .int .i64 (t : Nat), .slice B rs.length d]] w (ResH w (hZ (kmCode P n m k qs P u v t rs) P) (hZ (kmCode P n m k qs P u v t rs) (n * u)) (hZ (kmCode P n m k qs P u v t rs) (m * v)) (hZ (kmCode P n m k qs P u v t rs) (k * t)) (hL (kmCode P n m k qs P u v t rs) (kmR P n m k u v t qs rs)) (kmCode P n m k qs P u v t rs)) := by
  have hB := Below.refl w.heap.size w
  obtain ⟨s0, s1, s2, s3, hl30, _⟩ := methB_parts hx
  obtain ⟨_, t1, t2, t3, hs30, _⟩ := methB_parts hy
  have hP : 2 ≤ P ∧ P ≤ 5 := by have := prime_le5 s0; omega
  have b1 : 1 ≤ n ∧ n ≤ 9 := by simp only [sideB, Bool.and_eq_true, decide_eq_true_eq] at s1; omega
  have b2 : 1 ≤ m ∧ m ≤ 9 := by simp only [sideB, Bool.and_eq_true, decide_eq_true_eq] at s2; omega
  have b3 : 1 ≤ k ∧ k ≤ 9 := by simp only [sideB, Bool.and_eq_true, decide_eq_true_eq] at s3; omega
  have b4 : 1 ≤ u ∧ u ≤ 9 := by simp only [sideB, Bool.and_eq_true, decide_eq_true_eq] at t1; omega
  have b5 : 1 ≤ v ∧ v ≤ 9 := by simp only [sideB, Bool.and_eq_true, decide_eq_true_eq] at t2; omega
  have b6 : 1 ≤ t ∧ t ≤ 9 := by simp only [sideB, Bool.and_eq_true, decide_eq_true_eq] at t3; omega
  obtain ⟨N1, hN1⟩ : ∃ N, n * u = N := ⟨_, rfl⟩
  obtain ⟨N2, hN2⟩ : ∃ N, m * v = N := ⟨_, rfl⟩
  obtain ⟨N3, hN3⟩ : ∃ N, k * t = N := ⟨_, rfl⟩
  obtain ⟨LL, hLL⟩ : ∃ N, qs.length * rs.length = N := ⟨_, rfl⟩
  have c1 : N1 ≤ 9 * 9 := by rw [← hN1]; exact Nat.mul_le_mul b1.2 b4.2
  have c2 : N2 ≤ 9 * 9 := by rw [← hN2]; exact Nat.mul_le_mul b2.2 b5.2
  have c3 : N3 ≤ 9 * 9 := by rw [← hN3]; exact Nat.mul_le_mul b3.2 b6.2
  have c4 : LL ≤ 30 * 30 := by rw [← hLL]; exact Nat.mul_le_mul hl30 hs30
  have e1 : (n : Int) * (u : Int) = (N1 : Int) := by rw [← hN1]; simp
  have e2 : (m : Int) * (v : Int) = (N2 : Int) := by rw [← hN2]; simp
  have e3 : (k : Int) * (t : Int) = (N3 : Int) := by rw [← hN3]; simp
  have e4 : (qs.length : Int) * (rs.length : Int) = (LL : Int) := by rw [← hLL]; simp
  have HN1 : Hid (IntKind.i64.wrap ((n : Int) * (u : Int)) = (N1 : Int)) := Lib.hid (by rw [e1]; exact IntWalk.i64_in _ (by omega))
  have HN2 : Hid (IntKind.i64.wrap ((m : Int) * (v : Int)) = (N2 : Int)) := Lib.hid (by rw [e2]; exact IntWalk.i64_in _ (by omega))
  have HN3 : Hid (IntKind.i64.wrap ((k : Int) * (t : Int)) = (N3 : Int)) := Lib.hid (by rw [e3]; exact IntWalk.i64_in _ (by omega))
  have HLL : Hid (IntKind.i64.wrap ((qs.length : Int) * (rs.length : Int)) = (LL : Int)) := Lib.hid (by rw [e4]; exact IntWalk.i64_in _ (by omega))
  have HX := Lib.hid hx
  have HY := Lib.hid hy
  rw [hN1] at h1
  rw [hN2] at h2
  rw [hN3] at h3
  rw [hLL] at hc
  have HC : Hid (kmCode P n m k qs P u v t rs = 3) := Lib.hid (by unfold kmCode; rw [hx, hy, e1, e2, e3, hLL]; simp; omega)
  have Hc1 : Hid (n * u ≤ 9) := Lib.hid (by rw [hN1]; exact h1)
  have Hc2 : Hid (m * v ≤ 9) := Lib.hid (by rw [hN2]; exact h2)
  have Hc3 : Hid (k * t ≤ 9) := Lib.hid (by rw [hN3]; exact h3)
  have bn := b1.1
  have bm := b2.1
  have bk := b3.1
  have bu := b4.1
  have bv := b5.1
  have bt := b6.1
  have HAL : Hid ((sideB (N1 : Int) && sideB (N2 : Int) && sideB (N3 : Int)) = true) := Lib.hid (by
    have d1 : 1 ≤ N1 := by rw [← hN1]; exact Nat.mul_pos b1.1 b4.1
    have d2 : 1 ≤ N2 := by rw [← hN2]; exact Nat.mul_pos b2.1 b5.1
    have d3 : 1 ≤ N3 := by rw [← hN3]; exact Nat.mul_pos b3.1 b6.1
    simp [sideB]; omega)
  have HXx := Lib.hid hx
  have HYx := Lib.hid hy
  have HN1x := Lib.hid hN1
  have HN2x := Lib.hid hN2
  have HN3x := Lib.hid hN3
  have H1x := Lib.hid h1
  have H2x := Lib.hid h2
  have H3x := Lib.hid h3
  have HCx : Hid (30 < qs.length * rs.length) := Lib.hid (by rw [hLL]; exact hc)
  rw [e1, e2, e3]
  clear hx hy s0 s1 s2 s3 t1 t2 t3 hN1 hN2 hN3 hLL e1 e2 e3 e4 b1 b2 b3 b4 b5 b6
  go_enter Try.func9, Try.ntmps9
  go_upto_region 0 with (fail)
  refine wp_region_lit ?_
  refine ls_op rfl (fun K' hK' => ?_)
  have lz1 := hB.size
  refine wp_new (some 2) rfl (exec_box 28 _ rfl (#[.int .i64 (P : Nat), .int .i64 (n : Nat), .int .i64 (m : Nat), .int .i64 (k : Nat), .slice A qs.length c]) rfl) (fun Wz2 nnz3 => ?_)
  have bz4 := nnz3.below (Below.refl _ _) (Nat.le_refl _)
  replace hB := below_after hB bz4
  have hz5 : At Wz2 w.heap.size (.cells #[.int .i64 (P : Nat), .int .i64 (n : Nat), .int .i64 (m : Nat), .int .i64 (k : Nat), .slice A qs.length c] 28 (0, 0)) := nnz3.at_
  refine hK' _ _ ?_
  clear hK' K' nnz3 bz4
  go_frame
  refine ls_op rfl (fun K' hK' => ?_)
  have lz6 := hB.size
  have lz7 := hz5.lt
  refine wp_new (some 3) rfl (exec_box 28 _ rfl (#[.int .i64 (P : Nat), .int .i64 (u : Nat), .int .i64 (v : Nat), .int .i64 (t : Nat), .slice B rs.length d]) rfl) (fun Wz8 nnz9 => ?_)
  have bz10 := nnz9.below (Below.refl _ _) (Nat.le_refl _)
  replace hB := below_after hB bz10
  replace hz5 := hz5.after bz10
  have hz11 : At Wz8 Wz2.heap.size (.cells #[.int .i64 (P : Nat), .int .i64 (u : Nat), .int .i64 (v : Nat), .int .i64 (t : Nat), .slice B rs.length d] 28 (0, 0)) := nnz9.at_
  refine hK' _ _ ?_
  clear hK' K' nnz9 bz10
  go_frame
  refine ls_op rfl (fun K' hK' => ?_)
  have lz12 := hB.size
  have lz13 := hz5.lt
  have lz14 := hz11.lt
  refine wp_new (some 4) rfl (alY_impl_Method rfl) (fun Wz15 nnz16 => ?_)
  have bz17 := nnz16.below (Below.refl _ _) (Nat.le_refl _)
  replace hB := below_after hB bz17
  replace hz5 := hz5.after bz17
  replace hz11 := hz11.after bz17
  have hz18 : At Wz15 Wz8.heap.size (.cells #[.int .i64 0, .int .i64 0, .int .i64 0, .int .i64 0, .slice none 0 0] 28 (0, 0)) := nnz16.at_
  refine hK' _ _ ?_
  clear hK' K' nnz16 bz17
  go_frame
  refine ls_ex (some 5) (.int .i64 0) rfl rfl (exec_assign _ rfl (.int .i64 0) rfl) ?_
  go_frame
  refine wpList_nil ?_
  go_upto_region 1 with (fail)
  refine wp_region_lit ?_
  refine ls_ex (some 6) (.agg #[.int .i64 (P : Nat), .int .i64 (n : Nat), .int .i64 (m : Nat), .int .i64 (k : Nat), .slice A qs.length c]) rfl rfl (exec_load_all 28 _ rfl w.heap.size rfl _ _ _ hz5 Try.underlying28 rfl 5 (by kernel_rfl) rfl) ?_
  go_frame
  refine ls_op rfl (fun K' hK' => ?_)
  have lz21 := hB.size
  have lz22 := hz5.lt
  have lz23 := hz11.lt
  have lz24 := hz18.lt
  refine wp_call1 (some 7) rfl 26 _ _ rfl (fun args w => by kernel_rfl) _ rfl _ (implIsMethod_c (P : Nat) (n : Nat) (m : Nat) (k : Nat) A c qs _ (hR.keep hB) hlx) (fun e Wz19 h => ?_)
  obtain ⟨rfl, bz20⟩ := h
  replace hB := below_after hB bz20
  replace hz5 := hz5.after bz20
  replace hz11 := hz11.after bz20
  replace hz18 := hz18.after bz20
  rw [HX.out]
  clear bz20
  refine ⟨_, rfl, ?_⟩
  refine hK' _ _ ?_
  clear hK' K'
  go_frame
  refine ls_ex (some 8) (.bool false) rfl rfl (exec_not _ _ rfl true rfl) ?_
  go_frame
  refine ls_ex (some 9) (.bool false) rfl rfl (exec_move _ rfl (.bool false) rfl) ?_
  go_frame
  refine ls_ex_g (some 10) (.agg #[.int .i64 (P : Nat), .int .i64 (u : Nat), .int .i64 (v : Nat), .int .i64 (t : Nat), .slice B rs.length d]) rfl rfl (exec_load_all 28 _ rfl Wz2.heap.size rfl _ _ _ hz11 Try.underlying28 rfl 5 (by kernel_rfl) rfl) ?_
  go_frame
  refine ls_op_g rfl (fun K' hK' => ?_)
  have lz27 := hB.size
  have lz28 := hz5.lt
  have lz29 := hz11.lt
  have lz30 := hz18.lt
  refine wp_call1 (some 11) rfl 26 _ _ rfl (fun args w => by kernel_rfl) _ rfl _ (implIsMethod_c (P : Nat) (u : Nat) (v : Nat) (t : Nat) B d rs _ (hS.keep hB) hly) (fun e Wz25 h => ?_)
  obtain ⟨rfl, bz26⟩ := h
  replace hB := below_after hB bz26
  replace hz5 := hz5.after bz26
  replace hz11 := hz11.after bz26
  replace hz18 := hz18.after bz26
  rw [HY.out]
  clear bz26
  refine ⟨_, rfl, ?_⟩
  refine hK' _ _ ?_
  clear hK' K'
  go_frame
  refine ls_ex_g (some 12) (.bool false) rfl rfl (exec_not _ _ rfl true rfl) ?_
  go_frame
  refine ls_ex (some 13) (.bool false) rfl rfl (exec_pick _ _ _ rfl false rfl (.bool false) rfl) ?_
  go_frame
  refine wpList_nil ?_
  go_upto_region 3 with (fail)
  refine wp_region_lit ?_
  refine ls_ex (some 15) (.pointer (some ⟨w.heap.size, 0, none⟩)) rfl rfl (exec_fieldAddr 28 _ 0 rfl _ (by kernel_rfl)) ?_
  go_frame
  refine ls_ex (some 16) (.int .i64 (P : Nat)) rfl rfl (exec_load_one 2 _ rfl w.heap.size 0 rfl (.int .i64 (P : Nat)) _ Try.underlying2 rfl (hz5.at_ 0)) ?_
  go_frame
  refine ls_ex (some 17) (.pointer (some ⟨Wz2.heap.size, 0, none⟩)) rfl rfl (exec_fieldAddr 28 _ 0 rfl _ (by kernel_rfl)) ?_
  go_frame
  refine ls_ex (some 18) (.int .i64 (P : Nat)) rfl rfl (exec_load_one 2 _ rfl Wz2.heap.size 0 rfl (.int .i64 (P : Nat)) _ Try.underlying2 rfl (hz11.at_ 0)) ?_
  go_frame
  refine ls_ex (some 19) (.bool false) rfl rfl (exec_neq _ _ _ _ rfl ((P : Nat)) ((P : Nat)) rfl rfl false (by simp)) ?_
  go_frame
  refine wpList_nil ?_
  go_upto_region 5 with (fail)
  refine wp_region_y (zs := []) (S := fun w' => Below w.heap.size w w' ∧ At w' w.heap.size (.cells #[.int .i64 (P : Nat), .int .i64 (n : Nat), .int .i64 (m : Nat), .int .i64 (k : Nat), .slice A qs.length c] 28 (0, 0)) ∧ At w' Wz2.heap.size (.cells #[.int .i64 (P : Nat), .int .i64 (u : Nat), .int .i64 (v : Nat), .int .i64 (t : Nat), .slice B rs.length d] 28 (0, 0))) (S2 := fun w' => True) (by kernel_rfl) ?_
  change wpAnyY _ _ _ _ _ _ _ _ _ _ (World.drew _)
  generalize hwdz31 : World.drew _ = wdz31
  replace hB : Below w.heap.size w wdz31 := by rw [← hwdz31]; exact hB.drew
  replace hz5 : At wdz31 w.heap.size (.cells #[.int .i64 (P : Nat), .int .i64 (n : Nat), .int .i64 (m : Nat), .int .i64 (k : Nat), .slice A qs.length c] 28 (0, 0)) := by rw [← hwdz31]; exact hz5
  replace hz11 : At wdz31 Wz2.heap.size (.cells #[.int .i64 (P : Nat), .int .i64 (u : Nat), .int .i64 (v : Nat), .int .i64 (t : Nat), .slice B rs.length d] 28 (0, 0)) := by rw [← hwdz31]; exact hz11
  replace hz18 : At wdz31 Wz8.heap.size (.cells #[.int .i64 0, .int .i64 0, .int .i64 0, .int .i64 0, .slice none 0 0] 28 (0, 0)) := by rw [← hwdz31]; exact hz18
  clear hwdz31
  refine y_yield 0 (some 21) (.agg #[.int .i64 (P : Nat), .int .i64 (n : Nat), .int .i64 (m : Nat), .int .i64 (k : Nat), .slice A qs.length c]) rfl (by kernel_rfl) (by kernel_rfl) (by kernel_rfl) (fun _ _ _ h => h) rfl rfl ⟨hB, hz5, hz11⟩ (fun w' h' => exec_load_all 28 _ rfl w.heap.size rfl _ _ _ h'.2.1 Try.underlying28 rfl 5 (by kernel_rfl) rfl) ?_
  go_frame
  refine y_yield 2 (some 23) (.agg #[.int .i64 (P : Nat), .int .i64 (u : Nat), .int .i64 (v : Nat), .int .i64 (t : Nat), .slice B rs.length d]) rfl (by kernel_rfl) (by kernel_rfl) (by kernel_rfl) (fun _ _ _ h => h) rfl rfl ⟨hB, hz5, hz11⟩ (fun w' h' => exec_load_all 28 _ rfl Wz2.heap.size rfl _ _ _ h'.2.2 Try.underlying28 rfl 5 (by kernel_rfl) rfl) ?_
  go_frame
  refine y_oper 1 (by kernel_rfl) rfl rfl (fun K' hK' => ?_)
  have lz34 := hB.size
  have lz35 := hz5.lt
  have lz36 := hz11.lt
  have lz37 := hz18.lt
  refine wp_call1 (some 22) rfl 27 _ _ rfl (fun args w => by kernel_rfl) _ rfl _ (mSides_c _ _ _ _ _ _) (fun e Wz32 h => ?_)
  obtain ⟨rfl, bz33⟩ := h
  replace hB := below_after hB bz33
  replace hz5 := hz5.after bz33
  replace hz11 := hz11.after bz33
  replace hz18 := hz18.after bz33
  clear bz33
  refine ⟨_, rfl, ?_⟩
  refine hK' _ _ ⟨hB, hz5, hz11⟩ (fun _ => trivial) ?_
  clear hK' K'
  go_frame
  refine y_oper 3 (by kernel_rfl) rfl rfl (fun K' hK' => ?_)
  have lz40 := hB.size
  have lz41 := hz5.lt
  have lz42 := hz11.lt
  have lz43 := hz18.lt
  refine wp_call1 (some 24) rfl 27 _ _ rfl (fun args w => by kernel_rfl) _ rfl _ (mSides_c _ _ _ _ _ _) (fun e Wz38 h => ?_)
  obtain ⟨rfl, bz39⟩ := h
  replace hB := below_after hB bz39
  replace hz5 := hz5.after bz39
  replace hz11 := hz11.after bz39
  replace hz18 := hz18.after bz39
  clear bz39
  refine ⟨_, rfl, ?_⟩
  refine hK' _ _ ⟨hB, hz5, hz11⟩ (fun _ => trivial) ?_
  clear hK' K'
  go_frame
  refine y_oper 4 (by kernel_rfl) rfl rfl (fun K' hK' => ?_)
  have lz46 := hB.size
  have lz47 := hz5.lt
  have lz48 := hz11.lt
  have lz49 := hz18.lt
  refine wp_call2 (some 25) rfl 28 _ _ _ rfl (fun args w => by kernel_rfl) _ _ rfl rfl _ (timesK_c n m k u v t N1 N2 N3 HN1.out HN2.out HN3.out _) (fun e Wz44 h => ?_)
  obtain ⟨rfl, bz45⟩ := h
  replace hB := below_after hB bz45
  replace hz5 := hz5.after bz45
  replace hz11 := hz11.after bz45
  replace hz18 := hz18.after bz45
  clear bz45
  refine ⟨_, rfl, ?_⟩
  refine hK' _ _ ⟨hB, hz5, hz11⟩ (fun _ => trivial) ?_
  clear hK' K'
  go_frame
  refine y_oper 5 (by kernel_rfl) rfl rfl (fun K' hK' => ?_)
  have lz52 := hB.size
  have lz53 := hz5.lt
  have lz54 := hz11.lt
  have lz55 := hz18.lt
  refine wp_call1 (some 26) rfl 29 _ _ rfl (fun args w => by kernel_rfl) _ rfl _ (isAllowed_c N1 N2 N3 _) (fun e Wz50 h => ?_)
  obtain ⟨rfl, bz51⟩ := h
  replace hB := below_after hB bz51
  replace hz5 := hz5.after bz51
  replace hz11 := hz11.after bz51
  replace hz18 := hz18.after bz51
  rw [HAL.out]
  clear bz51
  refine ⟨_, rfl, ?_⟩
  refine hK' _ _ ⟨hB, hz5, hz11⟩ (fun _ => trivial) ?_
  clear hK' K'
  go_frame
  refine y_yield 6 (some 27) (.bool false) rfl (by kernel_rfl) (by kernel_rfl) (by kernel_rfl) (fun _ _ _ h => h) rfl rfl ⟨hB, hz5, hz11⟩ (fun w' h' => exec_not _ _ rfl true rfl) ?_
  go_frame
  refine y_done (by kernel_rfl) ?_ _
  go_upto_region 7 with (fail)
  refine wp_region_lit ?_
  refine ls_ex (some 29) (.func (.func 31) #[] #[.pointer (some ⟨w.heap.size, 0, none⟩), .pointer (some ⟨Wz2.heap.size, 0, none⟩)]) rfl rfl (exec_mkfn2p _ _ _ rfl _ _ rfl rfl) ?_
  go_frame
  refine ls_op rfl (fun K' hK' => ?_)
  have lz58 := hB.size
  have lz59 := hz5.lt
  have lz60 := hz11.lt
  have lz61 := hz18.lt
  refine wp_call1 (some 30) rfl 30 _ _ rfl (fun args w => by kernel_rfl) _ rfl _ (doorM_no 31 #[.pointer (some ⟨w.heap.size, 0, none⟩), .pointer (some ⟨Wz2.heap.size, 0, none⟩)] _ (fun w => by kernel_rfl) (fun w1 hb => kmF_no P n m k A c qs u v t B d rs N1 N2 N3 w.heap.size Wz2.heap.size w1 (hz5.after hb) (hz11.after hb) (hR.keep (hB.trans (hb.mono hB.size))) (hS.keep (hB.trans (hb.mono hB.size))) HXx.out HYx.out HN1x.out HN2x.out HN3x.out H1x.out H2x.out H3x.out HCx.out)) (fun e Wz56 h => ?_)
  obtain ⟨rfl, bz57⟩ := h
  replace hB := below_after hB bz57
  replace hz5 := hz5.after bz57
  replace hz11 := hz11.after bz57
  replace hz18 := hz18.after bz57
  clear bz57
  refine ⟨_, rfl, ?_⟩
  refine hK' _ _ ?_
  clear hK' K'
  go_frame
  refine ls_ex (some 31) (.agg #[.int .i64 0, .int .i64 0, .int .i64 0, .int .i64 0, .slice none 0 0]) rfl rfl (exec_extract _ 0 rfl #[.agg #[.int .i64 0, .int .i64 0, .int .i64 0, .int .i64 0, .slice none 0 0], .int .i64 3] (by rfl) _ rfl) ?_
  go_frame
  refine ls_ex (some 32) (.int .i64 3) rfl rfl (exec_extract _ 1 rfl #[.agg #[.int .i64 0, .int .i64 0, .int .i64 0, .int .i64 0, .slice none 0 0], .int .i64 3] (by rfl) _ rfl) ?_
  go_frame
  refine ls_op rfl (fun K' hK' => ?_)
  refine wp_store_all 28 _ _ rfl rfl Wz8.heap.size rfl #[.int .i64 0, .int .i64 0, .int .i64 0, .int .i64 0, .slice none 0 0] rfl _ _ hz18 5 (by kernel_rfl) rfl rfl (one5 _ _ _ _ _ _ _) (fun Wz62 pz63 => ?_)
  replace hB := pz63.below hB (by omega)
  replace hz5 := pz63.other hz5 (by omega)
  replace hz11 := pz63.other hz11 (by omega)
  replace hz18 : At Wz62 Wz8.heap.size (.cells #[.int .i64 0, .int .i64 0, .int .i64 0, .int .i64 0, .slice none 0 0] 28 (0, 0)) := pz63.at_
  refine hK' _ _ ?_
  clear hK' K' pz63
  refine ls_ex (some 5) (.int .i64 3) rfl rfl (exec_assign _ rfl (.int .i64 3) rfl) ?_
  go_frame
  refine wpList_nil ?_
  go_wp2_with fail
  refine bodyPost_ret (results_at2 rfl _ _ Wz8.heap.size _ _ _ rfl _ rfl hz18 Try.underlying28 rfl 5 (by kernel_rfl) rfl) rfl ?_
  unfold ResH hZ hL
  rw [HC.out]
  exact ⟨_, rfl, Own.nil _ _, hB⟩
set_option maxHeartbeats 12800000 in
theorem implKm_y (P n m k : Nat) (A : Option Addr) (c : Nat) (qs : List (List Nat)) (u v t : Nat) (B : Option Addr) (d : Nat) (rs : List (List Nat)) (w : World) (hR : Rd w A qs) (hlx : qs.length ≤ 1048576) (hS : Rd w B rs) (hly : rs.length ≤ 1048576) (hx : methB P n m k qs = true) (hy : methB P u v t rs = true) (h1 : n * u ≤ 9) (h2 : m * v ≤ 9) (h3 : k * t ≤ 9) (h4 : qs.length * rs.length ≤ 30) :
    Calls Try.prog 9 #[.agg #[.int .i64 (P : Nat), .int .i64 (n : Nat), .int .i64 (m : Nat), .int .i64 (k : Nat), .slice A qs.length c], .agg #[.int .i64 (P : Nat), .int .i64 (u : Nat), .int .i64 (v : Nat), .int .i64 (t : Nat), .slice B rs.length d]] w (ResH w (hZ (kmCode P n m k qs P u v t rs) P) (hZ (kmCode P n m k qs P u v t rs) (n * u)) (hZ (kmCode P n m k qs P u v t rs) (m * v)) (hZ (kmCode P n m k qs P u v t rs) (k * t)) (hL (kmCode P n m k qs P u v t rs) (kmR P n m k u v t qs rs)) (kmCode P n m k qs P u v t rs)) := by
  have hB := Below.refl w.heap.size w
  obtain ⟨s0, s1, s2, s3, hl30, _⟩ := methB_parts hx
  obtain ⟨_, t1, t2, t3, hs30, _⟩ := methB_parts hy
  have hP : 2 ≤ P ∧ P ≤ 5 := by have := prime_le5 s0; omega
  have b1 : 1 ≤ n ∧ n ≤ 9 := by simp only [sideB, Bool.and_eq_true, decide_eq_true_eq] at s1; omega
  have b2 : 1 ≤ m ∧ m ≤ 9 := by simp only [sideB, Bool.and_eq_true, decide_eq_true_eq] at s2; omega
  have b3 : 1 ≤ k ∧ k ≤ 9 := by simp only [sideB, Bool.and_eq_true, decide_eq_true_eq] at s3; omega
  have b4 : 1 ≤ u ∧ u ≤ 9 := by simp only [sideB, Bool.and_eq_true, decide_eq_true_eq] at t1; omega
  have b5 : 1 ≤ v ∧ v ≤ 9 := by simp only [sideB, Bool.and_eq_true, decide_eq_true_eq] at t2; omega
  have b6 : 1 ≤ t ∧ t ≤ 9 := by simp only [sideB, Bool.and_eq_true, decide_eq_true_eq] at t3; omega
  obtain ⟨N1, hN1⟩ : ∃ N, n * u = N := ⟨_, rfl⟩
  obtain ⟨N2, hN2⟩ : ∃ N, m * v = N := ⟨_, rfl⟩
  obtain ⟨N3, hN3⟩ : ∃ N, k * t = N := ⟨_, rfl⟩
  obtain ⟨LL, hLL⟩ : ∃ N, qs.length * rs.length = N := ⟨_, rfl⟩
  have c1 : N1 ≤ 9 * 9 := by rw [← hN1]; exact Nat.mul_le_mul b1.2 b4.2
  have c2 : N2 ≤ 9 * 9 := by rw [← hN2]; exact Nat.mul_le_mul b2.2 b5.2
  have c3 : N3 ≤ 9 * 9 := by rw [← hN3]; exact Nat.mul_le_mul b3.2 b6.2
  have c4 : LL ≤ 30 * 30 := by rw [← hLL]; exact Nat.mul_le_mul hl30 hs30
  have e1 : (n : Int) * (u : Int) = (N1 : Int) := by rw [← hN1]; simp
  have e2 : (m : Int) * (v : Int) = (N2 : Int) := by rw [← hN2]; simp
  have e3 : (k : Int) * (t : Int) = (N3 : Int) := by rw [← hN3]; simp
  have e4 : (qs.length : Int) * (rs.length : Int) = (LL : Int) := by rw [← hLL]; simp
  have HN1 : Hid (IntKind.i64.wrap ((n : Int) * (u : Int)) = (N1 : Int)) := Lib.hid (by rw [e1]; exact IntWalk.i64_in _ (by omega))
  have HN2 : Hid (IntKind.i64.wrap ((m : Int) * (v : Int)) = (N2 : Int)) := Lib.hid (by rw [e2]; exact IntWalk.i64_in _ (by omega))
  have HN3 : Hid (IntKind.i64.wrap ((k : Int) * (t : Int)) = (N3 : Int)) := Lib.hid (by rw [e3]; exact IntWalk.i64_in _ (by omega))
  have HLL : Hid (IntKind.i64.wrap ((qs.length : Int) * (rs.length : Int)) = (LL : Int)) := Lib.hid (by rw [e4]; exact IntWalk.i64_in _ (by omega))
  have HX := Lib.hid hx
  have HY := Lib.hid hy
  rw [hN1] at h1
  rw [hN2] at h2
  rw [hN3] at h3
  rw [hLL] at h4
  have HC : Hid (kmCode P n m k qs P u v t rs = 0) := Lib.hid (by unfold kmCode; rw [hx, hy, e1, e2, e3, hLL]; simp; omega)
  have Hc1 : Hid (n * u ≤ 9) := Lib.hid (by rw [hN1]; exact h1)
  have Hc2 : Hid (m * v ≤ 9) := Lib.hid (by rw [hN2]; exact h2)
  have Hc3 : Hid (k * t ≤ 9) := Lib.hid (by rw [hN3]; exact h3)
  have bn := b1.1
  have bm := b2.1
  have bk := b3.1
  have bu := b4.1
  have bv := b5.1
  have bt := b6.1
  have HAL : Hid ((sideB (N1 : Int) && sideB (N2 : Int) && sideB (N3 : Int)) = true) := Lib.hid (by
    have d1 : 1 ≤ N1 := by rw [← hN1]; exact Nat.mul_pos b1.1 b4.1
    have d2 : 1 ≤ N2 := by rw [← hN2]; exact Nat.mul_pos b2.1 b5.1
    have d3 : 1 ≤ N3 := by rw [← hN3]; exact Nat.mul_pos b3.1 b6.1
    simp [sideB]; omega)
  have HXx := Lib.hid hx
  have HYx := Lib.hid hy
  have HN1x := Lib.hid hN1
  have HN2x := Lib.hid hN2
  have HN3x := Lib.hid hN3
  have H1x := Lib.hid h1
  have H2x := Lib.hid h2
  have H3x := Lib.hid h3
  have HCx : Hid (qs.length * rs.length ≤ 30) := Lib.hid (by rw [hLL]; exact h4)
  rw [e1, e2, e3]
  clear hx hy s0 s1 s2 s3 t1 t2 t3 hN1 hN2 hN3 hLL e1 e2 e3 e4 b1 b2 b3 b4 b5 b6
  obtain ⟨L9, hL⟩ : ∃ z9, (kmO (kmQ P n m k u v t) qs rs (qs.length)).length = z9 := ⟨_, rfl⟩
  have HL := Lib.hid hL
  clear hL
  go_enter Try.func9, Try.ntmps9
  go_upto_region 0 with (fail)
  refine wp_region_lit ?_
  refine ls_op rfl (fun K' hK' => ?_)
  have lz1 := hB.size
  refine wp_new (some 2) rfl (exec_box 28 _ rfl (#[.int .i64 (P : Nat), .int .i64 (n : Nat), .int .i64 (m : Nat), .int .i64 (k : Nat), .slice A qs.length c]) rfl) (fun Wz2 nnz3 => ?_)
  have bz4 := nnz3.below (Below.refl _ _) (Nat.le_refl _)
  replace hB := below_after hB bz4
  have hz5 : At Wz2 w.heap.size (.cells #[.int .i64 (P : Nat), .int .i64 (n : Nat), .int .i64 (m : Nat), .int .i64 (k : Nat), .slice A qs.length c] 28 (0, 0)) := nnz3.at_
  refine hK' _ _ ?_
  clear hK' K' nnz3 bz4
  go_frame
  refine ls_op rfl (fun K' hK' => ?_)
  have lz6 := hB.size
  have lz7 := hz5.lt
  refine wp_new (some 3) rfl (exec_box 28 _ rfl (#[.int .i64 (P : Nat), .int .i64 (u : Nat), .int .i64 (v : Nat), .int .i64 (t : Nat), .slice B rs.length d]) rfl) (fun Wz8 nnz9 => ?_)
  have bz10 := nnz9.below (Below.refl _ _) (Nat.le_refl _)
  replace hB := below_after hB bz10
  replace hz5 := hz5.after bz10
  have hz11 : At Wz8 Wz2.heap.size (.cells #[.int .i64 (P : Nat), .int .i64 (u : Nat), .int .i64 (v : Nat), .int .i64 (t : Nat), .slice B rs.length d] 28 (0, 0)) := nnz9.at_
  refine hK' _ _ ?_
  clear hK' K' nnz9 bz10
  go_frame
  refine ls_op rfl (fun K' hK' => ?_)
  have lz12 := hB.size
  have lz13 := hz5.lt
  have lz14 := hz11.lt
  refine wp_new (some 4) rfl (alY_impl_Method rfl) (fun Wz15 nnz16 => ?_)
  have bz17 := nnz16.below (Below.refl _ _) (Nat.le_refl _)
  replace hB := below_after hB bz17
  replace hz5 := hz5.after bz17
  replace hz11 := hz11.after bz17
  have hz18 : At Wz15 Wz8.heap.size (.cells #[.int .i64 0, .int .i64 0, .int .i64 0, .int .i64 0, .slice none 0 0] 28 (0, 0)) := nnz16.at_
  refine hK' _ _ ?_
  clear hK' K' nnz16 bz17
  go_frame
  refine ls_ex (some 5) (.int .i64 0) rfl rfl (exec_assign _ rfl (.int .i64 0) rfl) ?_
  go_frame
  refine wpList_nil ?_
  go_upto_region 1 with (fail)
  refine wp_region_lit ?_
  refine ls_ex (some 6) (.agg #[.int .i64 (P : Nat), .int .i64 (n : Nat), .int .i64 (m : Nat), .int .i64 (k : Nat), .slice A qs.length c]) rfl rfl (exec_load_all 28 _ rfl w.heap.size rfl _ _ _ hz5 Try.underlying28 rfl 5 (by kernel_rfl) rfl) ?_
  go_frame
  refine ls_op rfl (fun K' hK' => ?_)
  have lz21 := hB.size
  have lz22 := hz5.lt
  have lz23 := hz11.lt
  have lz24 := hz18.lt
  refine wp_call1 (some 7) rfl 26 _ _ rfl (fun args w => by kernel_rfl) _ rfl _ (implIsMethod_c (P : Nat) (n : Nat) (m : Nat) (k : Nat) A c qs _ (hR.keep hB) hlx) (fun e Wz19 h => ?_)
  obtain ⟨rfl, bz20⟩ := h
  replace hB := below_after hB bz20
  replace hz5 := hz5.after bz20
  replace hz11 := hz11.after bz20
  replace hz18 := hz18.after bz20
  rw [HX.out]
  clear bz20
  refine ⟨_, rfl, ?_⟩
  refine hK' _ _ ?_
  clear hK' K'
  go_frame
  refine ls_ex (some 8) (.bool false) rfl rfl (exec_not _ _ rfl true rfl) ?_
  go_frame
  refine ls_ex (some 9) (.bool false) rfl rfl (exec_move _ rfl (.bool false) rfl) ?_
  go_frame
  refine ls_ex_g (some 10) (.agg #[.int .i64 (P : Nat), .int .i64 (u : Nat), .int .i64 (v : Nat), .int .i64 (t : Nat), .slice B rs.length d]) rfl rfl (exec_load_all 28 _ rfl Wz2.heap.size rfl _ _ _ hz11 Try.underlying28 rfl 5 (by kernel_rfl) rfl) ?_
  go_frame
  refine ls_op_g rfl (fun K' hK' => ?_)
  have lz27 := hB.size
  have lz28 := hz5.lt
  have lz29 := hz11.lt
  have lz30 := hz18.lt
  refine wp_call1 (some 11) rfl 26 _ _ rfl (fun args w => by kernel_rfl) _ rfl _ (implIsMethod_c (P : Nat) (u : Nat) (v : Nat) (t : Nat) B d rs _ (hS.keep hB) hly) (fun e Wz25 h => ?_)
  obtain ⟨rfl, bz26⟩ := h
  replace hB := below_after hB bz26
  replace hz5 := hz5.after bz26
  replace hz11 := hz11.after bz26
  replace hz18 := hz18.after bz26
  rw [HY.out]
  clear bz26
  refine ⟨_, rfl, ?_⟩
  refine hK' _ _ ?_
  clear hK' K'
  go_frame
  refine ls_ex_g (some 12) (.bool false) rfl rfl (exec_not _ _ rfl true rfl) ?_
  go_frame
  refine ls_ex (some 13) (.bool false) rfl rfl (exec_pick _ _ _ rfl false rfl (.bool false) rfl) ?_
  go_frame
  refine wpList_nil ?_
  go_upto_region 3 with (fail)
  refine wp_region_lit ?_
  refine ls_ex (some 15) (.pointer (some ⟨w.heap.size, 0, none⟩)) rfl rfl (exec_fieldAddr 28 _ 0 rfl _ (by kernel_rfl)) ?_
  go_frame
  refine ls_ex (some 16) (.int .i64 (P : Nat)) rfl rfl (exec_load_one 2 _ rfl w.heap.size 0 rfl (.int .i64 (P : Nat)) _ Try.underlying2 rfl (hz5.at_ 0)) ?_
  go_frame
  refine ls_ex (some 17) (.pointer (some ⟨Wz2.heap.size, 0, none⟩)) rfl rfl (exec_fieldAddr 28 _ 0 rfl _ (by kernel_rfl)) ?_
  go_frame
  refine ls_ex (some 18) (.int .i64 (P : Nat)) rfl rfl (exec_load_one 2 _ rfl Wz2.heap.size 0 rfl (.int .i64 (P : Nat)) _ Try.underlying2 rfl (hz11.at_ 0)) ?_
  go_frame
  refine ls_ex (some 19) (.bool false) rfl rfl (exec_neq _ _ _ _ rfl ((P : Nat)) ((P : Nat)) rfl rfl false (by simp)) ?_
  go_frame
  refine wpList_nil ?_
  go_upto_region 5 with (fail)
  refine wp_region_y (zs := []) (S := fun w' => Below w.heap.size w w' ∧ At w' w.heap.size (.cells #[.int .i64 (P : Nat), .int .i64 (n : Nat), .int .i64 (m : Nat), .int .i64 (k : Nat), .slice A qs.length c] 28 (0, 0)) ∧ At w' Wz2.heap.size (.cells #[.int .i64 (P : Nat), .int .i64 (u : Nat), .int .i64 (v : Nat), .int .i64 (t : Nat), .slice B rs.length d] 28 (0, 0))) (S2 := fun w' => True) (by kernel_rfl) ?_
  change wpAnyY _ _ _ _ _ _ _ _ _ _ (World.drew _)
  generalize hwdz31 : World.drew _ = wdz31
  replace hB : Below w.heap.size w wdz31 := by rw [← hwdz31]; exact hB.drew
  replace hz5 : At wdz31 w.heap.size (.cells #[.int .i64 (P : Nat), .int .i64 (n : Nat), .int .i64 (m : Nat), .int .i64 (k : Nat), .slice A qs.length c] 28 (0, 0)) := by rw [← hwdz31]; exact hz5
  replace hz11 : At wdz31 Wz2.heap.size (.cells #[.int .i64 (P : Nat), .int .i64 (u : Nat), .int .i64 (v : Nat), .int .i64 (t : Nat), .slice B rs.length d] 28 (0, 0)) := by rw [← hwdz31]; exact hz11
  replace hz18 : At wdz31 Wz8.heap.size (.cells #[.int .i64 0, .int .i64 0, .int .i64 0, .int .i64 0, .slice none 0 0] 28 (0, 0)) := by rw [← hwdz31]; exact hz18
  clear hwdz31
  refine y_yield 0 (some 21) (.agg #[.int .i64 (P : Nat), .int .i64 (n : Nat), .int .i64 (m : Nat), .int .i64 (k : Nat), .slice A qs.length c]) rfl (by kernel_rfl) (by kernel_rfl) (by kernel_rfl) (fun _ _ _ h => h) rfl rfl ⟨hB, hz5, hz11⟩ (fun w' h' => exec_load_all 28 _ rfl w.heap.size rfl _ _ _ h'.2.1 Try.underlying28 rfl 5 (by kernel_rfl) rfl) ?_
  go_frame
  refine y_yield 2 (some 23) (.agg #[.int .i64 (P : Nat), .int .i64 (u : Nat), .int .i64 (v : Nat), .int .i64 (t : Nat), .slice B rs.length d]) rfl (by kernel_rfl) (by kernel_rfl) (by kernel_rfl) (fun _ _ _ h => h) rfl rfl ⟨hB, hz5, hz11⟩ (fun w' h' => exec_load_all 28 _ rfl Wz2.heap.size rfl _ _ _ h'.2.2 Try.underlying28 rfl 5 (by kernel_rfl) rfl) ?_
  go_frame
  refine y_oper 1 (by kernel_rfl) rfl rfl (fun K' hK' => ?_)
  have lz34 := hB.size
  have lz35 := hz5.lt
  have lz36 := hz11.lt
  have lz37 := hz18.lt
  refine wp_call1 (some 22) rfl 27 _ _ rfl (fun args w => by kernel_rfl) _ rfl _ (mSides_c _ _ _ _ _ _) (fun e Wz32 h => ?_)
  obtain ⟨rfl, bz33⟩ := h
  replace hB := below_after hB bz33
  replace hz5 := hz5.after bz33
  replace hz11 := hz11.after bz33
  replace hz18 := hz18.after bz33
  clear bz33
  refine ⟨_, rfl, ?_⟩
  refine hK' _ _ ⟨hB, hz5, hz11⟩ (fun _ => trivial) ?_
  clear hK' K'
  go_frame
  refine y_oper 3 (by kernel_rfl) rfl rfl (fun K' hK' => ?_)
  have lz40 := hB.size
  have lz41 := hz5.lt
  have lz42 := hz11.lt
  have lz43 := hz18.lt
  refine wp_call1 (some 24) rfl 27 _ _ rfl (fun args w => by kernel_rfl) _ rfl _ (mSides_c _ _ _ _ _ _) (fun e Wz38 h => ?_)
  obtain ⟨rfl, bz39⟩ := h
  replace hB := below_after hB bz39
  replace hz5 := hz5.after bz39
  replace hz11 := hz11.after bz39
  replace hz18 := hz18.after bz39
  clear bz39
  refine ⟨_, rfl, ?_⟩
  refine hK' _ _ ⟨hB, hz5, hz11⟩ (fun _ => trivial) ?_
  clear hK' K'
  go_frame
  refine y_oper 4 (by kernel_rfl) rfl rfl (fun K' hK' => ?_)
  have lz46 := hB.size
  have lz47 := hz5.lt
  have lz48 := hz11.lt
  have lz49 := hz18.lt
  refine wp_call2 (some 25) rfl 28 _ _ _ rfl (fun args w => by kernel_rfl) _ _ rfl rfl _ (timesK_c n m k u v t N1 N2 N3 HN1.out HN2.out HN3.out _) (fun e Wz44 h => ?_)
  obtain ⟨rfl, bz45⟩ := h
  replace hB := below_after hB bz45
  replace hz5 := hz5.after bz45
  replace hz11 := hz11.after bz45
  replace hz18 := hz18.after bz45
  clear bz45
  refine ⟨_, rfl, ?_⟩
  refine hK' _ _ ⟨hB, hz5, hz11⟩ (fun _ => trivial) ?_
  clear hK' K'
  go_frame
  refine y_oper 5 (by kernel_rfl) rfl rfl (fun K' hK' => ?_)
  have lz52 := hB.size
  have lz53 := hz5.lt
  have lz54 := hz11.lt
  have lz55 := hz18.lt
  refine wp_call1 (some 26) rfl 29 _ _ rfl (fun args w => by kernel_rfl) _ rfl _ (isAllowed_c N1 N2 N3 _) (fun e Wz50 h => ?_)
  obtain ⟨rfl, bz51⟩ := h
  replace hB := below_after hB bz51
  replace hz5 := hz5.after bz51
  replace hz11 := hz11.after bz51
  replace hz18 := hz18.after bz51
  rw [HAL.out]
  clear bz51
  refine ⟨_, rfl, ?_⟩
  refine hK' _ _ ⟨hB, hz5, hz11⟩ (fun _ => trivial) ?_
  clear hK' K'
  go_frame
  refine y_yield 6 (some 27) (.bool false) rfl (by kernel_rfl) (by kernel_rfl) (by kernel_rfl) (fun _ _ _ h => h) rfl rfl ⟨hB, hz5, hz11⟩ (fun w' h' => exec_not _ _ rfl true rfl) ?_
  go_frame
  refine y_done (by kernel_rfl) ?_ _
  go_upto_region 7 with (fail)
  refine wp_region_lit ?_
  refine ls_ex (some 29) (.func (.func 31) #[] #[.pointer (some ⟨w.heap.size, 0, none⟩), .pointer (some ⟨Wz2.heap.size, 0, none⟩)]) rfl rfl (exec_mkfn2p _ _ _ rfl _ _ rfl rfl) ?_
  go_frame
  refine ls_op rfl (fun K' hK' => ?_)
  have lz58 := hB.size
  have lz59 := hz5.lt
  have lz60 := hz11.lt
  have lz61 := hz18.lt
  have lo9 := hB.size
  refine wp_call1 (some 30) rfl 30 _ _ rfl (fun args w => by kernel_rfl) _ rfl _ (doorM_ok 31 #[.pointer (some ⟨w.heap.size, 0, none⟩), .pointer (some ⟨Wz2.heap.size, 0, none⟩)] P N1 N2 N3 0 (kmO (kmQ P n m k u v t) qs rs (qs.length)) _ (fun w => by kernel_rfl) (fun w1 hb => kmF_ok P n m k A c qs u v t B d rs N1 N2 N3 w.heap.size Wz2.heap.size w1 (hz5.after hb) (hz11.after hb) (hR.keep (hB.trans (hb.mono hB.size))) (hS.keep (hB.trans (hb.mono hB.size))) HXx.out HYx.out HN1x.out HN2x.out HN3x.out H1x.out H2x.out H3x.out HCx.out)) (fun e Wz56 h => ?_)
  obtain ⟨v9, rfl, ho, bz57⟩ := h
  replace hB := below_after hB bz57
  replace hz5 := hz5.after bz57
  replace hz11 := hz11.after bz57
  replace hz18 := hz18.after bz57
  obtain ⟨A9, c9, rfl⟩ := Own.rdN2 ho (n := L9) HL.out
  clear bz57
  refine ⟨_, rfl, ?_⟩
  refine hK' _ _ ?_
  clear hK' K'
  go_frame
  refine ls_ex (some 31) (.agg #[.int .i64 (P : Nat), .int .i64 (N1 : Nat), .int .i64 (N2 : Nat), .int .i64 (N3 : Nat), .slice A9 L9 c9]) rfl rfl (exec_extract _ 0 rfl #[.agg #[.int .i64 (P : Nat), .int .i64 (N1 : Nat), .int .i64 (N2 : Nat), .int .i64 (N3 : Nat), .slice A9 L9 c9], .int .i64 0] (by rfl) _ rfl) ?_
  go_frame
  refine ls_ex (some 32) (.int .i64 0) rfl rfl (exec_extract _ 1 rfl #[.agg #[.int .i64 (P : Nat), .int .i64 (N1 : Nat), .int .i64 (N2 : Nat), .int .i64 (N3 : Nat), .slice A9 L9 c9], .int .i64 0] (by rfl) _ rfl) ?_
  go_frame
  refine ls_op rfl (fun K' hK' => ?_)
  refine wp_store_all 28 _ _ rfl rfl Wz8.heap.size rfl #[.int .i64 (P : Nat), .int .i64 (N1 : Nat), .int .i64 (N2 : Nat), .int .i64 (N3 : Nat), .slice A9 L9 c9] rfl _ _ hz18 5 (by kernel_rfl) rfl rfl (one5 _ _ _ _ _ _ _) (fun Wz62 pz63 => ?_)
  replace hB := pz63.below hB (by omega)
  replace hz5 := pz63.other hz5 (by omega)
  replace hz11 := pz63.other hz11 (by omega)
  replace ho := ho.put pz63 (ho.off hz18 (by decide))
  replace hz18 : At Wz62 Wz8.heap.size (.cells #[.int .i64 (P : Nat), .int .i64 (N1 : Nat), .int .i64 (N2 : Nat), .int .i64 (N3 : Nat), .slice A9 L9 c9] 28 (0, 0)) := pz63.at_
  refine hK' _ _ ?_
  clear hK' K' pz63
  refine ls_ex (some 5) (.int .i64 0) rfl rfl (exec_assign _ rfl (.int .i64 0) rfl) ?_
  go_frame
  refine wpList_nil ?_
  go_wp2_with fail
  refine bodyPost_ret (results_at2 rfl _ _ Wz8.heap.size _ _ _ rfl _ rfl hz18 Try.underlying28 rfl 5 (by kernel_rfl) rfl) rfl ?_
  unfold ResH hZ hL
  rw [HC.out]
  exact ⟨_, rfl, ho.mono (by omega), hB⟩
theorem specKroneckerMethods_c (xp xn xm xk : Int) (A : Option Addr) (c : Nat) (qs : List (List Nat)) (yp yn ym yk : Int) (B : Option Addr) (d : Nat) (rs : List (List Nat)) (w : World) (hR : Rd w A qs) (hlx : qs.length ≤ 1048576) (hS : Rd w B rs) (hly : rs.length ≤ 1048576) : Calls Try.prog 7 #[.agg #[.int .i64 xp, .int .i64 xn, .int .i64 xm, .int .i64 xk, .slice A qs.length c], .agg #[.int .i64 yp, .int .i64 yn, .int .i64 ym, .int .i64 yk, .slice B rs.length d]] w (ResH w (hZ (kmCode xp xn xm xk qs yp yn ym yk rs) xp) (hZ (kmCode xp xn xm xk qs yp yn ym yk rs) (xn * yn)) (hZ (kmCode xp xn xm xk qs yp yn ym yk rs) (xm * ym)) (hZ (kmCode xp xn xm xk qs yp yn ym yk rs) (xk * yk)) (hL (kmCode xp xn xm xk qs yp yn ym yk rs) (kmR xp xn xm xk yn ym yk qs rs)) (kmCode xp xn xm xk qs yp yn ym yk rs)) := by
  by_cases hx : methB xp xn xm xk qs = true
  · by_cases hy : methB yp yn ym yk rs = true
    · by_cases hp : xp = yp
      · subst hp
        obtain ⟨P, n, m, k, rfl, rfl, rfl, rfl⟩ := kmNat hx
        obtain ⟨P', u, v, t, _, rfl, rfl, rfl⟩ := kmNat hy
        by_cases h : n * u ≤ 9 ∧ m * v ≤ 9 ∧ k * t ≤ 9
        · obtain ⟨h1, h2, h3⟩ := h
          by_cases h4 : qs.length * rs.length ≤ 30
          · exact specKm_y P n m k A c qs u v t B d rs w hR hlx hS hly hx hy h1 h2 h3 h4
          · exact specKm_d P n m k A c qs u v t B d rs w hR hlx hS hly hx hy h1 h2 h3 (by omega)
        · exact specKm_c P n m k A c qs u v t B d rs w hR hlx hS hly hx hy h
      · exact specKm_b xp xn xm xk A c qs yp yn ym yk B d rs w hR hlx hS hly hx hy hp
    · exact specKm_a2 xp xn xm xk A c qs yp yn ym yk B d rs w hR hlx hS hly hx (by simpa using hy)
  · exact specKm_a1 xp xn xm xk A c qs yp yn ym yk B d rs w hR hlx hS hly (by simpa using hx)
theorem implKroneckerMethods_c (xp xn xm xk : Int) (A : Option Addr) (c : Nat) (qs : List (List Nat)) (yp yn ym yk : Int) (B : Option Addr) (d : Nat) (rs : List (List Nat)) (w : World) (hR : Rd w A qs) (hlx : qs.length ≤ 1048576) (hS : Rd w B rs) (hly : rs.length ≤ 1048576) : Calls Try.prog 9 #[.agg #[.int .i64 xp, .int .i64 xn, .int .i64 xm, .int .i64 xk, .slice A qs.length c], .agg #[.int .i64 yp, .int .i64 yn, .int .i64 ym, .int .i64 yk, .slice B rs.length d]] w (ResH w (hZ (kmCode xp xn xm xk qs yp yn ym yk rs) xp) (hZ (kmCode xp xn xm xk qs yp yn ym yk rs) (xn * yn)) (hZ (kmCode xp xn xm xk qs yp yn ym yk rs) (xm * ym)) (hZ (kmCode xp xn xm xk qs yp yn ym yk rs) (xk * yk)) (hL (kmCode xp xn xm xk qs yp yn ym yk rs) (kmR xp xn xm xk yn ym yk qs rs)) (kmCode xp xn xm xk qs yp yn ym yk rs)) := by
  by_cases hx : methB xp xn xm xk qs = true
  · by_cases hy : methB yp yn ym yk rs = true
    · by_cases hp : xp = yp
      · subst hp
        obtain ⟨P, n, m, k, rfl, rfl, rfl, rfl⟩ := kmNat hx
        obtain ⟨P', u, v, t, _, rfl, rfl, rfl⟩ := kmNat hy
        by_cases h : n * u ≤ 9 ∧ m * v ≤ 9 ∧ k * t ≤ 9
        · obtain ⟨h1, h2, h3⟩ := h
          by_cases h4 : qs.length * rs.length ≤ 30
          · exact implKm_y P n m k A c qs u v t B d rs w hR hlx hS hly hx hy h1 h2 h3 h4
          · exact implKm_d P n m k A c qs u v t B d rs w hR hlx hS hly hx hy h1 h2 h3 (by omega)
        · exact implKm_c P n m k A c qs u v t B d rs w hR hlx hS hly hx hy h
      · exact implKm_b xp xn xm xk A c qs yp yn ym yk B d rs w hR hlx hS hly hx hy hp
    · exact implKm_a2 xp xn xm xk A c qs yp yn ym yk B d rs w hR hlx hS hly hx (by simpa using hy)
  · exact implKm_a1 xp xn xm xk A c qs yp yn ym yk B d rs w hR hlx hS hly (by simpa using hx)
end Go.Proofs.Ytopdfblfhdooaaa
