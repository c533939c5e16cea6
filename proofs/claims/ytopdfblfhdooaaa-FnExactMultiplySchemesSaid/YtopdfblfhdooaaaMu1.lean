/-
  spec.MultiplySchemes. (Made by mkmu.py.)
-/
import Derived.Test.YtopdfblfhdooaaaL2f
import Derived.Test.YtopdfblfhdooaaaMfp
import Derived.Test.YtopdfblfhdooaaaMt3
import Derived.Test.YtopdfblfhdooaaaHeldT
namespace Go.Proofs.Ytopdfblfhdooaaa
open Go.RowKit
set_option maxRecDepth 100000
attribute [local irreducible] wpList
theorem cut_worldM {n : Nat} {w wx : World} (_ : Below n w wx) : ∃ x : World, x = wx := ⟨_, rfl⟩
theorem wp_call7m {P : Program} {Q : Exit → Act → World → Prop} {o : Oper} {a : Act} {w : World} {K : Act → World → Prop} (d : Option Tmp) (hd : o.dst = d) (f : Nat) (x y z u t s r : Operand) (ts : Array TypeId) (ho : o.op = .call { callee := .value (.func f), args := #[x, y, z, u, t, s, r], argTypes := ts }) (hcall : ∀ args w, (callFunc f args).run P w = .ok (.enter f args) w)
    (v1 v2 v3 v4 v5 v6 v7 : Value) (hx : a.eval x = v1) (hy : a.eval y = v2) (hz : a.eval z = v3) (hu : a.eval u = v4) (ht : a.eval t = v5) (hs : a.eval s = v6) (hr : a.eval r = v7) (post : Ending → World → Prop) (hc : Calls P f #[v1, v2, v3, v4, v5, v6, v7] w post) (h : ∀ e w', post e w' → ∃ v, e = .returned v ∧ K (a.put d v) w') : Oper.wp P o a w K Q :=
  wp_call d hd f #[x, y, z, u, t, s, r] ts ho hcall #[v1, v2, v3, v4, v5, v6, v7] (by simp [hx, hy, hz, hu, ht, hs, hr]) post hc h
theorem exec_build_sch0 {o : Oper} {a : Act} {w : World} (ho : o.op = .build 39 #[]) : (execOp a.eval o).run Try.prog w = .ok (.value (.agg #[.int .i64 0, .int .i64 0, .int .i64 0, .int .i64 0, .slice none 0 0])) w := by
  unfold execOp
  rw [ho]
  kernel_rfl
theorem exec_build_sch4 {o : Oper} {a : Act} {w : World} (x y z u : Operand) (ho : o.op = .build 39 #[(0, x), (1, y), (2, z), (3, u)]) (p n m k : Int) (hx : a.eval x = .int .i64 p) (hy : a.eval y = .int .i64 n) (hz : a.eval z = .int .i64 m) (hu : a.eval u = .int .i64 k) :
    (execOp a.eval o).run Try.prog w = .ok (.value (.agg #[.int .i64 p, .int .i64 n, .int .i64 m, .int .i64 k, .slice none 0 0])) w := by
  have hb : Try.prog.built 39 [(0, .int .i64 p), (1, .int .i64 n), (2, .int .i64 m), (3, .int .i64 k)] = some #[.int .i64 p, .int .i64 n, .int .i64 m, .int .i64 k, .slice none 0 0] := by kernel_rfl
  unfold execOp
  have := run_build (P := Try.prog) w 39 #[(0, .int .i64 p), (1, .int .i64 n), (2, .int .i64 m), (3, .int .i64 k)] _ hb
  simp [ho, hx, hy, hz, hu, this]
def muCode (xp xn xm xk : Int) (qs : List (List Nat)) (yp yn ym yk : Int) (rs : List (List Nat)) : Int :=
  if (schemeB xp xn xm xk qs && schemeB yp yn ym yk rs) = true then (if xp = yp then (if xn * yn ≤ 3 ∧ xm * ym ≤ 3 ∧ xk * yk ≤ 3 ∧ qs.length * rs.length ≤ 30 then 0 else 3) else 2) else 1
def muZ (code x : Int) : Int := if code = 0 then x else 0
def muL (code : Int) (l : List (List Nat)) : List (List Nat) := if code = 0 then l else []
/-- The product of two products of schemes of the sizes n, m, k and u, v, t. -/
def muQ (P n m k u v t : Nat) (q r : List Nat) : List Nat := cat3 (mulF P n m u v (segm q 0 9) (segm r 0 9)) (mulF P m k v t (segm q 9 9) (segm r 9 9)) (mulF P n k u t (segm q 18 9) (segm r 18 9))
theorem muQ_len (P n m k u v t : Nat) (q r : List Nat) : (muQ P n m k u v t q r).length = 27 := by simp [muQ, cat3, mulF_len]
def muO (P n m k u v t : Nat) (qs rs : List (List Nat)) (a : Nat) : List (List Nat) := (qs.take a).flatMap fun q => rs.map (muQ P n m k u v t q)
def muI (P n m k u v t : Nat) (qs rs : List (List Nat)) (q : List Nat) (a b : Nat) : List (List Nat) := muO P n m k u v t qs rs a ++ (rs.take b).map (muQ P n m k u v t q)
def muR (P n m k u v t : Int) (qs rs : List (List Nat)) : List (List Nat) := muO P.toNat n.toNat m.toNat k.toNat u.toNat v.toNat t.toNat qs rs qs.length
section
variable {P n m k u v t : Nat} {qs rs : List (List Nat)} {q : List Nat} {a b : Nat}
theorem muI_zero : muI P n m k u v t qs rs q a 0 = muO P n m k u v t qs rs a := by simp [muI]
theorem muI_step (h : b < rs.length) : muI P n m k u v t qs rs q a b ++ [muQ P n m k u v t q rs[b]] = muI P n m k u v t qs rs q a (b + 1) := by
  unfold muI
  rw [List.append_assoc, List.take_succ_eq_append_getElem h, List.map_append]
  rfl
theorem muI_all (h : a < qs.length) : muI P n m k u v t qs rs qs[a] a rs.length = muO P n m k u v t qs rs (a + 1) := by
  unfold muI muO
  rw [List.take_length, List.take_succ_eq_append_getElem h, List.flatMap_append]
  simp
theorem muO_len : (muO P n m k u v t qs rs a).length ≤ a * rs.length := by
  unfold muO
  rw [List.length_flatMap]
  simp only [List.length_map, List.map_const', List.length_take, List.sum_replicate_nat]
  exact Nat.mul_le_mul_right _ (Nat.min_le_left _ _)
theorem muI_le (h1 : qs.length ≤ 30) (h2 : rs.length ≤ 30) (ha : a ≤ qs.length) (hb : b ≤ rs.length) : (muI P n m k u v t qs rs q a b).length ≤ 930 := by
  have := muO_len (P := P) (n := n) (m := m) (k := k) (u := u) (v := v) (t := t) (qs := qs) (rs := rs) (a := a)
  have h3 : a * rs.length ≤ 30 * 30 := Nat.mul_le_mul (by omega) h2
  unfold muI
  rw [List.length_append, List.length_map, List.length_take]
  omega
theorem okK_of {r1 c1 r2 c2 : Nat} (h1 : 1 ≤ r1) (h2 : 1 ≤ c1) (h3 : 1 ≤ r2) (h4 : 1 ≤ c2) (h5 : r1 * r2 ≤ 3) (h6 : c1 * c2 ≤ 3) : okK r1 c1 r2 c2 = true := by
  have h7 : r1 * c1 * (r2 * c2) ≤ 9 := by rw [Nat.mul_mul_mul_comm]; exact (Nat.mul_le_mul h5 h6 : r1 * r2 * (c1 * c2) ≤ 3 * 3)
  simp only [okK, Bool.and_eq_true, decide_eq_true_eq]
  exact ⟨⟨⟨⟨h1, h2⟩, h3⟩, h4⟩, h7⟩
end
theorem alU_impl_Product {o : Oper} {a : Act} {w : World} (ho : o.op = .alloc 53) : (execOp a.eval o).run Try.prog w = .ok (.value (.pointer (some ⟨w.heap.size, 0, none⟩))) (w.alloc (.cells (u8s (List.replicate 27 0)) 53 (0, 0))) := by
  unfold execOp
  rw [ho]
  kernel_rfl
theorem alU_impl_Scheme {o : Oper} {a : Act} {w : World} (ho : o.op = .alloc 39) : (execOp a.eval o).run Try.prog w = .ok (.value (.pointer (some ⟨w.heap.size, 0, none⟩))) (w.alloc (.cells #[.int .i64 0, .int .i64 0, .int .i64 0, .int .i64 0, .slice none 0 0] 39 (0, 0))) := by
  unfold execOp
  rw [ho]
  kernel_rfl
set_option maxHeartbeats 4000000 in
theorem specMu_a1 (xp xn xm xk : Int) (A : Option Addr) (c : Nat) (qs : List (List Nat)) (yp yn ym yk : Int) (B : Option Addr) (d : Nat) (rs : List (List Nat)) (w : World) (hR : Rd w A qs) (hlx : qs.length ≤ 1048576) (hS : Rd w B rs) (hly : rs.length ≤ 1048576) (hx : schemeB xp xn xm xk qs = false) :
    Calls Try.prog 14 #[.agg #[.int .i64 xp, .int .i64 xn, .int .i64 xm, .int .i64 xk, .slice A qs.length c], .agg #[.int .i64 yp, .int .i64 yn, .int .i64 ym, .int .i64 yk, .slice B rs.length d]] w (ResS w (muZ (muCode xp xn xm xk qs yp yn ym yk rs) xp) (muZ (muCode xp xn xm xk qs yp yn ym yk rs) (xn * yn)) (muZ (muCode xp xn xm xk qs yp yn ym yk rs) (xm * ym)) (muZ (muCode xp xn xm xk qs yp yn ym yk rs) (xk * yk)) (muL (muCode xp xn xm xk qs yp yn ym yk rs) (muR xp xn xm xk yn ym yk qs rs)) (muCode xp xn xm xk qs yp yn ym yk rs)) := by
  have hB := Below.refl w.heap.size w
  have _u0 := hS
  have _u1 := hly
  clear _u0 _u1
  have HC : Hid (muCode xp xn xm xk qs yp yn ym yk rs = 1) := Lib.hid (by unfold muCode; rw [hx]; simp)
  have HX := Lib.hid hx
  clear hx
  go_enter Try.func14, Try.ntmps14
  go_upto_region 0 with (fail)
  refine wp_region_lit ?_
  refine ls_op rfl (fun K' hK' => ?_)
  have lz1 := hB.size
  refine wp_new (some 2) rfl (exec_box 39 _ rfl (#[.int .i64 xp, .int .i64 xn, .int .i64 xm, .int .i64 xk, .slice A qs.length c]) rfl) (fun Wz2 nnz3 => ?_)
  have bz4 := nnz3.below (Below.refl _ _) (Nat.le_refl _)
  replace hB := below_after hB bz4
  have hz5 : At Wz2 w.heap.size (.cells #[.int .i64 xp, .int .i64 xn, .int .i64 xm, .int .i64 xk, .slice A qs.length c] 39 (0, 0)) := nnz3.at_
  refine hK' _ _ ?_
  clear hK' K' nnz3 bz4
  go_frame
  refine ls_op rfl (fun K' hK' => ?_)
  have lz6 := hB.size
  have lz7 := hz5.lt
  refine wp_new (some 3) rfl (exec_box 39 _ rfl (#[.int .i64 yp, .int .i64 yn, .int .i64 ym, .int .i64 yk, .slice B rs.length d]) rfl) (fun Wz8 nnz9 => ?_)
  have bz10 := nnz9.below (Below.refl _ _) (Nat.le_refl _)
  replace hB := below_after hB bz10
  replace hz5 := hz5.after bz10
  have hz11 : At Wz8 Wz2.heap.size (.cells #[.int .i64 yp, .int .i64 yn, .int .i64 ym, .int .i64 yk, .slice B rs.length d] 39 (0, 0)) := nnz9.at_
  refine hK' _ _ ?_
  clear hK' K' nnz9 bz10
  go_frame
  refine ls_op rfl (fun K' hK' => ?_)
  have lz12 := hB.size
  have lz13 := hz5.lt
  have lz14 := hz11.lt
  refine wp_new (some 4) rfl (alU_impl_Scheme rfl) (fun Wz15 nnz16 => ?_)
  have bz17 := nnz16.below (Below.refl _ _) (Nat.le_refl _)
  replace hB := below_after hB bz17
  replace hz5 := hz5.after bz17
  replace hz11 := hz11.after bz17
  have hz18 : At Wz15 Wz8.heap.size (.cells #[.int .i64 0, .int .i64 0, .int .i64 0, .int .i64 0, .slice none 0 0] 39 (0, 0)) := nnz16.at_
  refine hK' _ _ ?_
  clear hK' K' nnz16 bz17
  go_frame
  refine ls_ex (some 5) (.int .i64 0) rfl rfl (exec_assign _ rfl (.int .i64 0) rfl) ?_
  go_frame
  refine wpList_nil ?_
  go_upto_region 1 with (fail)
  refine wp_region_lit ?_
  refine ls_ex (some 12) (.agg #[.int .i64 xp, .int .i64 xn, .int .i64 xm, .int .i64 xk, .slice A qs.length c]) rfl rfl (exec_load_all 39 _ rfl w.heap.size rfl _ _ _ hz5 Try.underlying39 rfl 5 (by kernel_rfl) rfl) ?_
  go_frame
  refine ls_op rfl (fun K' hK' => ?_)
  have lz21 := hB.size
  have lz22 := hz5.lt
  have lz23 := hz11.lt
  have lz24 := hz18.lt
  refine wp_call1 (some 13) rfl 36 _ _ rfl (fun args w => by kernel_rfl) _ rfl _ (l01Is_c xp xn xm xk A c qs _ (hR.keep hB) hlx) (fun e Wz19 h => ?_)
  obtain ⟨rfl, bz20⟩ := h
  replace hB := below_after hB bz20
  replace hz5 := hz5.after bz20
  replace hz11 := hz11.after bz20
  replace hz18 := hz18.after bz20
  rw [HX.out]
  clear bz20
  refine ⟨_, rfl, ?_⟩
  refine hK' _ _ ?_
  clear hK' K'
  go_frame
  refine ls_ex (some 14) (.bool true) rfl rfl (exec_not _ _ rfl false rfl) ?_
  go_frame
  refine ls_ex (some 15) (.bool true) rfl rfl (exec_move _ rfl (.bool true) rfl) ?_
  go_frame
  refine ls_skip_g (some 16) rfl rfl ?_
  go_frame
  refine ls_skip_g (some 17) rfl rfl ?_
  go_frame
  refine ls_skip_g (some 18) rfl rfl ?_
  go_frame
  refine ls_ex (some 19) (.bool true) rfl rfl (exec_pick _ _ _ rfl true rfl (.bool true) rfl) ?_
  go_frame
  refine ls_ex (some 11) (.bool true) rfl rfl (exec_assign _ rfl (.bool true) rfl) ?_
  go_frame
  refine wpList_nil ?_
  go_upto_region 2 with (fail)
  refine wp_region_lit ?_
  refine ls_ex (some 20) (.agg #[.int .i64 0, .int .i64 0, .int .i64 0, .int .i64 0, .slice none 0 0]) rfl rfl (exec_build_sch0 rfl) ?_
  go_frame
  refine ls_op rfl (fun K' hK' => ?_)
  refine wp_store_all 39 _ _ rfl rfl Wz8.heap.size rfl #[.int .i64 0, .int .i64 0, .int .i64 0, .int .i64 0, .slice none 0 0] rfl _ _ hz18 5 (by kernel_rfl) rfl rfl (one5 _ _ _ _ _ _ _) (fun Wz25 pz26 => ?_)
  replace hB := pz26.below hB (by omega)
  replace hz5 := pz26.other hz5 (by omega)
  replace hz11 := pz26.other hz11 (by omega)
  replace hz18 : At Wz25 Wz8.heap.size (.cells #[.int .i64 0, .int .i64 0, .int .i64 0, .int .i64 0, .slice none 0 0] 39 (0, 0)) := pz26.at_
  refine hK' _ _ ?_
  clear hK' K' pz26
  refine ls_ex (some 5) (.int .i64 1) rfl rfl (exec_assign _ rfl (.int .i64 1) rfl) ?_
  go_frame
  refine wpList_nil ?_
  go_wp2_with fail
  refine bodyPost_ret (results_at2 rfl _ _ Wz8.heap.size _ _ _ rfl _ rfl hz18 Try.underlying39 rfl 5 (by kernel_rfl) rfl) rfl ?_
  unfold ResS muZ muL
  rw [HC.out]
  exact ⟨_, rfl, Own.nil _ _, hB⟩
set_option maxHeartbeats 4000000 in
theorem implMu_a1 (xp xn xm xk : Int) (A : Option Addr) (c : Nat) (qs : List (List Nat)) (yp yn ym yk : Int) (B : Option Addr) (d : Nat) (rs : List (List Nat)) (w : World) (hR : Rd w A qs) (hlx : qs.length ≤ 1048576) (hS : Rd w B rs) (hly : rs.length ≤ 1048576) (hx : schemeB xp xn xm xk qs = false) :
    Calls Try.prog 16 #[.agg #[.int .i64 xp, .int .i64 xn, .int .i64 xm, .int .i64 xk, .slice A qs.length c], .agg #[.int .i64 yp, .int .i64 yn, .int .i64 ym, .int .i64 yk, .slice B rs.length d]] w (ResS w (muZ (muCode xp xn xm xk qs yp yn ym yk rs) xp) (muZ (muCode xp xn xm xk qs yp yn ym yk rs) (xn * yn)) (muZ (muCode xp xn xm xk qs yp yn ym yk rs) (xm * ym)) (muZ (muCode xp xn xm xk qs yp yn ym yk rs) (xk * yk)) (muL (muCode xp xn xm xk qs yp yn ym yk rs) (muR xp xn xm xk yn ym yk qs rs)) (muCode xp xn xm xk qs yp yn ym yk rs)) := by
  have hB := Below.refl w.heap.size w
  have _u0 := hS
  have _u1 := hly
  clear _u0 _u1
  have HC : Hid (muCode xp xn xm xk qs yp yn ym yk rs = 1) := Lib.hid (by unfold muCode; rw [hx]; simp)
  have HX := Lib.hid hx
  clear hx
  go_enter Try.func16, Try.ntmps16
  go_upto_region 0 with (fail)
  refine wp_region_lit ?_
  refine ls_op rfl (fun K' hK' => ?_)
  have lz1 := hB.size
  refine wp_new (some 2) rfl (exec_box 39 _ rfl (#[.int .i64 xp, .int .i64 xn, .int .i64 xm, .int .i64 xk, .slice A qs.length c]) rfl) (fun Wz2 nnz3 => ?_)
  have bz4 := nnz3.below (Below.refl _ _) (Nat.le_refl _)
  replace hB := below_after hB bz4
  have hz5 : At Wz2 w.heap.size (.cells #[.int .i64 xp, .int .i64 xn, .int .i64 xm, .int .i64 xk, .slice A qs.length c] 39 (0, 0)) := nnz3.at_
  refine hK' _ _ ?_
  clear hK' K' nnz3 bz4
  go_frame
  refine ls_op rfl (fun K' hK' => ?_)
  have lz6 := hB.size
  have lz7 := hz5.lt
  refine wp_new (some 3) rfl (exec_box 39 _ rfl (#[.int .i64 yp, .int .i64 yn, .int .i64 ym, .int .i64 yk, .slice B rs.length d]) rfl) (fun Wz8 nnz9 => ?_)
  have bz10 := nnz9.below (Below.refl _ _) (Nat.le_refl _)
  replace hB := below_after hB bz10
  replace hz5 := hz5.after bz10
  have hz11 : At Wz8 Wz2.heap.size (.cells #[.int .i64 yp, .int .i64 yn, .int .i64 ym, .int .i64 yk, .slice B rs.length d] 39 (0, 0)) := nnz9.at_
  refine hK' _ _ ?_
  clear hK' K' nnz9 bz10
  go_frame
  refine ls_op rfl (fun K' hK' => ?_)
  have lz12 := hB.size
  have lz13 := hz5.lt
  have lz14 := hz11.lt
  refine wp_new (some 4) rfl (alU_impl_Scheme rfl) (fun Wz15 nnz16 => ?_)
  have bz17 := nnz16.below (Below.refl _ _) (Nat.le_refl _)
  replace hB := below_after hB bz17
  replace hz5 := hz5.after bz17
  replace hz11 := hz11.after bz17
  have hz18 : At Wz15 Wz8.heap.size (.cells #[.int .i64 0, .int .i64 0, .int .i64 0, .int .i64 0, .slice none 0 0] 39 (0, 0)) := nnz16.at_
  refine hK' _ _ ?_
  clear hK' K' nnz16 bz17
  go_frame
  refine ls_ex (some 5) (.int .i64 0) rfl rfl (exec_assign _ rfl (.int .i64 0) rfl) ?_
  go_frame
  refine wpList_nil ?_
  go_upto_region 1 with (fail)
  refine wp_region_lit ?_
  refine ls_ex (some 14) (.agg #[.int .i64 xp, .int .i64 xn, .int .i64 xm, .int .i64 xk, .slice A qs.length c]) rfl rfl (exec_load_all 39 _ rfl w.heap.size rfl _ _ _ hz5 Try.underlying39 rfl 5 (by kernel_rfl) rfl) ?_
  go_frame
  refine ls_op rfl (fun K' hK' => ?_)
  have lz21 := hB.size
  have lz22 := hz5.lt
  have lz23 := hz11.lt
  have lz24 := hz18.lt
  refine wp_call1 (some 15) rfl 38 _ _ rfl (fun args w => by kernel_rfl) _ rfl _ (implIsScheme_c xp xn xm xk A c qs _ (hR.keep hB) hlx) (fun e Wz19 h => ?_)
  obtain ⟨rfl, bz20⟩ := h
  replace hB := below_after hB bz20
  replace hz5 := hz5.after bz20
  replace hz11 := hz11.after bz20
  replace hz18 := hz18.after bz20
  rw [HX.out]
  clear bz20
  refine ⟨_, rfl, ?_⟩
  refine hK' _ _ ?_
  clear hK' K'
  go_frame
  refine ls_ex (some 16) (.bool true) rfl rfl (exec_not _ _ rfl false rfl) ?_
  go_frame
  refine ls_ex (some 17) (.bool true) rfl rfl (exec_move _ rfl (.bool true) rfl) ?_
  go_frame
  refine ls_skip_g (some 18) rfl rfl ?_
  go_frame
  refine ls_skip_g (some 19) rfl rfl ?_
  go_frame
  refine ls_skip_g (some 20) rfl rfl ?_
  go_frame
  refine ls_ex (some 21) (.bool true) rfl rfl (exec_pick _ _ _ rfl true rfl (.bool true) rfl) ?_
  go_frame
  refine wpList_nil ?_
  go_upto_region 2 with (fail)
  refine wp_region_lit ?_
  refine ls_ex (some 22) (.agg #[.int .i64 0, .int .i64 0, .int .i64 0, .int .i64 0, .slice none 0 0]) rfl rfl (exec_build_sch0 rfl) ?_
  go_frame
  refine ls_op rfl (fun K' hK' => ?_)
  refine wp_store_all 39 _ _ rfl rfl Wz8.heap.size rfl #[.int .i64 0, .int .i64 0, .int .i64 0, .int .i64 0, .slice none 0 0] rfl _ _ hz18 5 (by kernel_rfl) rfl rfl (one5 _ _ _ _ _ _ _) (fun Wz25 pz26 => ?_)
  replace hB := pz26.below hB (by omega)
  replace hz5 := pz26.other hz5 (by omega)
  replace hz11 := pz26.other hz11 (by omega)
  replace hz18 : At Wz25 Wz8.heap.size (.cells #[.int .i64 0, .int .i64 0, .int .i64 0, .int .i64 0, .slice none 0 0] 39 (0, 0)) := pz26.at_
  refine hK' _ _ ?_
  clear hK' K' pz26
  refine ls_ex (some 5) (.int .i64 1) rfl rfl (exec_assign _ rfl (.int .i64 1) rfl) ?_
  go_frame
  refine wpList_nil ?_
  go_wp2_with fail
  refine bodyPost_ret (results_at2 rfl _ _ Wz8.heap.size _ _ _ rfl _ rfl hz18 Try.underlying39 rfl 5 (by kernel_rfl) rfl) rfl ?_
  unfold ResS muZ muL
  rw [HC.out]
  exact ⟨_, rfl, Own.nil _ _, hB⟩
set_option maxHeartbeats 4000000 in
theorem specMu_a2 (xp xn xm xk : Int) (A : Option Addr) (c : Nat) (qs : List (List Nat)) (yp yn ym yk : Int) (B : Option Addr) (d : Nat) (rs : List (List Nat)) (w : World) (hR : Rd w A qs) (hlx : qs.length ≤ 1048576) (hS : Rd w B rs) (hly : rs.length ≤ 1048576) (hx : schemeB xp xn xm xk qs = true) (hy : schemeB yp yn ym yk rs = false) :
    Calls Try.prog 14 #[.agg #[.int .i64 xp, .int .i64 xn, .int .i64 xm, .int .i64 xk, .slice A qs.length c], .agg #[.int .i64 yp, .int .i64 yn, .int .i64 ym, .int .i64 yk, .slice B rs.length d]] w (ResS w (muZ (muCode xp xn xm xk qs yp yn ym yk rs) xp) (muZ (muCode xp xn xm xk qs yp yn ym yk rs) (xn * yn)) (muZ (muCode xp xn xm xk qs yp yn ym yk rs) (xm * ym)) (muZ (muCode xp xn xm xk qs yp yn ym yk rs) (xk * yk)) (muL (muCode xp xn xm xk qs yp yn ym yk rs) (muR xp xn xm xk yn ym yk qs rs)) (muCode xp xn xm xk qs yp yn ym yk rs)) := by
  have hB := Below.refl w.heap.size w
  have HC : Hid (muCode xp xn xm xk qs yp yn ym yk rs = 1) := Lib.hid (by unfold muCode; rw [hx, hy]; simp)
  have HX := Lib.hid hx
  have HY := Lib.hid hy
  clear hx hy
  go_enter Try.func14, Try.ntmps14
  go_upto_region 0 with (fail)
  refine wp_region_lit ?_
  refine ls_op rfl (fun K' hK' => ?_)
  have lz1 := hB.size
  refine wp_new (some 2) rfl (exec_box 39 _ rfl (#[.int .i64 xp, .int .i64 xn, .int .i64 xm, .int .i64 xk, .slice A qs.length c]) rfl) (fun Wz2 nnz3 => ?_)
  have bz4 := nnz3.below (Below.refl _ _) (Nat.le_refl _)
  replace hB := below_after hB bz4
  have hz5 : At Wz2 w.heap.size (.cells #[.int .i64 xp, .int .i64 xn, .int .i64 xm, .int .i64 xk, .slice A qs.length c] 39 (0, 0)) := nnz3.at_
  refine hK' _ _ ?_
  clear hK' K' nnz3 bz4
  go_frame
  refine ls_op rfl (fun K' hK' => ?_)
  have lz6 := hB.size
  have lz7 := hz5.lt
  refine wp_new (some 3) rfl (exec_box 39 _ rfl (#[.int .i64 yp, .int .i64 yn, .int .i64 ym, .int .i64 yk, .slice B rs.length d]) rfl) (fun Wz8 nnz9 => ?_)
  have bz10 := nnz9.below (Below.refl _ _) (Nat.le_refl _)
  replace hB := below_after hB bz10
  replace hz5 := hz5.after bz10
  have hz11 : At Wz8 Wz2.heap.size (.cells #[.int .i64 yp, .int .i64 yn, .int .i64 ym, .int .i64 yk, .slice B rs.length d] 39 (0, 0)) := nnz9.at_
  refine hK' _ _ ?_
  clear hK' K' nnz9 bz10
  go_frame
  refine ls_op rfl (fun K' hK' => ?_)
  have lz12 := hB.size
  have lz13 := hz5.lt
  have lz14 := hz11.lt
  refine wp_new (some 4) rfl (alU_impl_Scheme rfl) (fun Wz15 nnz16 => ?_)
  have bz17 := nnz16.below (Below.refl _ _) (Nat.le_refl _)
  replace hB := below_after hB bz17
  replace hz5 := hz5.after bz17
  replace hz11 := hz11.after bz17
  have hz18 : At Wz15 Wz8.heap.size (.cells #[.int .i64 0, .int .i64 0, .int .i64 0, .int .i64 0, .slice none 0 0] 39 (0, 0)) := nnz16.at_
  refine hK' _ _ ?_
  clear hK' K' nnz16 bz17
  go_frame
  refine ls_ex (some 5) (.int .i64 0) rfl rfl (exec_assign _ rfl (.int .i64 0) rfl) ?_
  go_frame
  refine wpList_nil ?_
  go_upto_region 1 with (fail)
  refine wp_region_lit ?_
  refine ls_ex (some 12) (.agg #[.int .i64 xp, .int .i64 xn, .int .i64 xm, .int .i64 xk, .slice A qs.length c]) rfl rfl (exec_load_all 39 _ rfl w.heap.size rfl _ _ _ hz5 Try.underlying39 rfl 5 (by kernel_rfl) rfl) ?_
  go_frame
  refine ls_op rfl (fun K' hK' => ?_)
  have lz21 := hB.size
  have lz22 := hz5.lt
  have lz23 := hz11.lt
  have lz24 := hz18.lt
  refine wp_call1 (some 13) rfl 36 _ _ rfl (fun args w => by kernel_rfl) _ rfl _ (l01Is_c xp xn xm xk A c qs _ (hR.keep hB) hlx) (fun e Wz19 h => ?_)
  obtain ⟨rfl, bz20⟩ := h
  replace hB := below_after hB bz20
  replace hz5 := hz5.after bz20
  replace hz11 := hz11.after bz20
  replace hz18 := hz18.after bz20
  rw [HX.out]
  clear bz20
  refine ⟨_, rfl, ?_⟩
  refine hK' _ _ ?_
  clear hK' K'
  go_frame
  refine ls_ex (some 14) (.bool false) rfl rfl (exec_not _ _ rfl true rfl) ?_
  go_frame
  refine ls_ex (some 15) (.bool false) rfl rfl (exec_move _ rfl (.bool false) rfl) ?_
  go_frame
  refine ls_ex_g (some 16) (.agg #[.int .i64 yp, .int .i64 yn, .int .i64 ym, .int .i64 yk, .slice B rs.length d]) rfl rfl (exec_load_all 39 _ rfl Wz2.heap.size rfl _ _ _ hz11 Try.underlying39 rfl 5 (by kernel_rfl) rfl) ?_
  go_frame
  refine ls_op_g rfl (fun K' hK' => ?_)
  have lz27 := hB.size
  have lz28 := hz5.lt
  have lz29 := hz11.lt
  have lz30 := hz18.lt
  refine wp_call1 (some 17) rfl 36 _ _ rfl (fun args w => by kernel_rfl) _ rfl _ (l01Is_c yp yn ym yk B d rs _ (hS.keep hB) hly) (fun e Wz25 h => ?_)
  obtain ⟨rfl, bz26⟩ := h
  replace hB := below_after hB bz26
  replace hz5 := hz5.after bz26
  replace hz11 := hz11.after bz26
  replace hz18 := hz18.after bz26
  rw [HY.out]
  clear bz26
  refine ⟨_, rfl, ?_⟩
  refine hK' _ _ ?_
  clear hK' K'
  go_frame
  refine ls_ex_g (some 18) (.bool true) rfl rfl (exec_not _ _ rfl false rfl) ?_
  go_frame
  refine ls_ex (some 19) (.bool true) rfl rfl (exec_pick _ _ _ rfl false rfl (.bool true) rfl) ?_
  go_frame
  refine ls_ex (some 11) (.bool true) rfl rfl (exec_assign _ rfl (.bool true) rfl) ?_
  go_frame
  refine wpList_nil ?_
  go_upto_region 2 with (fail)
  refine wp_region_lit ?_
  refine ls_ex (some 20) (.agg #[.int .i64 0, .int .i64 0, .int .i64 0, .int .i64 0, .slice none 0 0]) rfl rfl (exec_build_sch0 rfl) ?_
  go_frame
  refine ls_op rfl (fun K' hK' => ?_)
  refine wp_store_all 39 _ _ rfl rfl Wz8.heap.size rfl #[.int .i64 0, .int .i64 0, .int .i64 0, .int .i64 0, .slice none 0 0] rfl _ _ hz18 5 (by kernel_rfl) rfl rfl (one5 _ _ _ _ _ _ _) (fun Wz31 pz32 => ?_)
  replace hB := pz32.below hB (by omega)
  replace hz5 := pz32.other hz5 (by omega)
  replace hz11 := pz32.other hz11 (by omega)
  replace hz18 : At Wz31 Wz8.heap.size (.cells #[.int .i64 0, .int .i64 0, .int .i64 0, .int .i64 0, .slice none 0 0] 39 (0, 0)) := pz32.at_
  refine hK' _ _ ?_
  clear hK' K' pz32
  refine ls_ex (some 5) (.int .i64 1) rfl rfl (exec_assign _ rfl (.int .i64 1) rfl) ?_
  go_frame
  refine wpList_nil ?_
  go_wp2_with fail
  refine bodyPost_ret (results_at2 rfl _ _ Wz8.heap.size _ _ _ rfl _ rfl hz18 Try.underlying39 rfl 5 (by kernel_rfl) rfl) rfl ?_
  unfold ResS muZ muL
  rw [HC.out]
  exact ⟨_, rfl, Own.nil _ _, hB⟩
set_option maxHeartbeats 4000000 in
theorem implMu_a2 (xp xn xm xk : Int) (A : Option Addr) (c : Nat) (qs : List (List Nat)) (yp yn ym yk : Int) (B : Option Addr) (d : Nat) (rs : List (List Nat)) (w : World) (hR : Rd w A qs) (hlx : qs.length ≤ 1048576) (hS : Rd w B rs) (hly : rs.length ≤ 1048576) (hx : schemeB xp xn xm xk qs = true) (hy : schemeB yp yn ym yk rs = false) :
    Calls Try.prog 16 #[.agg #[.int .i64 xp, .int .i64 xn, .int .i64 xm, .int .i64 xk, .slice A qs.length c], .agg #[.int .i64 yp, .int .i64 yn, .int .i64 ym, .int .i64 yk, .slice B rs.length d]] w (ResS w (muZ (muCode xp xn xm xk qs yp yn ym yk rs) xp) (muZ (muCode xp xn xm xk qs yp yn ym yk rs) (xn * yn)) (muZ (muCode xp xn xm xk qs yp yn ym yk rs) (xm * ym)) (muZ (muCode xp xn xm xk qs yp yn ym yk rs) (xk * yk)) (muL (muCode xp xn xm xk qs yp yn ym yk rs) (muR xp xn xm xk yn ym yk qs rs)) (muCode xp xn xm xk qs yp yn ym yk rs)) := by
  have hB := Below.refl w.heap.size w
  have HC : Hid (muCode xp xn xm xk qs yp yn ym yk rs = 1) := Lib.hid (by unfold muCode; rw [hx, hy]; simp)
  have HX := Lib.hid hx
  have HY := Lib.hid hy
  clear hx hy
  go_enter Try.func16, Try.ntmps16
  go_upto_region 0 with (fail)
  refine wp_region_lit ?_
  refine ls_op rfl (fun K' hK' => ?_)
  have lz1 := hB.size
  refine wp_new (some 2) rfl (exec_box 39 _ rfl (#[.int .i64 xp, .int .i64 xn, .int .i64 xm, .int .i64 xk, .slice A qs.length c]) rfl) (fun Wz2 nnz3 => ?_)
  have bz4 := nnz3.below (Below.refl _ _) (Nat.le_refl _)
  replace hB := below_after hB bz4
  have hz5 : At Wz2 w.heap.size (.cells #[.int .i64 xp, .int .i64 xn, .int .i64 xm, .int .i64 xk, .slice A qs.length c] 39 (0, 0)) := nnz3.at_
  refine hK' _ _ ?_
  clear hK' K' nnz3 bz4
  go_frame
  refine ls_op rfl (fun K' hK' => ?_)
  have lz6 := hB.size
  have lz7 := hz5.lt
  refine wp_new (some 3) rfl (exec_box 39 _ rfl (#[.int .i64 yp, .int .i64 yn, .int .i64 ym, .int .i64 yk, .slice B rs.length d]) rfl) (fun Wz8 nnz9 => ?_)
  have bz10 := nnz9.below (Below.refl _ _) (Nat.le_refl _)
  replace hB := below_after hB bz10
  replace hz5 := hz5.after bz10
  have hz11 : At Wz8 Wz2.heap.size (.cells #[.int .i64 yp, .int .i64 yn, .int .i64 ym, .int .i64 yk, .slice B rs.length d] 39 (0, 0)) := nnz9.at_
  refine hK' _ _ ?_
  clear hK' K' nnz9 bz10
  go_frame
  refine ls_op rfl (fun K' hK' => ?_)
  have lz12 := hB.size
  have lz13 := hz5.lt
  have lz14 := hz11.lt
  refine wp_new (some 4) rfl (alU_impl_Scheme rfl) (fun Wz15 nnz16 => ?_)
  have bz17 := nnz16.below (Below.refl _ _) (Nat.le_refl _)
  replace hB := below_after hB bz17
  replace hz5 := hz5.after bz17
  replace hz11 := hz11.after bz17
  have hz18 : At Wz15 Wz8.heap.size (.cells #[.int .i64 0, .int .i64 0, .int .i64 0, .int .i64 0, .slice none 0 0] 39 (0, 0)) := nnz16.at_
  refine hK' _ _ ?_
  clear hK' K' nnz16 bz17
  go_frame
  refine ls_ex (some 5) (.int .i64 0) rfl rfl (exec_assign _ rfl (.int .i64 0) rfl) ?_
  go_frame
  refine wpList_nil ?_
  go_upto_region 1 with (fail)
  refine wp_region_lit ?_
  refine ls_ex (some 14) (.agg #[.int .i64 xp, .int .i64 xn, .int .i64 xm, .int .i64 xk, .slice A qs.length c]) rfl rfl (exec_load_all 39 _ rfl w.heap.size rfl _ _ _ hz5 Try.underlying39 rfl 5 (by kernel_rfl) rfl) ?_
  go_frame
  refine ls_op rfl (fun K' hK' => ?_)
  have lz21 := hB.size
  have lz22 := hz5.lt
  have lz23 := hz11.lt
  have lz24 := hz18.lt
  refine wp_call1 (some 15) rfl 38 _ _ rfl (fun args w => by kernel_rfl) _ rfl _ (implIsScheme_c xp xn xm xk A c qs _ (hR.keep hB) hlx) (fun e Wz19 h => ?_)
  obtain ⟨rfl, bz20⟩ := h
  replace hB := below_after hB bz20
  replace hz5 := hz5.after bz20
  replace hz11 := hz11.after bz20
  replace hz18 := hz18.after bz20
  rw [HX.out]
  clear bz20
  refine ⟨_, rfl, ?_⟩
  refine hK' _ _ ?_
  clear hK' K'
  go_frame
  refine ls_ex (some 16) (.bool false) rfl rfl (exec_not _ _ rfl true rfl) ?_
  go_frame
  refine ls_ex (some 17) (.bool false) rfl rfl (exec_move _ rfl (.bool false) rfl) ?_
  go_frame
  refine ls_ex_g (some 18) (.agg #[.int .i64 yp, .int .i64 yn, .int .i64 ym, .int .i64 yk, .slice B rs.length d]) rfl rfl (exec_load_all 39 _ rfl Wz2.heap.size rfl _ _ _ hz11 Try.underlying39 rfl 5 (by kernel_rfl) rfl) ?_
  go_frame
  refine ls_op_g rfl (fun K' hK' => ?_)
  have lz27 := hB.size
  have lz28 := hz5.lt
  have lz29 := hz11.lt
  have lz30 := hz18.lt
  refine wp_call1 (some 19) rfl 38 _ _ rfl (fun args w => by kernel_rfl) _ rfl _ (implIsScheme_c yp yn ym yk B d rs _ (hS.keep hB) hly) (fun e Wz25 h => ?_)
  obtain ⟨rfl, bz26⟩ := h
  replace hB := below_after hB bz26
  replace hz5 := hz5.after bz26
  replace hz11 := hz11.after bz26
  replace hz18 := hz18.after bz26
  rw [HY.out]
  clear bz26
  refine ⟨_, rfl, ?_⟩
  refine hK' _ _ ?_
  clear hK' K'
  go_frame
  refine ls_ex_g (some 20) (.bool true) rfl rfl (exec_not _ _ rfl false rfl) ?_
  go_frame
  refine ls_ex (some 21) (.bool true) rfl rfl (exec_pick _ _ _ rfl false rfl (.bool true) rfl) ?_
  go_frame
  refine wpList_nil ?_
  go_upto_region 2 with (fail)
  refine wp_region_lit ?_
  refine ls_ex (some 22) (.agg #[.int .i64 0, .int .i64 0, .int .i64 0, .int .i64 0, .slice none 0 0]) rfl rfl (exec_build_sch0 rfl) ?_
  go_frame
  refine ls_op rfl (fun K' hK' => ?_)
  refine wp_store_all 39 _ _ rfl rfl Wz8.heap.size rfl #[.int .i64 0, .int .i64 0, .int .i64 0, .int .i64 0, .slice none 0 0] rfl _ _ hz18 5 (by kernel_rfl) rfl rfl (one5 _ _ _ _ _ _ _) (fun Wz31 pz32 => ?_)
  replace hB := pz32.below hB (by omega)
  replace hz5 := pz32.other hz5 (by omega)
  replace hz11 := pz32.other hz11 (by omega)
  replace hz18 : At Wz31 Wz8.heap.size (.cells #[.int .i64 0, .int .i64 0, .int .i64 0, .int .i64 0, .slice none 0 0] 39 (0, 0)) := pz32.at_
  refine hK' _ _ ?_
  clear hK' K' pz32
  refine ls_ex (some 5) (.int .i64 1) rfl rfl (exec_assign _ rfl (.int .i64 1) rfl) ?_
  go_frame
  refine wpList_nil ?_
  go_wp2_with fail
  refine bodyPost_ret (results_at2 rfl _ _ Wz8.heap.size _ _ _ rfl _ rfl hz18 Try.underlying39 rfl 5 (by kernel_rfl) rfl) rfl ?_
  unfold ResS muZ muL
  rw [HC.out]
  exact ⟨_, rfl, Own.nil _ _, hB⟩
set_option maxHeartbeats 4000000 in
theorem specMu_b (xp xn xm xk : Int) (A : Option Addr) (c : Nat) (qs : List (List Nat)) (yp yn ym yk : Int) (B : Option Addr) (d : Nat) (rs : List (List Nat)) (w : World) (hR : Rd w A qs) (hlx : qs.length ≤ 1048576) (hS : Rd w B rs) (hly : rs.length ≤ 1048576) (hx : schemeB xp xn xm xk qs = true) (hy : schemeB yp yn ym yk rs = true) (hp : xp ≠ yp) :
    Calls Try.prog 14 #[.agg #[.int .i64 xp, .int .i64 xn, .int .i64 xm, .int .i64 xk, .slice A qs.length c], .agg #[.int .i64 yp, .int .i64 yn, .int .i64 ym, .int .i64 yk, .slice B rs.length d]] w (ResS w (muZ (muCode xp xn xm xk qs yp yn ym yk rs) xp) (muZ (muCode xp xn xm xk qs yp yn ym yk rs) (xn * yn)) (muZ (muCode xp xn xm xk qs yp yn ym yk rs) (xm * ym)) (muZ (muCode xp xn xm xk qs yp yn ym yk rs) (xk * yk)) (muL (muCode xp xn xm xk qs yp yn ym yk rs) (muR xp xn xm xk yn ym yk qs rs)) (muCode xp xn xm xk qs yp yn ym yk rs)) := by
  have hB := Below.refl w.heap.size w
  have HC : Hid (muCode xp xn xm xk qs yp yn ym yk rs = 2) := Lib.hid (by unfold muCode; rw [hx, hy]; simp [hp])
  have HX := Lib.hid hx
  have HY := Lib.hid hy
  have HP : Hid ((xp != yp) = true) := Lib.hid (by simp [hp])
  clear hx hy hp
  go_enter Try.func14, Try.ntmps14
  go_upto_region 0 with (fail)
  refine wp_region_lit ?_
  refine ls_op rfl (fun K' hK' => ?_)
  have lz1 := hB.size
  refine wp_new (some 2) rfl (exec_box 39 _ rfl (#[.int .i64 xp, .int .i64 xn, .int .i64 xm, .int .i64 xk, .slice A qs.length c]) rfl) (fun Wz2 nnz3 => ?_)
  have bz4 := nnz3.below (Below.refl _ _) (Nat.le_refl _)
  replace hB := below_after hB bz4
  have hz5 : At Wz2 w.heap.size (.cells #[.int .i64 xp, .int .i64 xn, .int .i64 xm, .int .i64 xk, .slice A qs.length c] 39 (0, 0)) := nnz3.at_
  refine hK' _ _ ?_
  clear hK' K' nnz3 bz4
  go_frame
  refine ls_op rfl (fun K' hK' => ?_)
  have lz6 := hB.size
  have lz7 := hz5.lt
  refine wp_new (some 3) rfl (exec_box 39 _ rfl (#[.int .i64 yp, .int .i64 yn, .int .i64 ym, .int .i64 yk, .slice B rs.length d]) rfl) (fun Wz8 nnz9 => ?_)
  have bz10 := nnz9.below (Below.refl _ _) (Nat.le_refl _)
  replace hB := below_after hB bz10
  replace hz5 := hz5.after bz10
  have hz11 : At Wz8 Wz2.heap.size (.cells #[.int .i64 yp, .int .i64 yn, .int .i64 ym, .int .i64 yk, .slice B rs.length d] 39 (0, 0)) := nnz9.at_
  refine hK' _ _ ?_
  clear hK' K' nnz9 bz10
  go_frame
  refine ls_op rfl (fun K' hK' => ?_)
  have lz12 := hB.size
  have lz13 := hz5.lt
  have lz14 := hz11.lt
  refine wp_new (some 4) rfl (alU_impl_Scheme rfl) (fun Wz15 nnz16 => ?_)
  have bz17 := nnz16.below (Below.refl _ _) (Nat.le_refl _)
  replace hB := below_after hB bz17
  replace hz5 := hz5.after bz17
  replace hz11 := hz11.after bz17
  have hz18 : At Wz15 Wz8.heap.size (.cells #[.int .i64 0, .int .i64 0, .int .i64 0, .int .i64 0, .slice none 0 0] 39 (0, 0)) := nnz16.at_
  refine hK' _ _ ?_
  clear hK' K' nnz16 bz17
  go_frame
  refine ls_ex (some 5) (.int .i64 0) rfl rfl (exec_assign _ rfl (.int .i64 0) rfl) ?_
  go_frame
  refine wpList_nil ?_
  go_upto_region 1 with (fail)
  refine wp_region_lit ?_
  refine ls_ex (some 12) (.agg #[.int .i64 xp, .int .i64 xn, .int .i64 xm, .int .i64 xk, .slice A qs.length c]) rfl rfl (exec_load_all 39 _ rfl w.heap.size rfl _ _ _ hz5 Try.underlying39 rfl 5 (by kernel_rfl) rfl) ?_
  go_frame
  refine ls_op rfl (fun K' hK' => ?_)
  have lz21 := hB.size
  have lz22 := hz5.lt
  have lz23 := hz11.lt
  have lz24 := hz18.lt
  refine wp_call1 (some 13) rfl 36 _ _ rfl (fun args w => by kernel_rfl) _ rfl _ (l01Is_c xp xn xm xk A c qs _ (hR.keep hB) hlx) (fun e Wz19 h => ?_)
  obtain ⟨rfl, bz20⟩ := h
  replace hB := below_after hB bz20
  replace hz5 := hz5.after bz20
  replace hz11 := hz11.after bz20
  replace hz18 := hz18.after bz20
  rw [HX.out]
  clear bz20
  refine ⟨_, rfl, ?_⟩
  refine hK' _ _ ?_
  clear hK' K'
  go_frame
  refine ls_ex (some 14) (.bool false) rfl rfl (exec_not _ _ rfl true rfl) ?_
  go_frame
  refine ls_ex (some 15) (.bool false) rfl rfl (exec_move _ rfl (.bool false) rfl) ?_
  go_frame
  refine ls_ex_g (some 16) (.agg #[.int .i64 yp, .int .i64 yn, .int .i64 ym, .int .i64 yk, .slice B rs.length d]) rfl rfl (exec_load_all 39 _ rfl Wz2.heap.size rfl _ _ _ hz11 Try.underlying39 rfl 5 (by kernel_rfl) rfl) ?_
  go_frame
  refine ls_op_g rfl (fun K' hK' => ?_)
  have lz27 := hB.size
  have lz28 := hz5.lt
  have lz29 := hz11.lt
  have lz30 := hz18.lt
  refine wp_call1 (some 17) rfl 36 _ _ rfl (fun args w => by kernel_rfl) _ rfl _ (l01Is_c yp yn ym yk B d rs _ (hS.keep hB) hly) (fun e Wz25 h => ?_)
  obtain ⟨rfl, bz26⟩ := h
  replace hB := below_after hB bz26
  replace hz5 := hz5.after bz26
  replace hz11 := hz11.after bz26
  replace hz18 := hz18.after bz26
  rw [HY.out]
  clear bz26
  refine ⟨_, rfl, ?_⟩
  refine hK' _ _ ?_
  clear hK' K'
  go_frame
  refine ls_ex_g (some 18) (.bool false) rfl rfl (exec_not _ _ rfl true rfl) ?_
  go_frame
  refine ls_ex (some 19) (.bool false) rfl rfl (exec_pick _ _ _ rfl false rfl (.bool false) rfl) ?_
  go_frame
  refine ls_ex (some 11) (.bool false) rfl rfl (exec_assign _ rfl (.bool false) rfl) ?_
  go_frame
  refine wpList_nil ?_
  go_upto_region 3 with (fail)
  refine wp_region_lit ?_
  refine ls_ex (some 22) (.pointer (some ⟨w.heap.size, 0, none⟩)) rfl rfl (exec_fieldAddr 39 _ 0 rfl _ (by kernel_rfl)) ?_
  go_frame
  refine ls_ex (some 23) (.int .i64 xp) rfl rfl (exec_load_one 2 _ rfl w.heap.size 0 rfl (.int .i64 xp) _ Try.underlying2 rfl (hz5.at_ 0)) ?_
  go_frame
  refine ls_ex (some 24) (.pointer (some ⟨Wz2.heap.size, 0, none⟩)) rfl rfl (exec_fieldAddr 39 _ 0 rfl _ (by kernel_rfl)) ?_
  go_frame
  refine ls_ex (some 25) (.int .i64 yp) rfl rfl (exec_load_one 2 _ rfl Wz2.heap.size 0 rfl (.int .i64 yp) _ Try.underlying2 rfl (hz11.at_ 0)) ?_
  go_frame
  refine ls_ex (some 26) (.bool true) rfl rfl (exec_neq _ _ _ _ rfl xp yp rfl rfl true HP.out) ?_
  go_frame
  refine ls_ex (some 21) (.bool true) rfl rfl (exec_assign _ rfl (.bool true) rfl) ?_
  go_frame
  refine wpList_nil ?_
  go_upto_region 4 with (fail)
  refine wp_region_lit ?_
  refine ls_ex (some 27) (.agg #[.int .i64 0, .int .i64 0, .int .i64 0, .int .i64 0, .slice none 0 0]) rfl rfl (exec_build_sch0 rfl) ?_
  go_frame
  refine ls_op rfl (fun K' hK' => ?_)
  refine wp_store_all 39 _ _ rfl rfl Wz8.heap.size rfl #[.int .i64 0, .int .i64 0, .int .i64 0, .int .i64 0, .slice none 0 0] rfl _ _ hz18 5 (by kernel_rfl) rfl rfl (one5 _ _ _ _ _ _ _) (fun Wz31 pz32 => ?_)
  replace hB := pz32.below hB (by omega)
  replace hz5 := pz32.other hz5 (by omega)
  replace hz11 := pz32.other hz11 (by omega)
  replace hz18 : At Wz31 Wz8.heap.size (.cells #[.int .i64 0, .int .i64 0, .int .i64 0, .int .i64 0, .slice none 0 0] 39 (0, 0)) := pz32.at_
  refine hK' _ _ ?_
  clear hK' K' pz32
  refine ls_ex (some 5) (.int .i64 2) rfl rfl (exec_assign _ rfl (.int .i64 2) rfl) ?_
  go_frame
  refine wpList_nil ?_
  go_wp2_with fail
  refine bodyPost_ret (results_at2 rfl _ _ Wz8.heap.size _ _ _ rfl _ rfl hz18 Try.underlying39 rfl 5 (by kernel_rfl) rfl) rfl ?_
  unfold ResS muZ muL
  rw [HC.out]
  exact ⟨_, rfl, Own.nil _ _, hB⟩
set_option maxHeartbeats 4000000 in
theorem implMu_b (xp xn xm xk : Int) (A : Option Addr) (c : Nat) (qs : List (List Nat)) (yp yn ym yk : Int) (B : Option Addr) (d : Nat) (rs : List (List Nat)) (w : World) (hR : Rd w A qs) (hlx : qs.length ≤ 1048576) (hS : Rd w B rs) (hly : rs.length ≤ 1048576) (hx : schemeB xp xn xm xk qs = true) (hy : schemeB yp yn ym yk rs = true) (hp : xp ≠ yp) :
    Calls Try.prog 16 #[.agg #[.int .i64 xp, .int .i64 xn, .int .i64 xm, .int .i64 xk, .slice A qs.length c], .agg #[.int .i64 yp, .int .i64 yn, .int .i64 ym, .int .i64 yk, .slice B rs.length d]] w (ResS w (muZ (muCode xp xn xm xk qs yp yn ym yk rs) xp) (muZ (muCode xp xn xm xk qs yp yn ym yk rs) (xn * yn)) (muZ (muCode xp xn xm xk qs yp yn ym yk rs) (xm * ym)) (muZ (muCode xp xn xm xk qs yp yn ym yk rs) (xk * yk)) (muL (muCode xp xn xm xk qs yp yn ym yk rs) (muR xp xn xm xk yn ym yk qs rs)) (muCode xp xn xm xk qs yp yn ym yk rs)) := by
  have hB := Below.refl w.heap.size w
  have HC : Hid (muCode xp xn xm xk qs yp yn ym yk rs = 2) := Lib.hid (by unfold muCode; rw [hx, hy]; simp [hp])
  have HX := Lib.hid hx
  have HY := Lib.hid hy
  have HP : Hid ((xp != yp) = true) := Lib.hid (by simp [hp])
  clear hx hy hp
  go_enter Try.func16, Try.ntmps16
  go_upto_region 0 with (fail)
  refine wp_region_lit ?_
  refine ls_op rfl (fun K' hK' => ?_)
  have lz1 := hB.size
  refine wp_new (some 2) rfl (exec_box 39 _ rfl (#[.int .i64 xp, .int .i64 xn, .int .i64 xm, .int .i64 xk, .slice A qs.length c]) rfl) (fun Wz2 nnz3 => ?_)
  have bz4 := nnz3.below (Below.refl _ _) (Nat.le_refl _)
  replace hB := below_after hB bz4
  have hz5 : At Wz2 w.heap.size (.cells #[.int .i64 xp, .int .i64 xn, .int .i64 xm, .int .i64 xk, .slice A qs.length c] 39 (0, 0)) := nnz3.at_
  refine hK' _ _ ?_
  clear hK' K' nnz3 bz4
  go_frame
  refine ls_op rfl (fun K' hK' => ?_)
  have lz6 := hB.size
  have lz7 := hz5.lt
  refine wp_new (some 3) rfl (exec_box 39 _ rfl (#[.int .i64 yp, .int .i64 yn, .int .i64 ym, .int .i64 yk, .slice B rs.length d]) rfl) (fun Wz8 nnz9 => ?_)
  have bz10 := nnz9.below (Below.refl _ _) (Nat.le_refl _)
  replace hB := below_after hB bz10
  replace hz5 := hz5.after bz10
  have hz11 : At Wz8 Wz2.heap.size (.cells #[.int .i64 yp, .int .i64 yn, .int .i64 ym, .int .i64 yk, .slice B rs.length d] 39 (0, 0)) := nnz9.at_
  refine hK' _ _ ?_
  clear hK' K' nnz9 bz10
  go_frame
  refine ls_op rfl (fun K' hK' => ?_)
  have lz12 := hB.size
  have lz13 := hz5.lt
  have lz14 := hz11.lt
  refine wp_new (some 4) rfl (alU_impl_Scheme rfl) (fun Wz15 nnz16 => ?_)
  have bz17 := nnz16.below (Below.refl _ _) (Nat.le_refl _)
  replace hB := below_after hB bz17
  replace hz5 := hz5.after bz17
  replace hz11 := hz11.after bz17
  have hz18 : At Wz15 Wz8.heap.size (.cells #[.int .i64 0, .int .i64 0, .int .i64 0, .int .i64 0, .slice none 0 0] 39 (0, 0)) := nnz16.at_
  refine hK' _ _ ?_
  clear hK' K' nnz16 bz17
  go_frame
  refine ls_ex (some 5) (.int .i64 0) rfl rfl (exec_assign _ rfl (.int .i64 0) rfl) ?_
  go_frame
  refine wpList_nil ?_
  go_upto_region 1 with (fail)
  refine wp_region_lit ?_
  refine ls_ex (some 14) (.agg #[.int .i64 xp, .int .i64 xn, .int .i64 xm, .int .i64 xk, .slice A qs.length c]) rfl rfl (exec_load_all 39 _ rfl w.heap.size rfl _ _ _ hz5 Try.underlying39 rfl 5 (by kernel_rfl) rfl) ?_
  go_frame
  refine ls_op rfl (fun K' hK' => ?_)
  have lz21 := hB.size
  have lz22 := hz5.lt
  have lz23 := hz11.lt
  have lz24 := hz18.lt
  refine wp_call1 (some 15) rfl 38 _ _ rfl (fun args w => by kernel_rfl) _ rfl _ (implIsScheme_c xp xn xm xk A c qs _ (hR.keep hB) hlx) (fun e Wz19 h => ?_)
  obtain ⟨rfl, bz20⟩ := h
  replace hB := below_after hB bz20
  replace hz5 := hz5.after bz20
  replace hz11 := hz11.after bz20
  replace hz18 := hz18.after bz20
  rw [HX.out]
  clear bz20
  refine ⟨_, rfl, ?_⟩
  refine hK' _ _ ?_
  clear hK' K'
  go_frame
  refine ls_ex (some 16) (.bool false) rfl rfl (exec_not _ _ rfl true rfl) ?_
  go_frame
  refine ls_ex (some 17) (.bool false) rfl rfl (exec_move _ rfl (.bool false) rfl) ?_
  go_frame
  refine ls_ex_g (some 18) (.agg #[.int .i64 yp, .int .i64 yn, .int .i64 ym, .int .i64 yk, .slice B rs.length d]) rfl rfl (exec_load_all 39 _ rfl Wz2.heap.size rfl _ _ _ hz11 Try.underlying39 rfl 5 (by kernel_rfl) rfl) ?_
  go_frame
  refine ls_op_g rfl (fun K' hK' => ?_)
  have lz27 := hB.size
  have lz28 := hz5.lt
  have lz29 := hz11.lt
  have lz30 := hz18.lt
  refine wp_call1 (some 19) rfl 38 _ _ rfl (fun args w => by kernel_rfl) _ rfl _ (implIsScheme_c yp yn ym yk B d rs _ (hS.keep hB) hly) (fun e Wz25 h => ?_)
  obtain ⟨rfl, bz26⟩ := h
  replace hB := below_after hB bz26
  replace hz5 := hz5.after bz26
  replace hz11 := hz11.after bz26
  replace hz18 := hz18.after bz26
  rw [HY.out]
  clear bz26
  refine ⟨_, rfl, ?_⟩
  refine hK' _ _ ?_
  clear hK' K'
  go_frame
  refine ls_ex_g (some 20) (.bool false) rfl rfl (exec_not _ _ rfl true rfl) ?_
  go_frame
  refine ls_ex (some 21) (.bool false) rfl rfl (exec_pick _ _ _ rfl false rfl (.bool false) rfl) ?_
  go_frame
  refine wpList_nil ?_
  go_upto_region 3 with (fail)
  refine wp_region_lit ?_
  refine ls_ex (some 23) (.pointer (some ⟨w.heap.size, 0, none⟩)) rfl rfl (exec_fieldAddr 39 _ 0 rfl _ (by kernel_rfl)) ?_
  go_frame
  refine ls_ex (some 24) (.int .i64 xp) rfl rfl (exec_load_one 2 _ rfl w.heap.size 0 rfl (.int .i64 xp) _ Try.underlying2 rfl (hz5.at_ 0)) ?_
  go_frame
  refine ls_ex (some 25) (.pointer (some ⟨Wz2.heap.size, 0, none⟩)) rfl rfl (exec_fieldAddr 39 _ 0 rfl _ (by kernel_rfl)) ?_
  go_frame
  refine ls_ex (some 26) (.int .i64 yp) rfl rfl (exec_load_one 2 _ rfl Wz2.heap.size 0 rfl (.int .i64 yp) _ Try.underlying2 rfl (hz11.at_ 0)) ?_
  go_frame
  refine ls_ex (some 27) (.bool true) rfl rfl (exec_neq _ _ _ _ rfl xp yp rfl rfl true HP.out) ?_
  go_frame
  refine wpList_nil ?_
  go_upto_region 4 with (fail)
  refine wp_region_lit ?_
  refine ls_ex (some 28) (.agg #[.int .i64 0, .int .i64 0, .int .i64 0, .int .i64 0, .slice none 0 0]) rfl rfl (exec_build_sch0 rfl) ?_
  go_frame
  refine ls_op rfl (fun K' hK' => ?_)
  refine wp_store_all 39 _ _ rfl rfl Wz8.heap.size rfl #[.int .i64 0, .int .i64 0, .int .i64 0, .int .i64 0, .slice none 0 0] rfl _ _ hz18 5 (by kernel_rfl) rfl rfl (one5 _ _ _ _ _ _ _) (fun Wz31 pz32 => ?_)
  replace hB := pz32.below hB (by omega)
  replace hz5 := pz32.other hz5 (by omega)
  replace hz11 := pz32.other hz11 (by omega)
  replace hz18 : At Wz31 Wz8.heap.size (.cells #[.int .i64 0, .int .i64 0, .int .i64 0, .int .i64 0, .slice none 0 0] 39 (0, 0)) := pz32.at_
  refine hK' _ _ ?_
  clear hK' K' pz32
  refine ls_ex (some 5) (.int .i64 2) rfl rfl (exec_assign _ rfl (.int .i64 2) rfl) ?_
  go_frame
  refine wpList_nil ?_
  go_wp2_with fail
  refine bodyPost_ret (results_at2 rfl _ _ Wz8.heap.size _ _ _ rfl _ rfl hz18 Try.underlying39 rfl 5 (by kernel_rfl) rfl) rfl ?_
  unfold ResS muZ muL
  rw [HC.out]
  exact ⟨_, rfl, Own.nil _ _, hB⟩
set_option maxHeartbeats 6400000 in
theorem specMu_c1 (P n m k : Nat) (A : Option Addr) (c : Nat) (qs : List (List Nat)) (u v t : Nat) (B : Option Addr) (d : Nat) (rs : List (List Nat)) (w : World) (hR : Rd w A qs) (hlx : qs.length ≤ 1048576) (hS : Rd w B rs) (hly : rs.length ≤ 1048576) (hx : schemeB P n m k qs = true) (hy : schemeB P u v t rs = true) (hc : 3 < n * u) :
    Calls Try.prog 14 #[.agg #[.int .i64 (P : Nat), .int .i64 (n : Nat), .int .i64 (m : Nat), .int .i64 (k : Nat), .slice A qs.length c], .agg #[.int .i64 (P : Nat), .int .i64 (u : Nat), .int .i64 (v : Nat), .int .i64 (t : Nat), .slice B rs.length d]] w (ResS w (muZ (muCode P n m k qs P u v t rs) P) (muZ (muCode P n m k qs P u v t rs) (n * u)) (muZ (muCode P n m k qs P u v t rs) (m * v)) (muZ (muCode P n m k qs P u v t rs) (k * t)) (muL (muCode P n m k qs P u v t rs) (muR P n m k u v t qs rs)) (muCode P n m k qs P u v t rs)) := by
  have hB := Below.refl w.heap.size w
  have hl30 := schemeB_len hx
  have hs30 := schemeB_len hy
  obtain ⟨s0, s1, s2, s3⟩ := sizesB_parts (schemeB_sizes hx)
  obtain ⟨_, t1, t2, t3⟩ := sizesB_parts (schemeB_sizes hy)
  have hP : 2 ≤ P ∧ P ≤ 5 := by have := prime_le5 s0; omega
  have b1 : 1 ≤ n ∧ n ≤ 3 := by simp only [sizeB, Bool.and_eq_true, decide_eq_true_eq] at s1; omega
  have b2 : 1 ≤ m ∧ m ≤ 3 := by simp only [sizeB, Bool.and_eq_true, decide_eq_true_eq] at s2; omega
  have b3 : 1 ≤ k ∧ k ≤ 3 := by simp only [sizeB, Bool.and_eq_true, decide_eq_true_eq] at s3; omega
  have b4 : 1 ≤ u ∧ u ≤ 3 := by simp only [sizeB, Bool.and_eq_true, decide_eq_true_eq] at t1; omega
  have b5 : 1 ≤ v ∧ v ≤ 3 := by simp only [sizeB, Bool.and_eq_true, decide_eq_true_eq] at t2; omega
  have b6 : 1 ≤ t ∧ t ≤ 3 := by simp only [sizeB, Bool.and_eq_true, decide_eq_true_eq] at t3; omega
  obtain ⟨N1, hN1⟩ : ∃ N, n * u = N := ⟨_, rfl⟩
  obtain ⟨N2, hN2⟩ : ∃ N, m * v = N := ⟨_, rfl⟩
  obtain ⟨N3, hN3⟩ : ∃ N, k * t = N := ⟨_, rfl⟩
  obtain ⟨LL, hLL⟩ : ∃ N, qs.length * rs.length = N := ⟨_, rfl⟩
  have c1 : N1 ≤ 3 * 3 := by rw [← hN1]; exact Nat.mul_le_mul b1.2 b4.2
  have c2 : N2 ≤ 3 * 3 := by rw [← hN2]; exact Nat.mul_le_mul b2.2 b5.2
  have c3 : N3 ≤ 3 * 3 := by rw [← hN3]; exact Nat.mul_le_mul b3.2 b6.2
  have c4 : LL ≤ 30 * 30 := by rw [← hLL]; exact Nat.mul_le_mul hl30 hs30
  have e1 : (n : Int) * (u : Int) = (N1 : Int) := by rw [← hN1]; simp
  have e2 : (m : Int) * (v : Int) = (N2 : Int) := by rw [← hN2]; simp
  have e3 : (k : Int) * (t : Int) = (N3 : Int) := by rw [← hN3]; simp
  have e4 : (qs.length : Int) * (rs.length : Int) = (LL : Int) := by rw [← hLL]; simp
  have HN1 : Hid (IntKind.i64.wrap ((n : Int) * (u : Int)) = (N1 : Int)) := Lib.hid (by rw [e1]; exact IntWalk.i64_in _ (by omega))
  have HN2 : Hid (IntKind.i64.wrap ((m : Int) * (v : Int)) = (N2 : Int)) := Lib.hid (by rw [e2]; exact IntWalk.i64_in _ (by omega))
  have HN3 : Hid (IntKind.i64.wrap ((k : Int) * (t : Int)) = (N3 : Int)) := Lib.hid (by rw [e3]; exact IntWalk.i64_in _ (by omega))
  have HLL : Hid (IntKind.i64.wrap ((qs.length : Int) * (rs.length : Int)) = (LL : Int)) := Lib.hid (by rw [e4]; exact IntWalk.i64_in _ (by omega))
  have HX := Lib.hid hx
  have HY := Lib.hid hy
  rw [hN1] at hc
  have HC : Hid (muCode P n m k qs P u v t rs = 3) := Lib.hid (by unfold muCode; rw [hx, hy, e1, e2, e3, hLL]; simp; omega)
  rw [e1, e2, e3]
  clear hx hy s0 s1 s2 s3 t1 t2 t3 hN1 hN2 hN3 hLL e1 e2 e3 e4 b1 b2 b3 b4 b5 b6
  go_enter Try.func14, Try.ntmps14
  go_upto_region 0 with (fail)
  refine wp_region_lit ?_
  refine ls_op rfl (fun K' hK' => ?_)
  have lz1 := hB.size
  refine wp_new (some 2) rfl (exec_box 39 _ rfl (#[.int .i64 (P : Nat), .int .i64 (n : Nat), .int .i64 (m : Nat), .int .i64 (k : Nat), .slice A qs.length c]) rfl) (fun Wz2 nnz3 => ?_)
  have bz4 := nnz3.below (Below.refl _ _) (Nat.le_refl _)
  replace hB := below_after hB bz4
  have hz5 : At Wz2 w.heap.size (.cells #[.int .i64 (P : Nat), .int .i64 (n : Nat), .int .i64 (m : Nat), .int .i64 (k : Nat), .slice A qs.length c] 39 (0, 0)) := nnz3.at_
  refine hK' _ _ ?_
  clear hK' K' nnz3 bz4
  go_frame
  refine ls_op rfl (fun K' hK' => ?_)
  have lz6 := hB.size
  have lz7 := hz5.lt
  refine wp_new (some 3) rfl (exec_box 39 _ rfl (#[.int .i64 (P : Nat), .int .i64 (u : Nat), .int .i64 (v : Nat), .int .i64 (t : Nat), .slice B rs.length d]) rfl) (fun Wz8 nnz9 => ?_)
  have bz10 := nnz9.below (Below.refl _ _) (Nat.le_refl _)
  replace hB := below_after hB bz10
  replace hz5 := hz5.after bz10
  have hz11 : At Wz8 Wz2.heap.size (.cells #[.int .i64 (P : Nat), .int .i64 (u : Nat), .int .i64 (v : Nat), .int .i64 (t : Nat), .slice B rs.length d] 39 (0, 0)) := nnz9.at_
  refine hK' _ _ ?_
  clear hK' K' nnz9 bz10
  go_frame
  refine ls_op rfl (fun K' hK' => ?_)
  have lz12 := hB.size
  have lz13 := hz5.lt
  have lz14 := hz11.lt
  refine wp_new (some 4) rfl (alU_impl_Scheme rfl) (fun Wz15 nnz16 => ?_)
  have bz17 := nnz16.below (Below.refl _ _) (Nat.le_refl _)
  replace hB := below_after hB bz17
  replace hz5 := hz5.after bz17
  replace hz11 := hz11.after bz17
  have hz18 : At Wz15 Wz8.heap.size (.cells #[.int .i64 0, .int .i64 0, .int .i64 0, .int .i64 0, .slice none 0 0] 39 (0, 0)) := nnz16.at_
  refine hK' _ _ ?_
  clear hK' K' nnz16 bz17
  go_frame
  refine ls_ex (some 5) (.int .i64 0) rfl rfl (exec_assign _ rfl (.int .i64 0) rfl) ?_
  go_frame
  refine wpList_nil ?_
  go_upto_region 1 with (fail)
  refine wp_region_lit ?_
  refine ls_ex (some 12) (.agg #[.int .i64 (P : Nat), .int .i64 (n : Nat), .int .i64 (m : Nat), .int .i64 (k : Nat), .slice A qs.length c]) rfl rfl (exec_load_all 39 _ rfl w.heap.size rfl _ _ _ hz5 Try.underlying39 rfl 5 (by kernel_rfl) rfl) ?_
  go_frame
  refine ls_op rfl (fun K' hK' => ?_)
  have lz21 := hB.size
  have lz22 := hz5.lt
  have lz23 := hz11.lt
  have lz24 := hz18.lt
  refine wp_call1 (some 13) rfl 36 _ _ rfl (fun args w => by kernel_rfl) _ rfl _ (l01Is_c (P : Nat) (n : Nat) (m : Nat) (k : Nat) A c qs _ (hR.keep hB) hlx) (fun e Wz19 h => ?_)
  obtain ⟨rfl, bz20⟩ := h
  replace hB := below_after hB bz20
  replace hz5 := hz5.after bz20
  replace hz11 := hz11.after bz20
  replace hz18 := hz18.after bz20
  rw [HX.out]
  clear bz20
  refine ⟨_, rfl, ?_⟩
  refine hK' _ _ ?_
  clear hK' K'
  go_frame
  refine ls_ex (some 14) (.bool false) rfl rfl (exec_not _ _ rfl true rfl) ?_
  go_frame
  refine ls_ex (some 15) (.bool false) rfl rfl (exec_move _ rfl (.bool false) rfl) ?_
  go_frame
  refine ls_ex_g (some 16) (.agg #[.int .i64 (P : Nat), .int .i64 (u : Nat), .int .i64 (v : Nat), .int .i64 (t : Nat), .slice B rs.length d]) rfl rfl (exec_load_all 39 _ rfl Wz2.heap.size rfl _ _ _ hz11 Try.underlying39 rfl 5 (by kernel_rfl) rfl) ?_
  go_frame
  refine ls_op_g rfl (fun K' hK' => ?_)
  have lz27 := hB.size
  have lz28 := hz5.lt
  have lz29 := hz11.lt
  have lz30 := hz18.lt
  refine wp_call1 (some 17) rfl 36 _ _ rfl (fun args w => by kernel_rfl) _ rfl _ (l01Is_c (P : Nat) (u : Nat) (v : Nat) (t : Nat) B d rs _ (hS.keep hB) hly) (fun e Wz25 h => ?_)
  obtain ⟨rfl, bz26⟩ := h
  replace hB := below_after hB bz26
  replace hz5 := hz5.after bz26
  replace hz11 := hz11.after bz26
  replace hz18 := hz18.after bz26
  rw [HY.out]
  clear bz26
  refine ⟨_, rfl, ?_⟩
  refine hK' _ _ ?_
  clear hK' K'
  go_frame
  refine ls_ex_g (some 18) (.bool false) rfl rfl (exec_not _ _ rfl true rfl) ?_
  go_frame
  refine ls_ex (some 19) (.bool false) rfl rfl (exec_pick _ _ _ rfl false rfl (.bool false) rfl) ?_
  go_frame
  refine ls_ex (some 11) (.bool false) rfl rfl (exec_assign _ rfl (.bool false) rfl) ?_
  go_frame
  refine wpList_nil ?_
  go_upto_region 3 with (fail)
  refine wp_region_lit ?_
  refine ls_ex (some 22) (.pointer (some ⟨w.heap.size, 0, none⟩)) rfl rfl (exec_fieldAddr 39 _ 0 rfl _ (by kernel_rfl)) ?_
  go_frame
  refine ls_ex (some 23) (.int .i64 (P : Nat)) rfl rfl (exec_load_one 2 _ rfl w.heap.size 0 rfl (.int .i64 (P : Nat)) _ Try.underlying2 rfl (hz5.at_ 0)) ?_
  go_frame
  refine ls_ex (some 24) (.pointer (some ⟨Wz2.heap.size, 0, none⟩)) rfl rfl (exec_fieldAddr 39 _ 0 rfl _ (by kernel_rfl)) ?_
  go_frame
  refine ls_ex (some 25) (.int .i64 (P : Nat)) rfl rfl (exec_load_one 2 _ rfl Wz2.heap.size 0 rfl (.int .i64 (P : Nat)) _ Try.underlying2 rfl (hz11.at_ 0)) ?_
  go_frame
  refine ls_ex (some 26) (.bool false) rfl rfl (exec_neq _ _ _ _ rfl ((P : Nat)) ((P : Nat)) rfl rfl false (by simp)) ?_
  go_frame
  refine ls_ex (some 21) (.bool false) rfl rfl (exec_assign _ rfl (.bool false) rfl) ?_
  go_frame
  refine wpList_nil ?_
  go_upto_region 5 with (fail)
  refine wp_region_lit ?_
  refine ls_ex (some 29) (.pointer (some ⟨w.heap.size, 1, none⟩)) rfl rfl (exec_fieldAddr 39 _ 1 rfl _ (by kernel_rfl)) ?_
  go_frame
  refine ls_ex (some 30) (.int .i64 (n : Nat)) rfl rfl (exec_load_one 2 _ rfl w.heap.size 1 rfl (.int .i64 (n : Nat)) _ Try.underlying2 rfl (hz5.at_ 1)) ?_
  go_frame
  refine ls_ex (some 31) (.pointer (some ⟨Wz2.heap.size, 1, none⟩)) rfl rfl (exec_fieldAddr 39 _ 1 rfl _ (by kernel_rfl)) ?_
  go_frame
  refine ls_ex (some 32) (.int .i64 (u : Nat)) rfl rfl (exec_load_one 2 _ rfl Wz2.heap.size 1 rfl (.int .i64 (u : Nat)) _ Try.underlying2 rfl (hz11.at_ 1)) ?_
  go_frame
  refine ls_ex (some 33) (.int .i64 (N1 : Nat)) rfl rfl (exec_mul _ _ _ _ rfl (n : Nat) (u : Nat) (N1 : Nat) rfl rfl HN1.out) ?_
  go_frame
  refine ls_ex (some 34) (.bool true) rfl rfl (exec_gtr _ _ _ _ rfl ((N1 : Nat)) 3 rfl rfl true (decide_eq_true (by omega))) ?_
  go_frame
  refine ls_ex (some 35) (.bool true) rfl rfl (exec_move _ rfl (.bool true) rfl) ?_
  go_frame
  refine ls_skip_g (some 36) rfl rfl ?_
  go_frame
  refine ls_skip_g (some 37) rfl rfl ?_
  go_frame
  refine ls_skip_g (some 38) rfl rfl ?_
  go_frame
  refine ls_skip_g (some 39) rfl rfl ?_
  go_frame
  refine ls_skip_g (some 40) rfl rfl ?_
  go_frame
  refine ls_skip_g (some 41) rfl rfl ?_
  go_frame
  refine ls_ex (some 42) (.bool true) rfl rfl (exec_pick _ _ _ rfl true rfl (.bool true) rfl) ?_
  go_frame
  refine ls_ex (some 43) (.bool true) rfl rfl (exec_move _ rfl (.bool true) rfl) ?_
  go_frame
  refine ls_skip_g (some 44) rfl rfl ?_
  go_frame
  refine ls_skip_g (some 45) rfl rfl ?_
  go_frame
  refine ls_skip_g (some 46) rfl rfl ?_
  go_frame
  refine ls_skip_g (some 47) rfl rfl ?_
  go_frame
  refine ls_skip_g (some 48) rfl rfl ?_
  go_frame
  refine ls_skip_g (some 49) rfl rfl ?_
  go_frame
  refine ls_ex (some 50) (.bool true) rfl rfl (exec_pick _ _ _ rfl true rfl (.bool true) rfl) ?_
  go_frame
  refine ls_ex (some 51) (.bool true) rfl rfl (exec_move _ rfl (.bool true) rfl) ?_
  go_frame
  refine ls_skip_g (some 52) rfl rfl ?_
  go_frame
  refine ls_skip_g (some 53) rfl rfl ?_
  go_frame
  refine ls_skip_g (some 54) rfl rfl ?_
  go_frame
  refine ls_skip_g (some 55) rfl rfl ?_
  go_frame
  refine ls_skip_g (some 56) rfl rfl ?_
  go_frame
  refine ls_skip_g (some 57) rfl rfl ?_
  go_frame
  refine ls_skip_g (some 58) rfl rfl ?_
  go_frame
  refine ls_skip_g (some 59) rfl rfl ?_
  go_frame
  refine ls_ex (some 60) (.bool true) rfl rfl (exec_pick _ _ _ rfl true rfl (.bool true) rfl) ?_
  go_frame
  refine ls_ex (some 28) (.bool true) rfl rfl (exec_assign _ rfl (.bool true) rfl) ?_
  go_frame
  refine wpList_nil ?_
  go_upto_region 6 with (fail)
  refine wp_region_lit ?_
  refine ls_ex (some 61) (.agg #[.int .i64 0, .int .i64 0, .int .i64 0, .int .i64 0, .slice none 0 0]) rfl rfl (exec_build_sch0 rfl) ?_
  go_frame
  refine ls_op rfl (fun K' hK' => ?_)
  refine wp_store_all 39 _ _ rfl rfl Wz8.heap.size rfl #[.int .i64 0, .int .i64 0, .int .i64 0, .int .i64 0, .slice none 0 0] rfl _ _ hz18 5 (by kernel_rfl) rfl rfl (one5 _ _ _ _ _ _ _) (fun Wz31 pz32 => ?_)
  replace hB := pz32.below hB (by omega)
  replace hz5 := pz32.other hz5 (by omega)
  replace hz11 := pz32.other hz11 (by omega)
  replace hz18 : At Wz31 Wz8.heap.size (.cells #[.int .i64 0, .int .i64 0, .int .i64 0, .int .i64 0, .slice none 0 0] 39 (0, 0)) := pz32.at_
  refine hK' _ _ ?_
  clear hK' K' pz32
  refine ls_ex (some 5) (.int .i64 3) rfl rfl (exec_assign _ rfl (.int .i64 3) rfl) ?_
  go_frame
  refine wpList_nil ?_
  go_wp2_with fail
  refine bodyPost_ret (results_at2 rfl _ _ Wz8.heap.size _ _ _ rfl _ rfl hz18 Try.underlying39 rfl 5 (by kernel_rfl) rfl) rfl ?_
  unfold ResS muZ muL
  rw [HC.out]
  exact ⟨_, rfl, Own.nil _ _, hB⟩
set_option maxHeartbeats 6400000 in
theorem specMu_c2 (P n m k : Nat) (A : Option Addr) (c : Nat) (qs : List (List Nat)) (u v t : Nat) (B : Option Addr) (d : Nat) (rs : List (List Nat)) (w : World) (hR : Rd w A qs) (hlx : qs.length ≤ 1048576) (hS : Rd w B rs) (hly : rs.length ≤ 1048576) (hx : schemeB P n m k qs = true) (hy : schemeB P u v t rs = true) (h1 : n * u ≤ 3) (hc : 3 < m * v) :
    Calls Try.prog 14 #[.agg #[.int .i64 (P : Nat), .int .i64 (n : Nat), .int .i64 (m : Nat), .int .i64 (k : Nat), .slice A qs.length c], .agg #[.int .i64 (P : Nat), .int .i64 (u : Nat), .int .i64 (v : Nat), .int .i64 (t : Nat), .slice B rs.length d]] w (ResS w (muZ (muCode P n m k qs P u v t rs) P) (muZ (muCode P n m k qs P u v t rs) (n * u)) (muZ (muCode P n m k qs P u v t rs) (m * v)) (muZ (muCode P n m k qs P u v t rs) (k * t)) (muL (muCode P n m k qs P u v t rs) (muR P n m k u v t qs rs)) (muCode P n m k qs P u v t rs)) := by
  have hB := Below.refl w.heap.size w
  have hl30 := schemeB_len hx
  have hs30 := schemeB_len hy
  obtain ⟨s0, s1, s2, s3⟩ := sizesB_parts (schemeB_sizes hx)
  obtain ⟨_, t1, t2, t3⟩ := sizesB_parts (schemeB_sizes hy)
  have hP : 2 ≤ P ∧ P ≤ 5 := by have := prime_le5 s0; omega
  have b1 : 1 ≤ n ∧ n ≤ 3 := by simp only [sizeB, Bool.and_eq_true, decide_eq_true_eq] at s1; omega
  have b2 : 1 ≤ m ∧ m ≤ 3 := by simp only [sizeB, Bool.and_eq_true, decide_eq_true_eq] at s2; omega
  have b3 : 1 ≤ k ∧ k ≤ 3 := by simp only [sizeB, Bool.and_eq_true, decide_eq_true_eq] at s3; omega
  have b4 : 1 ≤ u ∧ u ≤ 3 := by simp only [sizeB, Bool.and_eq_true, decide_eq_true_eq] at t1; omega
  have b5 : 1 ≤ v ∧ v ≤ 3 := by simp only [sizeB, Bool.and_eq_true, decide_eq_true_eq] at t2; omega
  have b6 : 1 ≤ t ∧ t ≤ 3 := by simp only [sizeB, Bool.and_eq_true, decide_eq_true_eq] at t3; omega
  obtain ⟨N1, hN1⟩ : ∃ N, n * u = N := ⟨_, rfl⟩
  obtain ⟨N2, hN2⟩ : ∃ N, m * v = N := ⟨_, rfl⟩
  obtain ⟨N3, hN3⟩ : ∃ N, k * t = N := ⟨_, rfl⟩
  obtain ⟨LL, hLL⟩ : ∃ N, qs.length * rs.length = N := ⟨_, rfl⟩
  have c1 : N1 ≤ 3 * 3 := by rw [← hN1]; exact Nat.mul_le_mul b1.2 b4.2
  have c2 : N2 ≤ 3 * 3 := by rw [← hN2]; exact Nat.mul_le_mul b2.2 b5.2
  have c3 : N3 ≤ 3 * 3 := by rw [← hN3]; exact Nat.mul_le_mul b3.2 b6.2
  have c4 : LL ≤ 30 * 30 := by rw [← hLL]; exact Nat.mul_le_mul hl30 hs30
  have e1 : (n : Int) * (u : Int) = (N1 : Int) := by rw [← hN1]; simp
  have e2 : (m : Int) * (v : Int) = (N2 : Int) := by rw [← hN2]; simp
  have e3 : (k : Int) * (t : Int) = (N3 : Int) := by rw [← hN3]; simp
  have e4 : (qs.length : Int) * (rs.length : Int) = (LL : Int) := by rw [← hLL]; simp
  have HN1 : Hid (IntKind.i64.wrap ((n : Int) * (u : Int)) = (N1 : Int)) := Lib.hid (by rw [e1]; exact IntWalk.i64_in _ (by omega))
  have HN2 : Hid (IntKind.i64.wrap ((m : Int) * (v : Int)) = (N2 : Int)) := Lib.hid (by rw [e2]; exact IntWalk.i64_in _ (by omega))
  have HN3 : Hid (IntKind.i64.wrap ((k : Int) * (t : Int)) = (N3 : Int)) := Lib.hid (by rw [e3]; exact IntWalk.i64_in _ (by omega))
  have HLL : Hid (IntKind.i64.wrap ((qs.length : Int) * (rs.length : Int)) = (LL : Int)) := Lib.hid (by rw [e4]; exact IntWalk.i64_in _ (by omega))
  have HX := Lib.hid hx
  have HY := Lib.hid hy
  rw [hN1] at h1
  rw [hN2] at hc
  have HC : Hid (muCode P n m k qs P u v t rs = 3) := Lib.hid (by unfold muCode; rw [hx, hy, e1, e2, e3, hLL]; simp; omega)
  rw [e1, e2, e3]
  clear hx hy s0 s1 s2 s3 t1 t2 t3 hN1 hN2 hN3 hLL e1 e2 e3 e4 b1 b2 b3 b4 b5 b6
  go_enter Try.func14, Try.ntmps14
  go_upto_region 0 with (fail)
  refine wp_region_lit ?_
  refine ls_op rfl (fun K' hK' => ?_)
  have lz1 := hB.size
  refine wp_new (some 2) rfl (exec_box 39 _ rfl (#[.int .i64 (P : Nat), .int .i64 (n : Nat), .int .i64 (m : Nat), .int .i64 (k : Nat), .slice A qs.length c]) rfl) (fun Wz2 nnz3 => ?_)
  have bz4 := nnz3.below (Below.refl _ _) (Nat.le_refl _)
  replace hB := below_after hB bz4
  have hz5 : At Wz2 w.heap.size (.cells #[.int .i64 (P : Nat), .int .i64 (n : Nat), .int .i64 (m : Nat), .int .i64 (k : Nat), .slice A qs.length c] 39 (0, 0)) := nnz3.at_
  refine hK' _ _ ?_
  clear hK' K' nnz3 bz4
  go_frame
  refine ls_op rfl (fun K' hK' => ?_)
  have lz6 := hB.size
  have lz7 := hz5.lt
  refine wp_new (some 3) rfl (exec_box 39 _ rfl (#[.int .i64 (P : Nat), .int .i64 (u : Nat), .int .i64 (v : Nat), .int .i64 (t : Nat), .slice B rs.length d]) rfl) (fun Wz8 nnz9 => ?_)
  have bz10 := nnz9.below (Below.refl _ _) (Nat.le_refl _)
  replace hB := below_after hB bz10
  replace hz5 := hz5.after bz10
  have hz11 : At Wz8 Wz2.heap.size (.cells #[.int .i64 (P : Nat), .int .i64 (u : Nat), .int .i64 (v : Nat), .int .i64 (t : Nat), .slice B rs.length d] 39 (0, 0)) := nnz9.at_
  refine hK' _ _ ?_
  clear hK' K' nnz9 bz10
  go_frame
  refine ls_op rfl (fun K' hK' => ?_)
  have lz12 := hB.size
  have lz13 := hz5.lt
  have lz14 := hz11.lt
  refine wp_new (some 4) rfl (alU_impl_Scheme rfl) (fun Wz15 nnz16 => ?_)
  have bz17 := nnz16.below (Below.refl _ _) (Nat.le_refl _)
  replace hB := below_after hB bz17
  replace hz5 := hz5.after bz17
  replace hz11 := hz11.after bz17
  have hz18 : At Wz15 Wz8.heap.size (.cells #[.int .i64 0, .int .i64 0, .int .i64 0, .int .i64 0, .slice none 0 0] 39 (0, 0)) := nnz16.at_
  refine hK' _ _ ?_
  clear hK' K' nnz16 bz17
  go_frame
  refine ls_ex (some 5) (.int .i64 0) rfl rfl (exec_assign _ rfl (.int .i64 0) rfl) ?_
  go_frame
  refine wpList_nil ?_
  go_upto_region 1 with (fail)
  refine wp_region_lit ?_
  refine ls_ex (some 12) (.agg #[.int .i64 (P : Nat), .int .i64 (n : Nat), .int .i64 (m : Nat), .int .i64 (k : Nat), .slice A qs.length c]) rfl rfl (exec_load_all 39 _ rfl w.heap.size rfl _ _ _ hz5 Try.underlying39 rfl 5 (by kernel_rfl) rfl) ?_
  go_frame
  refine ls_op rfl (fun K' hK' => ?_)
  have lz21 := hB.size
  have lz22 := hz5.lt
  have lz23 := hz11.lt
  have lz24 := hz18.lt
  refine wp_call1 (some 13) rfl 36 _ _ rfl (fun args w => by kernel_rfl) _ rfl _ (l01Is_c (P : Nat) (n : Nat) (m : Nat) (k : Nat) A c qs _ (hR.keep hB) hlx) (fun e Wz19 h => ?_)
  obtain ⟨rfl, bz20⟩ := h
  replace hB := below_after hB bz20
  replace hz5 := hz5.after bz20
  replace hz11 := hz11.after bz20
  replace hz18 := hz18.after bz20
  rw [HX.out]
  clear bz20
  refine ⟨_, rfl, ?_⟩
  refine hK' _ _ ?_
  clear hK' K'
  go_frame
  refine ls_ex (some 14) (.bool false) rfl rfl (exec_not _ _ rfl true rfl) ?_
  go_frame
  refine ls_ex (some 15) (.bool false) rfl rfl (exec_move _ rfl (.bool false) rfl) ?_
  go_frame
  refine ls_ex_g (some 16) (.agg #[.int .i64 (P : Nat), .int .i64 (u : Nat), .int .i64 (v : Nat), .int .i64 (t : Nat), .slice B rs.length d]) rfl rfl (exec_load_all 39 _ rfl Wz2.heap.size rfl _ _ _ hz11 Try.underlying39 rfl 5 (by kernel_rfl) rfl) ?_
  go_frame
  refine ls_op_g rfl (fun K' hK' => ?_)
  have lz27 := hB.size
  have lz28 := hz5.lt
  have lz29 := hz11.lt
  have lz30 := hz18.lt
  refine wp_call1 (some 17) rfl 36 _ _ rfl (fun args w => by kernel_rfl) _ rfl _ (l01Is_c (P : Nat) (u : Nat) (v : Nat) (t : Nat) B d rs _ (hS.keep hB) hly) (fun e Wz25 h => ?_)
  obtain ⟨rfl, bz26⟩ := h
  replace hB := below_after hB bz26
  replace hz5 := hz5.after bz26
  replace hz11 := hz11.after bz26
  replace hz18 := hz18.after bz26
  rw [HY.out]
  clear bz26
  refine ⟨_, rfl, ?_⟩
  refine hK' _ _ ?_
  clear hK' K'
  go_frame
  refine ls_ex_g (some 18) (.bool false) rfl rfl (exec_not _ _ rfl true rfl) ?_
  go_frame
  refine ls_ex (some 19) (.bool false) rfl rfl (exec_pick _ _ _ rfl false rfl (.bool false) rfl) ?_
  go_frame
  refine ls_ex (some 11) (.bool false) rfl rfl (exec_assign _ rfl (.bool false) rfl) ?_
  go_frame
  refine wpList_nil ?_
  go_upto_region 3 with (fail)
  refine wp_region_lit ?_
  refine ls_ex (some 22) (.pointer (some ⟨w.heap.size, 0, none⟩)) rfl rfl (exec_fieldAddr 39 _ 0 rfl _ (by kernel_rfl)) ?_
  go_frame
  refine ls_ex (some 23) (.int .i64 (P : Nat)) rfl rfl (exec_load_one 2 _ rfl w.heap.size 0 rfl (.int .i64 (P : Nat)) _ Try.underlying2 rfl (hz5.at_ 0)) ?_
  go_frame
  refine ls_ex (some 24) (.pointer (some ⟨Wz2.heap.size, 0, none⟩)) rfl rfl (exec_fieldAddr 39 _ 0 rfl _ (by kernel_rfl)) ?_
  go_frame
  refine ls_ex (some 25) (.int .i64 (P : Nat)) rfl rfl (exec_load_one 2 _ rfl Wz2.heap.size 0 rfl (.int .i64 (P : Nat)) _ Try.underlying2 rfl (hz11.at_ 0)) ?_
  go_frame
  refine ls_ex (some 26) (.bool false) rfl rfl (exec_neq _ _ _ _ rfl ((P : Nat)) ((P : Nat)) rfl rfl false (by simp)) ?_
  go_frame
  refine ls_ex (some 21) (.bool false) rfl rfl (exec_assign _ rfl (.bool false) rfl) ?_
  go_frame
  refine wpList_nil ?_
  go_upto_region 5 with (fail)
  refine wp_region_lit ?_
  refine ls_ex (some 29) (.pointer (some ⟨w.heap.size, 1, none⟩)) rfl rfl (exec_fieldAddr 39 _ 1 rfl _ (by kernel_rfl)) ?_
  go_frame
  refine ls_ex (some 30) (.int .i64 (n : Nat)) rfl rfl (exec_load_one 2 _ rfl w.heap.size 1 rfl (.int .i64 (n : Nat)) _ Try.underlying2 rfl (hz5.at_ 1)) ?_
  go_frame
  refine ls_ex (some 31) (.pointer (some ⟨Wz2.heap.size, 1, none⟩)) rfl rfl (exec_fieldAddr 39 _ 1 rfl _ (by kernel_rfl)) ?_
  go_frame
  refine ls_ex (some 32) (.int .i64 (u : Nat)) rfl rfl (exec_load_one 2 _ rfl Wz2.heap.size 1 rfl (.int .i64 (u : Nat)) _ Try.underlying2 rfl (hz11.at_ 1)) ?_
  go_frame
  refine ls_ex (some 33) (.int .i64 (N1 : Nat)) rfl rfl (exec_mul _ _ _ _ rfl (n : Nat) (u : Nat) (N1 : Nat) rfl rfl HN1.out) ?_
  go_frame
  refine ls_ex (some 34) (.bool false) rfl rfl (exec_gtr _ _ _ _ rfl ((N1 : Nat)) 3 rfl rfl false (decide_eq_false (by omega))) ?_
  go_frame
  refine ls_ex (some 35) (.bool false) rfl rfl (exec_move _ rfl (.bool false) rfl) ?_
  go_frame
  refine ls_ex_g (some 36) (.pointer (some ⟨w.heap.size, 2, none⟩)) rfl rfl (exec_fieldAddr 39 _ 2 rfl _ (by kernel_rfl)) ?_
  go_frame
  refine ls_ex_g (some 37) (.int .i64 (m : Nat)) rfl rfl (exec_load_one 2 _ rfl w.heap.size 2 rfl (.int .i64 (m : Nat)) _ Try.underlying2 rfl (hz5.at_ 2)) ?_
  go_frame
  refine ls_ex_g (some 38) (.pointer (some ⟨Wz2.heap.size, 2, none⟩)) rfl rfl (exec_fieldAddr 39 _ 2 rfl _ (by kernel_rfl)) ?_
  go_frame
  refine ls_ex_g (some 39) (.int .i64 (v : Nat)) rfl rfl (exec_load_one 2 _ rfl Wz2.heap.size 2 rfl (.int .i64 (v : Nat)) _ Try.underlying2 rfl (hz11.at_ 2)) ?_
  go_frame
  refine ls_ex_g (some 40) (.int .i64 (N2 : Nat)) rfl rfl (exec_mul _ _ _ _ rfl (m : Nat) (v : Nat) (N2 : Nat) rfl rfl HN2.out) ?_
  go_frame
  refine ls_ex_g (some 41) (.bool true) rfl rfl (exec_gtr _ _ _ _ rfl ((N2 : Nat)) 3 rfl rfl true (decide_eq_true (by omega))) ?_
  go_frame
  refine ls_ex (some 42) (.bool true) rfl rfl (exec_pick _ _ _ rfl false rfl (.bool true) rfl) ?_
  go_frame
  refine ls_ex (some 43) (.bool true) rfl rfl (exec_move _ rfl (.bool true) rfl) ?_
  go_frame
  refine ls_skip_g (some 44) rfl rfl ?_
  go_frame
  refine ls_skip_g (some 45) rfl rfl ?_
  go_frame
  refine ls_skip_g (some 46) rfl rfl ?_
  go_frame
  refine ls_skip_g (some 47) rfl rfl ?_
  go_frame
  refine ls_skip_g (some 48) rfl rfl ?_
  go_frame
  refine ls_skip_g (some 49) rfl rfl ?_
  go_frame
  refine ls_ex (some 50) (.bool true) rfl rfl (exec_pick _ _ _ rfl true rfl (.bool true) rfl) ?_
  go_frame
  refine ls_ex (some 51) (.bool true) rfl rfl (exec_move _ rfl (.bool true) rfl) ?_
  go_frame
  refine ls_skip_g (some 52) rfl rfl ?_
  go_frame
  refine ls_skip_g (some 53) rfl rfl ?_
  go_frame
  refine ls_skip_g (some 54) rfl rfl ?_
  go_frame
  refine ls_skip_g (some 55) rfl rfl ?_
  go_frame
  refine ls_skip_g (some 56) rfl rfl ?_
  go_frame
  refine ls_skip_g (some 57) rfl rfl ?_
  go_frame
  refine ls_skip_g (some 58) rfl rfl ?_
  go_frame
  refine ls_skip_g (some 59) rfl rfl ?_
  go_frame
  refine ls_ex (some 60) (.bool true) rfl rfl (exec_pick _ _ _ rfl true rfl (.bool true) rfl) ?_
  go_frame
  refine ls_ex (some 28) (.bool true) rfl rfl (exec_assign _ rfl (.bool true) rfl) ?_
  go_frame
  refine wpList_nil ?_
  go_upto_region 6 with (fail)
  refine wp_region_lit ?_
  refine ls_ex (some 61) (.agg #[.int .i64 0, .int .i64 0, .int .i64 0, .int .i64 0, .slice none 0 0]) rfl rfl (exec_build_sch0 rfl) ?_
  go_frame
  refine ls_op rfl (fun K' hK' => ?_)
  refine wp_store_all 39 _ _ rfl rfl Wz8.heap.size rfl #[.int .i64 0, .int .i64 0, .int .i64 0, .int .i64 0, .slice none 0 0] rfl _ _ hz18 5 (by kernel_rfl) rfl rfl (one5 _ _ _ _ _ _ _) (fun Wz31 pz32 => ?_)
  replace hB := pz32.below hB (by omega)
  replace hz5 := pz32.other hz5 (by omega)
  replace hz11 := pz32.other hz11 (by omega)
  replace hz18 : At Wz31 Wz8.heap.size (.cells #[.int .i64 0, .int .i64 0, .int .i64 0, .int .i64 0, .slice none 0 0] 39 (0, 0)) := pz32.at_
  refine hK' _ _ ?_
  clear hK' K' pz32
  refine ls_ex (some 5) (.int .i64 3) rfl rfl (exec_assign _ rfl (.int .i64 3) rfl) ?_
  go_frame
  refine wpList_nil ?_
  go_wp2_with fail
  refine bodyPost_ret (results_at2 rfl _ _ Wz8.heap.size _ _ _ rfl _ rfl hz18 Try.underlying39 rfl 5 (by kernel_rfl) rfl) rfl ?_
  unfold ResS muZ muL
  rw [HC.out]
  exact ⟨_, rfl, Own.nil _ _, hB⟩
set_option maxHeartbeats 6400000 in
theorem specMu_c3 (P n m k : Nat) (A : Option Addr) (c : Nat) (qs : List (List Nat)) (u v t : Nat) (B : Option Addr) (d : Nat) (rs : List (List Nat)) (w : World) (hR : Rd w A qs) (hlx : qs.length ≤ 1048576) (hS : Rd w B rs) (hly : rs.length ≤ 1048576) (hx : schemeB P n m k qs = true) (hy : schemeB P u v t rs = true) (h1 : n * u ≤ 3) (h2 : m * v ≤ 3) (hc : 3 < k * t) :
    Calls Try.prog 14 #[.agg #[.int .i64 (P : Nat), .int .i64 (n : Nat), .int .i64 (m : Nat), .int .i64 (k : Nat), .slice A qs.length c], .agg #[.int .i64 (P : Nat), .int .i64 (u : Nat), .int .i64 (v : Nat), .int .i64 (t : Nat), .slice B rs.length d]] w (ResS w (muZ (muCode P n m k qs P u v t rs) P) (muZ (muCode P n m k qs P u v t rs) (n * u)) (muZ (muCode P n m k qs P u v t rs) (m * v)) (muZ (muCode P n m k qs P u v t rs) (k * t)) (muL (muCode P n m k qs P u v t rs) (muR P n m k u v t qs rs)) (muCode P n m k qs P u v t rs)) := by
  have hB := Below.refl w.heap.size w
  have hl30 := schemeB_len hx
  have hs30 := schemeB_len hy
  obtain ⟨s0, s1, s2, s3⟩ := sizesB_parts (schemeB_sizes hx)
  obtain ⟨_, t1, t2, t3⟩ := sizesB_parts (schemeB_sizes hy)
  have hP : 2 ≤ P ∧ P ≤ 5 := by have := prime_le5 s0; omega
  have b1 : 1 ≤ n ∧ n ≤ 3 := by simp only [sizeB, Bool.and_eq_true, decide_eq_true_eq] at s1; omega
  have b2 : 1 ≤ m ∧ m ≤ 3 := by simp only [sizeB, Bool.and_eq_true, decide_eq_true_eq] at s2; omega
  have b3 : 1 ≤ k ∧ k ≤ 3 := by simp only [sizeB, Bool.and_eq_true, decide_eq_true_eq] at s3; omega
  have b4 : 1 ≤ u ∧ u ≤ 3 := by simp only [sizeB, Bool.and_eq_true, decide_eq_true_eq] at t1; omega
  have b5 : 1 ≤ v ∧ v ≤ 3 := by simp only [sizeB, Bool.and_eq_true, decide_eq_true_eq] at t2; omega
  have b6 : 1 ≤ t ∧ t ≤ 3 := by simp only [sizeB, Bool.and_eq_true, decide_eq_true_eq] at t3; omega
  obtain ⟨N1, hN1⟩ : ∃ N, n * u = N := ⟨_, rfl⟩
  obtain ⟨N2, hN2⟩ : ∃ N, m * v = N := ⟨_, rfl⟩
  obtain ⟨N3, hN3⟩ : ∃ N, k * t = N := ⟨_, rfl⟩
  obtain ⟨LL, hLL⟩ : ∃ N, qs.length * rs.length = N := ⟨_, rfl⟩
  have c1 : N1 ≤ 3 * 3 := by rw [← hN1]; exact Nat.mul_le_mul b1.2 b4.2
  have c2 : N2 ≤ 3 * 3 := by rw [← hN2]; exact Nat.mul_le_mul b2.2 b5.2
  have c3 : N3 ≤ 3 * 3 := by rw [← hN3]; exact Nat.mul_le_mul b3.2 b6.2
  have c4 : LL ≤ 30 * 30 := by rw [← hLL]; exact Nat.mul_le_mul hl30 hs30
  have e1 : (n : Int) * (u : Int) = (N1 : Int) := by rw [← hN1]; simp
  have e2 : (m : Int) * (v : Int) = (N2 : Int) := by rw [← hN2]; simp
  have e3 : (k : Int) * (t : Int) = (N3 : Int) := by rw [← hN3]; simp
  have e4 : (qs.length : Int) * (rs.length : Int) = (LL : Int) := by rw [← hLL]; simp
  have HN1 : Hid (IntKind.i64.wrap ((n : Int) * (u : Int)) = (N1 : Int)) := Lib.hid (by rw [e1]; exact IntWalk.i64_in _ (by omega))
  have HN2 : Hid (IntKind.i64.wrap ((m : Int) * (v : Int)) = (N2 : Int)) := Lib.hid (by rw [e2]; exact IntWalk.i64_in _ (by omega))
  have HN3 : Hid (IntKind.i64.wrap ((k : Int) * (t : Int)) = (N3 : Int)) := Lib.hid (by rw [e3]; exact IntWalk.i64_in _ (by omega))
  have HLL : Hid (IntKind.i64.wrap ((qs.length : Int) * (rs.length : Int)) = (LL : Int)) := Lib.hid (by rw [e4]; exact IntWalk.i64_in _ (by omega))
  have HX := Lib.hid hx
  have HY := Lib.hid hy
  rw [hN1] at h1
  rw [hN2] at h2
  rw [hN3] at hc
  have HC : Hid (muCode P n m k qs P u v t rs = 3) := Lib.hid (by unfold muCode; rw [hx, hy, e1, e2, e3, hLL]; simp; omega)
  rw [e1, e2, e3]
  clear hx hy s0 s1 s2 s3 t1 t2 t3 hN1 hN2 hN3 hLL e1 e2 e3 e4 b1 b2 b3 b4 b5 b6
  go_enter Try.func14, Try.ntmps14
  go_upto_region 0 with (fail)
  refine wp_region_lit ?_
  refine ls_op rfl (fun K' hK' => ?_)
  have lz1 := hB.size
  refine wp_new (some 2) rfl (exec_box 39 _ rfl (#[.int .i64 (P : Nat), .int .i64 (n : Nat), .int .i64 (m : Nat), .int .i64 (k : Nat), .slice A qs.length c]) rfl) (fun Wz2 nnz3 => ?_)
  have bz4 := nnz3.below (Below.refl _ _) (Nat.le_refl _)
  replace hB := below_after hB bz4
  have hz5 : At Wz2 w.heap.size (.cells #[.int .i64 (P : Nat), .int .i64 (n : Nat), .int .i64 (m : Nat), .int .i64 (k : Nat), .slice A qs.length c] 39 (0, 0)) := nnz3.at_
  refine hK' _ _ ?_
  clear hK' K' nnz3 bz4
  go_frame
  refine ls_op rfl (fun K' hK' => ?_)
  have lz6 := hB.size
  have lz7 := hz5.lt
  refine wp_new (some 3) rfl (exec_box 39 _ rfl (#[.int .i64 (P : Nat), .int .i64 (u : Nat), .int .i64 (v : Nat), .int .i64 (t : Nat), .slice B rs.length d]) rfl) (fun Wz8 nnz9 => ?_)
  have bz10 := nnz9.below (Below.refl _ _) (Nat.le_refl _)
  replace hB := below_after hB bz10
  replace hz5 := hz5.after bz10
  have hz11 : At Wz8 Wz2.heap.size (.cells #[.int .i64 (P : Nat), .int .i64 (u : Nat), .int .i64 (v : Nat), .int .i64 (t : Nat), .slice B rs.length d] 39 (0, 0)) := nnz9.at_
  refine hK' _ _ ?_
  clear hK' K' nnz9 bz10
  go_frame
  refine ls_op rfl (fun K' hK' => ?_)
  have lz12 := hB.size
  have lz13 := hz5.lt
  have lz14 := hz11.lt
  refine wp_new (some 4) rfl (alU_impl_Scheme rfl) (fun Wz15 nnz16 => ?_)
  have bz17 := nnz16.below (Below.refl _ _) (Nat.le_refl _)
  replace hB := below_after hB bz17
  replace hz5 := hz5.after bz17
  replace hz11 := hz11.after bz17
  have hz18 : At Wz15 Wz8.heap.size (.cells #[.int .i64 0, .int .i64 0, .int .i64 0, .int .i64 0, .slice none 0 0] 39 (0, 0)) := nnz16.at_
  refine hK' _ _ ?_
  clear hK' K' nnz16 bz17
  go_frame
  refine ls_ex (some 5) (.int .i64 0) rfl rfl (exec_assign _ rfl (.int .i64 0) rfl) ?_
  go_frame
  refine wpList_nil ?_
  go_upto_region 1 with (fail)
  refine wp_region_lit ?_
  refine ls_ex (some 12) (.agg #[.int .i64 (P : Nat), .int .i64 (n : Nat), .int .i64 (m : Nat), .int .i64 (k : Nat), .slice A qs.length c]) rfl rfl (exec_load_all 39 _ rfl w.heap.size rfl _ _ _ hz5 Try.underlying39 rfl 5 (by kernel_rfl) rfl) ?_
  go_frame
  refine ls_op rfl (fun K' hK' => ?_)
  have lz21 := hB.size
  have lz22 := hz5.lt
  have lz23 := hz11.lt
  have lz24 := hz18.lt
  refine wp_call1 (some 13) rfl 36 _ _ rfl (fun args w => by kernel_rfl) _ rfl _ (l01Is_c (P : Nat) (n : Nat) (m : Nat) (k : Nat) A c qs _ (hR.keep hB) hlx) (fun e Wz19 h => ?_)
  obtain ⟨rfl, bz20⟩ := h
  replace hB := below_after hB bz20
  replace hz5 := hz5.after bz20
  replace hz11 := hz11.after bz20
  replace hz18 := hz18.after bz20
  rw [HX.out]
  clear bz20
  refine ⟨_, rfl, ?_⟩
  refine hK' _ _ ?_
  clear hK' K'
  go_frame
  refine ls_ex (some 14) (.bool false) rfl rfl (exec_not _ _ rfl true rfl) ?_
  go_frame
  refine ls_ex (some 15) (.bool false) rfl rfl (exec_move _ rfl (.bool false) rfl) ?_
  go_frame
  refine ls_ex_g (some 16) (.agg #[.int .i64 (P : Nat), .int .i64 (u : Nat), .int .i64 (v : Nat), .int .i64 (t : Nat), .slice B rs.length d]) rfl rfl (exec_load_all 39 _ rfl Wz2.heap.size rfl _ _ _ hz11 Try.underlying39 rfl 5 (by kernel_rfl) rfl) ?_
  go_frame
  refine ls_op_g rfl (fun K' hK' => ?_)
  have lz27 := hB.size
  have lz28 := hz5.lt
  have lz29 := hz11.lt
  have lz30 := hz18.lt
  refine wp_call1 (some 17) rfl 36 _ _ rfl (fun args w => by kernel_rfl) _ rfl _ (l01Is_c (P : Nat) (u : Nat) (v : Nat) (t : Nat) B d rs _ (hS.keep hB) hly) (fun e Wz25 h => ?_)
  obtain ⟨rfl, bz26⟩ := h
  replace hB := below_after hB bz26
  replace hz5 := hz5.after bz26
  replace hz11 := hz11.after bz26
  replace hz18 := hz18.after bz26
  rw [HY.out]
  clear bz26
  refine ⟨_, rfl, ?_⟩
  refine hK' _ _ ?_
  clear hK' K'
  go_frame
  refine ls_ex_g (some 18) (.bool false) rfl rfl (exec_not _ _ rfl true rfl) ?_
  go_frame
  refine ls_ex (some 19) (.bool false) rfl rfl (exec_pick _ _ _ rfl false rfl (.bool false) rfl) ?_
  go_frame
  refine ls_ex (some 11) (.bool false) rfl rfl (exec_assign _ rfl (.bool false) rfl) ?_
  go_frame
  refine wpList_nil ?_
  go_upto_region 3 with (fail)
  refine wp_region_lit ?_
  refine ls_ex (some 22) (.pointer (some ⟨w.heap.size, 0, none⟩)) rfl rfl (exec_fieldAddr 39 _ 0 rfl _ (by kernel_rfl)) ?_
  go_frame
  refine ls_ex (some 23) (.int .i64 (P : Nat)) rfl rfl (exec_load_one 2 _ rfl w.heap.size 0 rfl (.int .i64 (P : Nat)) _ Try.underlying2 rfl (hz5.at_ 0)) ?_
  go_frame
  refine ls_ex (some 24) (.pointer (some ⟨Wz2.heap.size, 0, none⟩)) rfl rfl (exec_fieldAddr 39 _ 0 rfl _ (by kernel_rfl)) ?_
  go_frame
  refine ls_ex (some 25) (.int .i64 (P : Nat)) rfl rfl (exec_load_one 2 _ rfl Wz2.heap.size 0 rfl (.int .i64 (P : Nat)) _ Try.underlying2 rfl (hz11.at_ 0)) ?_
  go_frame
  refine ls_ex (some 26) (.bool false) rfl rfl (exec_neq _ _ _ _ rfl ((P : Nat)) ((P : Nat)) rfl rfl false (by simp)) ?_
  go_frame
  refine ls_ex (some 21) (.bool false) rfl rfl (exec_assign _ rfl (.bool false) rfl) ?_
  go_frame
  refine wpList_nil ?_
  go_upto_region 5 with (fail)
  refine wp_region_lit ?_
  refine ls_ex (some 29) (.pointer (some ⟨w.heap.size, 1, none⟩)) rfl rfl (exec_fieldAddr 39 _ 1 rfl _ (by kernel_rfl)) ?_
  go_frame
  refine ls_ex (some 30) (.int .i64 (n : Nat)) rfl rfl (exec_load_one 2 _ rfl w.heap.size 1 rfl (.int .i64 (n : Nat)) _ Try.underlying2 rfl (hz5.at_ 1)) ?_
  go_frame
  refine ls_ex (some 31) (.pointer (some ⟨Wz2.heap.size, 1, none⟩)) rfl rfl (exec_fieldAddr 39 _ 1 rfl _ (by kernel_rfl)) ?_
  go_frame
  refine ls_ex (some 32) (.int .i64 (u : Nat)) rfl rfl (exec_load_one 2 _ rfl Wz2.heap.size 1 rfl (.int .i64 (u : Nat)) _ Try.underlying2 rfl (hz11.at_ 1)) ?_
  go_frame
  refine ls_ex (some 33) (.int .i64 (N1 : Nat)) rfl rfl (exec_mul _ _ _ _ rfl (n : Nat) (u : Nat) (N1 : Nat) rfl rfl HN1.out) ?_
  go_frame
  refine ls_ex (some 34) (.bool false) rfl rfl (exec_gtr _ _ _ _ rfl ((N1 : Nat)) 3 rfl rfl false (decide_eq_false (by omega))) ?_
  go_frame
  refine ls_ex (some 35) (.bool false) rfl rfl (exec_move _ rfl (.bool false) rfl) ?_
  go_frame
  refine ls_ex_g (some 36) (.pointer (some ⟨w.heap.size, 2, none⟩)) rfl rfl (exec_fieldAddr 39 _ 2 rfl _ (by kernel_rfl)) ?_
  go_frame
  refine ls_ex_g (some 37) (.int .i64 (m : Nat)) rfl rfl (exec_load_one 2 _ rfl w.heap.size 2 rfl (.int .i64 (m : Nat)) _ Try.underlying2 rfl (hz5.at_ 2)) ?_
  go_frame
  refine ls_ex_g (some 38) (.pointer (some ⟨Wz2.heap.size, 2, none⟩)) rfl rfl (exec_fieldAddr 39 _ 2 rfl _ (by kernel_rfl)) ?_
  go_frame
  refine ls_ex_g (some 39) (.int .i64 (v : Nat)) rfl rfl (exec_load_one 2 _ rfl Wz2.heap.size 2 rfl (.int .i64 (v : Nat)) _ Try.underlying2 rfl (hz11.at_ 2)) ?_
  go_frame
  refine ls_ex_g (some 40) (.int .i64 (N2 : Nat)) rfl rfl (exec_mul _ _ _ _ rfl (m : Nat) (v : Nat) (N2 : Nat) rfl rfl HN2.out) ?_
  go_frame
  refine ls_ex_g (some 41) (.bool false) rfl rfl (exec_gtr _ _ _ _ rfl ((N2 : Nat)) 3 rfl rfl false (decide_eq_false (by omega))) ?_
  go_frame
  refine ls_ex (some 42) (.bool false) rfl rfl (exec_pick _ _ _ rfl false rfl (.bool false) rfl) ?_
  go_frame
  refine ls_ex (some 43) (.bool false) rfl rfl (exec_move _ rfl (.bool false) rfl) ?_
  go_frame
  refine ls_ex_g (some 44) (.pointer (some ⟨w.heap.size, 3, none⟩)) rfl rfl (exec_fieldAddr 39 _ 3 rfl _ (by kernel_rfl)) ?_
  go_frame
  refine ls_ex_g (some 45) (.int .i64 (k : Nat)) rfl rfl (exec_load_one 2 _ rfl w.heap.size 3 rfl (.int .i64 (k : Nat)) _ Try.underlying2 rfl (hz5.at_ 3)) ?_
  go_frame
  refine ls_ex_g (some 46) (.pointer (some ⟨Wz2.heap.size, 3, none⟩)) rfl rfl (exec_fieldAddr 39 _ 3 rfl _ (by kernel_rfl)) ?_
  go_frame
  refine ls_ex_g (some 47) (.int .i64 (t : Nat)) rfl rfl (exec_load_one 2 _ rfl Wz2.heap.size 3 rfl (.int .i64 (t : Nat)) _ Try.underlying2 rfl (hz11.at_ 3)) ?_
  go_frame
  refine ls_ex_g (some 48) (.int .i64 (N3 : Nat)) rfl rfl (exec_mul _ _ _ _ rfl (k : Nat) (t : Nat) (N3 : Nat) rfl rfl HN3.out) ?_
  go_frame
  refine ls_ex_g (some 49) (.bool true) rfl rfl (exec_gtr _ _ _ _ rfl ((N3 : Nat)) 3 rfl rfl true (decide_eq_true (by omega))) ?_
  go_frame
  refine ls_ex (some 50) (.bool true) rfl rfl (exec_pick _ _ _ rfl false rfl (.bool true) rfl) ?_
  go_frame
  refine ls_ex (some 51) (.bool true) rfl rfl (exec_move _ rfl (.bool true) rfl) ?_
  go_frame
  refine ls_skip_g (some 52) rfl rfl ?_
  go_frame
  refine ls_skip_g (some 53) rfl rfl ?_
  go_frame
  refine ls_skip_g (some 54) rfl rfl ?_
  go_frame
  refine ls_skip_g (some 55) rfl rfl ?_
  go_frame
  refine ls_skip_g (some 56) rfl rfl ?_
  go_frame
  refine ls_skip_g (some 57) rfl rfl ?_
  go_frame
  refine ls_skip_g (some 58) rfl rfl ?_
  go_frame
  refine ls_skip_g (some 59) rfl rfl ?_
  go_frame
  refine ls_ex (some 60) (.bool true) rfl rfl (exec_pick _ _ _ rfl true rfl (.bool true) rfl) ?_
  go_frame
  refine ls_ex (some 28) (.bool true) rfl rfl (exec_assign _ rfl (.bool true) rfl) ?_
  go_frame
  refine wpList_nil ?_
  go_upto_region 6 with (fail)
  refine wp_region_lit ?_
  refine ls_ex (some 61) (.agg #[.int .i64 0, .int .i64 0, .int .i64 0, .int .i64 0, .slice none 0 0]) rfl rfl (exec_build_sch0 rfl) ?_
  go_frame
  refine ls_op rfl (fun K' hK' => ?_)
  refine wp_store_all 39 _ _ rfl rfl Wz8.heap.size rfl #[.int .i64 0, .int .i64 0, .int .i64 0, .int .i64 0, .slice none 0 0] rfl _ _ hz18 5 (by kernel_rfl) rfl rfl (one5 _ _ _ _ _ _ _) (fun Wz31 pz32 => ?_)
  replace hB := pz32.below hB (by omega)
  replace hz5 := pz32.other hz5 (by omega)
  replace hz11 := pz32.other hz11 (by omega)
  replace hz18 : At Wz31 Wz8.heap.size (.cells #[.int .i64 0, .int .i64 0, .int .i64 0, .int .i64 0, .slice none 0 0] 39 (0, 0)) := pz32.at_
  refine hK' _ _ ?_
  clear hK' K' pz32
  refine ls_ex (some 5) (.int .i64 3) rfl rfl (exec_assign _ rfl (.int .i64 3) rfl) ?_
  go_frame
  refine wpList_nil ?_
  go_wp2_with fail
  refine bodyPost_ret (results_at2 rfl _ _ Wz8.heap.size _ _ _ rfl _ rfl hz18 Try.underlying39 rfl 5 (by kernel_rfl) rfl) rfl ?_
  unfold ResS muZ muL
  rw [HC.out]
  exact ⟨_, rfl, Own.nil _ _, hB⟩
set_option maxHeartbeats 6400000 in
theorem specMu_c4 (P n m k : Nat) (A : Option Addr) (c : Nat) (qs : List (List Nat)) (u v t : Nat) (B : Option Addr) (d : Nat) (rs : List (List Nat)) (w : World) (hR : Rd w A qs) (hlx : qs.length ≤ 1048576) (hS : Rd w B rs) (hly : rs.length ≤ 1048576) (hx : schemeB P n m k qs = true) (hy : schemeB P u v t rs = true) (h1 : n * u ≤ 3) (h2 : m * v ≤ 3) (h3 : k * t ≤ 3) (hc : 30 < qs.length * rs.length) :
    Calls Try.prog 14 #[.agg #[.int .i64 (P : Nat), .int .i64 (n : Nat), .int .i64 (m : Nat), .int .i64 (k : Nat), .slice A qs.length c], .agg #[.int .i64 (P : Nat), .int .i64 (u : Nat), .int .i64 (v : Nat), .int .i64 (t : Nat), .slice B rs.length d]] w (ResS w (muZ (muCode P n m k qs P u v t rs) P) (muZ (muCode P n m k qs P u v t rs) (n * u)) (muZ (muCode P n m k qs P u v t rs) (m * v)) (muZ (muCode P n m k qs P u v t rs) (k * t)) (muL (muCode P n m k qs P u v t rs) (muR P n m k u v t qs rs)) (muCode P n m k qs P u v t rs)) := by
  have hB := Below.refl w.heap.size w
  have hl30 := schemeB_len hx
  have hs30 := schemeB_len hy
  obtain ⟨s0, s1, s2, s3⟩ := sizesB_parts (schemeB_sizes hx)
  obtain ⟨_, t1, t2, t3⟩ := sizesB_parts (schemeB_sizes hy)
  have hP : 2 ≤ P ∧ P ≤ 5 := by have := prime_le5 s0; omega
  have b1 : 1 ≤ n ∧ n ≤ 3 := by simp only [sizeB, Bool.and_eq_true, decide_eq_true_eq] at s1; omega
  have b2 : 1 ≤ m ∧ m ≤ 3 := by simp only [sizeB, Bool.and_eq_true, decide_eq_true_eq] at s2; omega
  have b3 : 1 ≤ k ∧ k ≤ 3 := by simp only [sizeB, Bool.and_eq_true, decide_eq_true_eq] at s3; omega
  have b4 : 1 ≤ u ∧ u ≤ 3 := by simp only [sizeB, Bool.and_eq_true, decide_eq_true_eq] at t1; omega
  have b5 : 1 ≤ v ∧ v ≤ 3 := by simp only [sizeB, Bool.and_eq_true, decide_eq_true_eq] at t2; omega
  have b6 : 1 ≤ t ∧ t ≤ 3 := by simp only [sizeB, Bool.and_eq_true, decide_eq_true_eq] at t3; omega
  obtain ⟨N1, hN1⟩ : ∃ N, n * u = N := ⟨_, rfl⟩
  obtain ⟨N2, hN2⟩ : ∃ N, m * v = N := ⟨_, rfl⟩
  obtain ⟨N3, hN3⟩ : ∃ N, k * t = N := ⟨_, rfl⟩
  obtain ⟨LL, hLL⟩ : ∃ N, qs.length * rs.length = N := ⟨_, rfl⟩
  have c1 : N1 ≤ 3 * 3 := by rw [← hN1]; exact Nat.mul_le_mul b1.2 b4.2
  have c2 : N2 ≤ 3 * 3 := by rw [← hN2]; exact Nat.mul_le_mul b2.2 b5.2
  have c3 : N3 ≤ 3 * 3 := by rw [← hN3]; exact Nat.mul_le_mul b3.2 b6.2
  have c4 : LL ≤ 30 * 30 := by rw [← hLL]; exact Nat.mul_le_mul hl30 hs30
  have e1 : (n : Int) * (u : Int) = (N1 : Int) := by rw [← hN1]; simp
  have e2 : (m : Int) * (v : Int) = (N2 : Int) := by rw [← hN2]; simp
  have e3 : (k : Int) * (t : Int) = (N3 : Int) := by rw [← hN3]; simp
  have e4 : (qs.length : Int) * (rs.length : Int) = (LL : Int) := by rw [← hLL]; simp
  have HN1 : Hid (IntKind.i64.wrap ((n : Int) * (u : Int)) = (N1 : Int)) := Lib.hid (by rw [e1]; exact IntWalk.i64_in _ (by omega))
  have HN2 : Hid (IntKind.i64.wrap ((m : Int) * (v : Int)) = (N2 : Int)) := Lib.hid (by rw [e2]; exact IntWalk.i64_in _ (by omega))
  have HN3 : Hid (IntKind.i64.wrap ((k : Int) * (t : Int)) = (N3 : Int)) := Lib.hid (by rw [e3]; exact IntWalk.i64_in _ (by omega))
  have HLL : Hid (IntKind.i64.wrap ((qs.length : Int) * (rs.length : Int)) = (LL : Int)) := Lib.hid (by rw [e4]; exact IntWalk.i64_in _ (by omega))
  have HX := Lib.hid hx
  have HY := Lib.hid hy
  rw [hN1] at h1
  rw [hN2] at h2
  rw [hN3] at h3
  rw [hLL] at hc
  have HC : Hid (muCode P n m k qs P u v t rs = 3) := Lib.hid (by unfold muCode; rw [hx, hy, e1, e2, e3, hLL]; simp; omega)
  rw [e1, e2, e3]
  clear hx hy s0 s1 s2 s3 t1 t2 t3 hN1 hN2 hN3 hLL e1 e2 e3 e4 b1 b2 b3 b4 b5 b6
  go_enter Try.func14, Try.ntmps14
  go_upto_region 0 with (fail)
  refine wp_region_lit ?_
  refine ls_op rfl (fun K' hK' => ?_)
  have lz1 := hB.size
  refine wp_new (some 2) rfl (exec_box 39 _ rfl (#[.int .i64 (P : Nat), .int .i64 (n : Nat), .int .i64 (m : Nat), .int .i64 (k : Nat), .slice A qs.length c]) rfl) (fun Wz2 nnz3 => ?_)
  have bz4 := nnz3.below (Below.refl _ _) (Nat.le_refl _)
  replace hB := below_after hB bz4
  have hz5 : At Wz2 w.heap.size (.cells #[.int .i64 (P : Nat), .int .i64 (n : Nat), .int .i64 (m : Nat), .int .i64 (k : Nat), .slice A qs.length c] 39 (0, 0)) := nnz3.at_
  refine hK' _ _ ?_
  clear hK' K' nnz3 bz4
  go_frame
  refine ls_op rfl (fun K' hK' => ?_)
  have lz6 := hB.size
  have lz7 := hz5.lt
  refine wp_new (some 3) rfl (exec_box 39 _ rfl (#[.int .i64 (P : Nat), .int .i64 (u : Nat), .int .i64 (v : Nat), .int .i64 (t : Nat), .slice B rs.length d]) rfl) (fun Wz8 nnz9 => ?_)
  have bz10 := nnz9.below (Below.refl _ _) (Nat.le_refl _)
  replace hB := below_after hB bz10
  replace hz5 := hz5.after bz10
  have hz11 : At Wz8 Wz2.heap.size (.cells #[.int .i64 (P : Nat), .int .i64 (u : Nat), .int .i64 (v : Nat), .int .i64 (t : Nat), .slice B rs.length d] 39 (0, 0)) := nnz9.at_
  refine hK' _ _ ?_
  clear hK' K' nnz9 bz10
  go_frame
  refine ls_op rfl (fun K' hK' => ?_)
  have lz12 := hB.size
  have lz13 := hz5.lt
  have lz14 := hz11.lt
  refine wp_new (some 4) rfl (alU_impl_Scheme rfl) (fun Wz15 nnz16 => ?_)
  have bz17 := nnz16.below (Below.refl _ _) (Nat.le_refl _)
  replace hB := below_after hB bz17
  replace hz5 := hz5.after bz17
  replace hz11 := hz11.after bz17
  have hz18 : At Wz15 Wz8.heap.size (.cells #[.int .i64 0, .int .i64 0, .int .i64 0, .int .i64 0, .slice none 0 0] 39 (0, 0)) := nnz16.at_
  refine hK' _ _ ?_
  clear hK' K' nnz16 bz17
  go_frame
  refine ls_ex (some 5) (.int .i64 0) rfl rfl (exec_assign _ rfl (.int .i64 0) rfl) ?_
  go_frame
  refine wpList_nil ?_
  go_upto_region 1 with (fail)
  refine wp_region_lit ?_
  refine ls_ex (some 12) (.agg #[.int .i64 (P : Nat), .int .i64 (n : Nat), .int .i64 (m : Nat), .int .i64 (k : Nat), .slice A qs.length c]) rfl rfl (exec_load_all 39 _ rfl w.heap.size rfl _ _ _ hz5 Try.underlying39 rfl 5 (by kernel_rfl) rfl) ?_
  go_frame
  refine ls_op rfl (fun K' hK' => ?_)
  have lz21 := hB.size
  have lz22 := hz5.lt
  have lz23 := hz11.lt
  have lz24 := hz18.lt
  refine wp_call1 (some 13) rfl 36 _ _ rfl (fun args w => by kernel_rfl) _ rfl _ (l01Is_c (P : Nat) (n : Nat) (m : Nat) (k : Nat) A c qs _ (hR.keep hB) hlx) (fun e Wz19 h => ?_)
  obtain ⟨rfl, bz20⟩ := h
  replace hB := below_after hB bz20
  replace hz5 := hz5.after bz20
  replace hz11 := hz11.after bz20
  replace hz18 := hz18.after bz20
  rw [HX.out]
  clear bz20
  refine ⟨_, rfl, ?_⟩
  refine hK' _ _ ?_
  clear hK' K'
  go_frame
  refine ls_ex (some 14) (.bool false) rfl rfl (exec_not _ _ rfl true rfl) ?_
  go_frame
  refine ls_ex (some 15) (.bool false) rfl rfl (exec_move _ rfl (.bool false) rfl) ?_
  go_frame
  refine ls_ex_g (some 16) (.agg #[.int .i64 (P : Nat), .int .i64 (u : Nat), .int .i64 (v : Nat), .int .i64 (t : Nat), .slice B rs.length d]) rfl rfl (exec_load_all 39 _ rfl Wz2.heap.size rfl _ _ _ hz11 Try.underlying39 rfl 5 (by kernel_rfl) rfl) ?_
  go_frame
  refine ls_op_g rfl (fun K' hK' => ?_)
  have lz27 := hB.size
  have lz28 := hz5.lt
  have lz29 := hz11.lt
  have lz30 := hz18.lt
  refine wp_call1 (some 17) rfl 36 _ _ rfl (fun args w => by kernel_rfl) _ rfl _ (l01Is_c (P : Nat) (u : Nat) (v : Nat) (t : Nat) B d rs _ (hS.keep hB) hly) (fun e Wz25 h => ?_)
  obtain ⟨rfl, bz26⟩ := h
  replace hB := below_after hB bz26
  replace hz5 := hz5.after bz26
  replace hz11 := hz11.after bz26
  replace hz18 := hz18.after bz26
  rw [HY.out]
  clear bz26
  refine ⟨_, rfl, ?_⟩
  refine hK' _ _ ?_
  clear hK' K'
  go_frame
  refine ls_ex_g (some 18) (.bool false) rfl rfl (exec_not _ _ rfl true rfl) ?_
  go_frame
  refine ls_ex (some 19) (.bool false) rfl rfl (exec_pick _ _ _ rfl false rfl (.bool false) rfl) ?_
  go_frame
  refine ls_ex (some 11) (.bool false) rfl rfl (exec_assign _ rfl (.bool false) rfl) ?_
  go_frame
  refine wpList_nil ?_
  go_upto_region 3 with (fail)
  refine wp_region_lit ?_
  refine ls_ex (some 22) (.pointer (some ⟨w.heap.size, 0, none⟩)) rfl rfl (exec_fieldAddr 39 _ 0 rfl _ (by kernel_rfl)) ?_
  go_frame
  refine ls_ex (some 23) (.int .i64 (P : Nat)) rfl rfl (exec_load_one 2 _ rfl w.heap.size 0 rfl (.int .i64 (P : Nat)) _ Try.underlying2 rfl (hz5.at_ 0)) ?_
  go_frame
  refine ls_ex (some 24) (.pointer (some ⟨Wz2.heap.size, 0, none⟩)) rfl rfl (exec_fieldAddr 39 _ 0 rfl _ (by kernel_rfl)) ?_
  go_frame
  refine ls_ex (some 25) (.int .i64 (P : Nat)) rfl rfl (exec_load_one 2 _ rfl Wz2.heap.size 0 rfl (.int .i64 (P : Nat)) _ Try.underlying2 rfl (hz11.at_ 0)) ?_
  go_frame
  refine ls_ex (some 26) (.bool false) rfl rfl (exec_neq _ _ _ _ rfl ((P : Nat)) ((P : Nat)) rfl rfl false (by simp)) ?_
  go_frame
  refine ls_ex (some 21) (.bool false) rfl rfl (exec_assign _ rfl (.bool false) rfl) ?_
  go_frame
  refine wpList_nil ?_
  go_upto_region 5 with (fail)
  refine wp_region_lit ?_
  refine ls_ex (some 29) (.pointer (some ⟨w.heap.size, 1, none⟩)) rfl rfl (exec_fieldAddr 39 _ 1 rfl _ (by kernel_rfl)) ?_
  go_frame
  refine ls_ex (some 30) (.int .i64 (n : Nat)) rfl rfl (exec_load_one 2 _ rfl w.heap.size 1 rfl (.int .i64 (n : Nat)) _ Try.underlying2 rfl (hz5.at_ 1)) ?_
  go_frame
  refine ls_ex (some 31) (.pointer (some ⟨Wz2.heap.size, 1, none⟩)) rfl rfl (exec_fieldAddr 39 _ 1 rfl _ (by kernel_rfl)) ?_
  go_frame
  refine ls_ex (some 32) (.int .i64 (u : Nat)) rfl rfl (exec_load_one 2 _ rfl Wz2.heap.size 1 rfl (.int .i64 (u : Nat)) _ Try.underlying2 rfl (hz11.at_ 1)) ?_
  go_frame
  refine ls_ex (some 33) (.int .i64 (N1 : Nat)) rfl rfl (exec_mul _ _ _ _ rfl (n : Nat) (u : Nat) (N1 : Nat) rfl rfl HN1.out) ?_
  go_frame
  refine ls_ex (some 34) (.bool false) rfl rfl (exec_gtr _ _ _ _ rfl ((N1 : Nat)) 3 rfl rfl false (decide_eq_false (by omega))) ?_
  go_frame
  refine ls_ex (some 35) (.bool false) rfl rfl (exec_move _ rfl (.bool false) rfl) ?_
  go_frame
  refine ls_ex_g (some 36) (.pointer (some ⟨w.heap.size, 2, none⟩)) rfl rfl (exec_fieldAddr 39 _ 2 rfl _ (by kernel_rfl)) ?_
  go_frame
  refine ls_ex_g (some 37) (.int .i64 (m : Nat)) rfl rfl (exec_load_one 2 _ rfl w.heap.size 2 rfl (.int .i64 (m : Nat)) _ Try.underlying2 rfl (hz5.at_ 2)) ?_
  go_frame
  refine ls_ex_g (some 38) (.pointer (some ⟨Wz2.heap.size, 2, none⟩)) rfl rfl (exec_fieldAddr 39 _ 2 rfl _ (by kernel_rfl)) ?_
  go_frame
  refine ls_ex_g (some 39) (.int .i64 (v : Nat)) rfl rfl (exec_load_one 2 _ rfl Wz2.heap.size 2 rfl (.int .i64 (v : Nat)) _ Try.underlying2 rfl (hz11.at_ 2)) ?_
  go_frame
  refine ls_ex_g (some 40) (.int .i64 (N2 : Nat)) rfl rfl (exec_mul _ _ _ _ rfl (m : Nat) (v : Nat) (N2 : Nat) rfl rfl HN2.out) ?_
  go_frame
  refine ls_ex_g (some 41) (.bool false) rfl rfl (exec_gtr _ _ _ _ rfl ((N2 : Nat)) 3 rfl rfl false (decide_eq_false (by omega))) ?_
  go_frame
  refine ls_ex (some 42) (.bool false) rfl rfl (exec_pick _ _ _ rfl false rfl (.bool false) rfl) ?_
  go_frame
  refine ls_ex (some 43) (.bool false) rfl rfl (exec_move _ rfl (.bool false) rfl) ?_
  go_frame
  refine ls_ex_g (some 44) (.pointer (some ⟨w.heap.size, 3, none⟩)) rfl rfl (exec_fieldAddr 39 _ 3 rfl _ (by kernel_rfl)) ?_
  go_frame
  refine ls_ex_g (some 45) (.int .i64 (k : Nat)) rfl rfl (exec_load_one 2 _ rfl w.heap.size 3 rfl (.int .i64 (k : Nat)) _ Try.underlying2 rfl (hz5.at_ 3)) ?_
  go_frame
  refine ls_ex_g (some 46) (.pointer (some ⟨Wz2.heap.size, 3, none⟩)) rfl rfl (exec_fieldAddr 39 _ 3 rfl _ (by kernel_rfl)) ?_
  go_frame
  refine ls_ex_g (some 47) (.int .i64 (t : Nat)) rfl rfl (exec_load_one 2 _ rfl Wz2.heap.size 3 rfl (.int .i64 (t : Nat)) _ Try.underlying2 rfl (hz11.at_ 3)) ?_
  go_frame
  refine ls_ex_g (some 48) (.int .i64 (N3 : Nat)) rfl rfl (exec_mul _ _ _ _ rfl (k : Nat) (t : Nat) (N3 : Nat) rfl rfl HN3.out) ?_
  go_frame
  refine ls_ex_g (some 49) (.bool false) rfl rfl (exec_gtr _ _ _ _ rfl ((N3 : Nat)) 3 rfl rfl false (decide_eq_false (by omega))) ?_
  go_frame
  refine ls_ex (some 50) (.bool false) rfl rfl (exec_pick _ _ _ rfl false rfl (.bool false) rfl) ?_
  go_frame
  refine ls_ex (some 51) (.bool false) rfl rfl (exec_move _ rfl (.bool false) rfl) ?_
  go_frame
  refine ls_ex_g (some 52) (.pointer (some ⟨w.heap.size, 4, none⟩)) rfl rfl (exec_fieldAddr 39 _ 4 rfl _ (by kernel_rfl)) ?_
  go_frame
  refine ls_ex_g (some 53) (.slice A qs.length c) rfl rfl (exec_load_one 26 _ rfl w.heap.size 4 rfl (.slice A qs.length c) _ Try.underlying26 rfl (hz5.at_ 4)) ?_
  go_frame
  refine ls_ex_g (some 54) (.int .i64 qs.length) rfl rfl (exec_len _ 26 53 rfl A qs.length c rfl Try.underlying26) ?_
  go_frame
  refine ls_ex_g (some 55) (.pointer (some ⟨Wz2.heap.size, 4, none⟩)) rfl rfl (exec_fieldAddr 39 _ 4 rfl _ (by kernel_rfl)) ?_
  go_frame
  refine ls_ex_g (some 56) (.slice B rs.length d) rfl rfl (exec_load_one 26 _ rfl Wz2.heap.size 4 rfl (.slice B rs.length d) _ Try.underlying26 rfl (hz11.at_ 4)) ?_
  go_frame
  refine ls_ex_g (some 57) (.int .i64 rs.length) rfl rfl (exec_len _ 26 53 rfl B rs.length d rfl Try.underlying26) ?_
  go_frame
  refine ls_ex_g (some 58) (.int .i64 (LL : Nat)) rfl rfl (exec_mul _ _ _ _ rfl (qs.length : Nat) (rs.length : Nat) (LL : Nat) rfl rfl HLL.out) ?_
  go_frame
  refine ls_ex_g (some 59) (.bool true) rfl rfl (exec_gtr _ _ _ _ rfl ((LL : Nat)) 30 rfl rfl true (decide_eq_true (by omega))) ?_
  go_frame
  refine ls_ex (some 60) (.bool true) rfl rfl (exec_pick _ _ _ rfl false rfl (.bool true) rfl) ?_
  go_frame
  refine ls_ex (some 28) (.bool true) rfl rfl (exec_assign _ rfl (.bool true) rfl) ?_
  go_frame
  refine wpList_nil ?_
  go_upto_region 6 with (fail)
  refine wp_region_lit ?_
  refine ls_ex (some 61) (.agg #[.int .i64 0, .int .i64 0, .int .i64 0, .int .i64 0, .slice none 0 0]) rfl rfl (exec_build_sch0 rfl) ?_
  go_frame
  refine ls_op rfl (fun K' hK' => ?_)
  refine wp_store_all 39 _ _ rfl rfl Wz8.heap.size rfl #[.int .i64 0, .int .i64 0, .int .i64 0, .int .i64 0, .slice none 0 0] rfl _ _ hz18 5 (by kernel_rfl) rfl rfl (one5 _ _ _ _ _ _ _) (fun Wz31 pz32 => ?_)
  replace hB := pz32.below hB (by omega)
  replace hz5 := pz32.other hz5 (by omega)
  replace hz11 := pz32.other hz11 (by omega)
  replace hz18 : At Wz31 Wz8.heap.size (.cells #[.int .i64 0, .int .i64 0, .int .i64 0, .int .i64 0, .slice none 0 0] 39 (0, 0)) := pz32.at_
  refine hK' _ _ ?_
  clear hK' K' pz32
  refine ls_ex (some 5) (.int .i64 3) rfl rfl (exec_assign _ rfl (.int .i64 3) rfl) ?_
  go_frame
  refine wpList_nil ?_
  go_wp2_with fail
  refine bodyPost_ret (results_at2 rfl _ _ Wz8.heap.size _ _ _ rfl _ rfl hz18 Try.underlying39 rfl 5 (by kernel_rfl) rfl) rfl ?_
  unfold ResS muZ muL
  rw [HC.out]
  exact ⟨_, rfl, Own.nil _ _, hB⟩
set_option maxHeartbeats 25600000 in
theorem specMu_y (P n m k : Nat) (A : Option Addr) (c : Nat) (qs : List (List Nat)) (u v t : Nat) (B : Option Addr) (d : Nat) (rs : List (List Nat)) (w : World) (hR : Rd w A qs) (hlx : qs.length ≤ 1048576) (hS : Rd w B rs) (hly : rs.length ≤ 1048576) (hx : schemeB P n m k qs = true) (hy : schemeB P u v t rs = true) (h1 : n * u ≤ 3) (h2 : m * v ≤ 3) (h3 : k * t ≤ 3) (h4 : qs.length * rs.length ≤ 30) :
    Calls Try.prog 14 #[.agg #[.int .i64 (P : Nat), .int .i64 (n : Nat), .int .i64 (m : Nat), .int .i64 (k : Nat), .slice A qs.length c], .agg #[.int .i64 (P : Nat), .int .i64 (u : Nat), .int .i64 (v : Nat), .int .i64 (t : Nat), .slice B rs.length d]] w (ResS w (muZ (muCode P n m k qs P u v t rs) P) (muZ (muCode P n m k qs P u v t rs) (n * u)) (muZ (muCode P n m k qs P u v t rs) (m * v)) (muZ (muCode P n m k qs P u v t rs) (k * t)) (muL (muCode P n m k qs P u v t rs) (muR P n m k u v t qs rs)) (muCode P n m k qs P u v t rs)) := by
  have hB := Below.refl w.heap.size w
  have hl30 := schemeB_len hx
  have hs30 := schemeB_len hy
  obtain ⟨s0, s1, s2, s3⟩ := sizesB_parts (schemeB_sizes hx)
  obtain ⟨_, t1, t2, t3⟩ := sizesB_parts (schemeB_sizes hy)
  have hP : 2 ≤ P ∧ P ≤ 5 := by have := prime_le5 s0; omega
  have b1 : 1 ≤ n ∧ n ≤ 3 := by simp only [sizeB, Bool.and_eq_true, decide_eq_true_eq] at s1; omega
  have b2 : 1 ≤ m ∧ m ≤ 3 := by simp only [sizeB, Bool.and_eq_true, decide_eq_true_eq] at s2; omega
  have b3 : 1 ≤ k ∧ k ≤ 3 := by simp only [sizeB, Bool.and_eq_true, decide_eq_true_eq] at s3; omega
  have b4 : 1 ≤ u ∧ u ≤ 3 := by simp only [sizeB, Bool.and_eq_true, decide_eq_true_eq] at t1; omega
  have b5 : 1 ≤ v ∧ v ≤ 3 := by simp only [sizeB, Bool.and_eq_true, decide_eq_true_eq] at t2; omega
  have b6 : 1 ≤ t ∧ t ≤ 3 := by simp only [sizeB, Bool.and_eq_true, decide_eq_true_eq] at t3; omega
  obtain ⟨N1, hN1⟩ : ∃ N, n * u = N := ⟨_, rfl⟩
  obtain ⟨N2, hN2⟩ : ∃ N, m * v = N := ⟨_, rfl⟩
  obtain ⟨N3, hN3⟩ : ∃ N, k * t = N := ⟨_, rfl⟩
  obtain ⟨LL, hLL⟩ : ∃ N, qs.length * rs.length = N := ⟨_, rfl⟩
  have c1 : N1 ≤ 3 * 3 := by rw [← hN1]; exact Nat.mul_le_mul b1.2 b4.2
  have c2 : N2 ≤ 3 * 3 := by rw [← hN2]; exact Nat.mul_le_mul b2.2 b5.2
  have c3 : N3 ≤ 3 * 3 := by rw [← hN3]; exact Nat.mul_le_mul b3.2 b6.2
  have c4 : LL ≤ 30 * 30 := by rw [← hLL]; exact Nat.mul_le_mul hl30 hs30
  have e1 : (n : Int) * (u : Int) = (N1 : Int) := by rw [← hN1]; simp
  have e2 : (m : Int) * (v : Int) = (N2 : Int) := by rw [← hN2]; simp
  have e3 : (k : Int) * (t : Int) = (N3 : Int) := by rw [← hN3]; simp
  have e4 : (qs.length : Int) * (rs.length : Int) = (LL : Int) := by rw [← hLL]; simp
  have HN1 : Hid (IntKind.i64.wrap ((n : Int) * (u : Int)) = (N1 : Int)) := Lib.hid (by rw [e1]; exact IntWalk.i64_in _ (by omega))
  have HN2 : Hid (IntKind.i64.wrap ((m : Int) * (v : Int)) = (N2 : Int)) := Lib.hid (by rw [e2]; exact IntWalk.i64_in _ (by omega))
  have HN3 : Hid (IntKind.i64.wrap ((k : Int) * (t : Int)) = (N3 : Int)) := Lib.hid (by rw [e3]; exact IntWalk.i64_in _ (by omega))
  have HLL : Hid (IntKind.i64.wrap ((qs.length : Int) * (rs.length : Int)) = (LL : Int)) := Lib.hid (by rw [e4]; exact IntWalk.i64_in _ (by omega))
  have HX := Lib.hid hx
  have HY := Lib.hid hy
  rw [hN1] at h1
  rw [hN2] at h2
  rw [hN3] at h3
  rw [hLL] at h4
  have HC : Hid (muCode P n m k qs P u v t rs = 0) := Lib.hid (by unfold muCode; rw [hx, hy, e1, e2, e3, hLL]; simp; omega)
  have HK0 : Hid (okK n m u v = true) := Lib.hid (okK_of b1.1 b2.1 b4.1 b5.1 (by rw [hN1]; exact h1) (by rw [hN2]; exact h2))
  have HK9 : Hid (okK m k v t = true) := Lib.hid (okK_of b2.1 b3.1 b5.1 b6.1 (by rw [hN2]; exact h2) (by rw [hN3]; exact h3))
  have HK18 : Hid (okK n k u t = true) := Lib.hid (okK_of b1.1 b3.1 b4.1 b6.1 (by rw [hN1]; exact h1) (by rw [hN3]; exact h3))
  rw [e1, e2, e3]
  clear hx hy s0 s1 s2 s3 t1 t2 t3 hN1 hN2 hN3 hLL e1 e2 e3 e4 b1 b2 b3 b4 b5 b6
  go_enter Try.func14, Try.ntmps14
  go_upto_region 0 with (fail)
  refine wp_region_lit ?_
  refine ls_op rfl (fun K' hK' => ?_)
  have lz1 := hB.size
  refine wp_new (some 2) rfl (exec_box 39 _ rfl (#[.int .i64 (P : Nat), .int .i64 (n : Nat), .int .i64 (m : Nat), .int .i64 (k : Nat), .slice A qs.length c]) rfl) (fun Wz2 nnz3 => ?_)
  have bz4 := nnz3.below (Below.refl _ _) (Nat.le_refl _)
  replace hB := below_after hB bz4
  have hz5 : At Wz2 w.heap.size (.cells #[.int .i64 (P : Nat), .int .i64 (n : Nat), .int .i64 (m : Nat), .int .i64 (k : Nat), .slice A qs.length c] 39 (0, 0)) := nnz3.at_
  refine hK' _ _ ?_
  clear hK' K' nnz3 bz4
  go_frame
  refine ls_op rfl (fun K' hK' => ?_)
  have lz6 := hB.size
  have lz7 := hz5.lt
  refine wp_new (some 3) rfl (exec_box 39 _ rfl (#[.int .i64 (P : Nat), .int .i64 (u : Nat), .int .i64 (v : Nat), .int .i64 (t : Nat), .slice B rs.length d]) rfl) (fun Wz8 nnz9 => ?_)
  have bz10 := nnz9.below (Below.refl _ _) (Nat.le_refl _)
  replace hB := below_after hB bz10
  replace hz5 := hz5.after bz10
  have hz11 : At Wz8 Wz2.heap.size (.cells #[.int .i64 (P : Nat), .int .i64 (u : Nat), .int .i64 (v : Nat), .int .i64 (t : Nat), .slice B rs.length d] 39 (0, 0)) := nnz9.at_
  refine hK' _ _ ?_
  clear hK' K' nnz9 bz10
  go_frame
  refine ls_op rfl (fun K' hK' => ?_)
  have lz12 := hB.size
  have lz13 := hz5.lt
  have lz14 := hz11.lt
  refine wp_new (some 4) rfl (alU_impl_Scheme rfl) (fun Wz15 nnz16 => ?_)
  have bz17 := nnz16.below (Below.refl _ _) (Nat.le_refl _)
  replace hB := below_after hB bz17
  replace hz5 := hz5.after bz17
  replace hz11 := hz11.after bz17
  have hz18 : At Wz15 Wz8.heap.size (.cells #[.int .i64 0, .int .i64 0, .int .i64 0, .int .i64 0, .slice none 0 0] 39 (0, 0)) := nnz16.at_
  refine hK' _ _ ?_
  clear hK' K' nnz16 bz17
  go_frame
  refine ls_ex (some 5) (.int .i64 0) rfl rfl (exec_assign _ rfl (.int .i64 0) rfl) ?_
  go_frame
  refine wpList_nil ?_
  go_upto_region 1 with (fail)
  refine wp_region_lit ?_
  refine ls_ex (some 12) (.agg #[.int .i64 (P : Nat), .int .i64 (n : Nat), .int .i64 (m : Nat), .int .i64 (k : Nat), .slice A qs.length c]) rfl rfl (exec_load_all 39 _ rfl w.heap.size rfl _ _ _ hz5 Try.underlying39 rfl 5 (by kernel_rfl) rfl) ?_
  go_frame
  refine ls_op rfl (fun K' hK' => ?_)
  have lz21 := hB.size
  have lz22 := hz5.lt
  have lz23 := hz11.lt
  have lz24 := hz18.lt
  refine wp_call1 (some 13) rfl 36 _ _ rfl (fun args w => by kernel_rfl) _ rfl _ (l01Is_c (P : Nat) (n : Nat) (m : Nat) (k : Nat) A c qs _ (hR.keep hB) hlx) (fun e Wz19 h => ?_)
  obtain ⟨rfl, bz20⟩ := h
  replace hB := below_after hB bz20
  replace hz5 := hz5.after bz20
  replace hz11 := hz11.after bz20
  replace hz18 := hz18.after bz20
  rw [HX.out]
  clear bz20
  refine ⟨_, rfl, ?_⟩
  refine hK' _ _ ?_
  clear hK' K'
  go_frame
  refine ls_ex (some 14) (.bool false) rfl rfl (exec_not _ _ rfl true rfl) ?_
  go_frame
  refine ls_ex (some 15) (.bool false) rfl rfl (exec_move _ rfl (.bool false) rfl) ?_
  go_frame
  refine ls_ex_g (some 16) (.agg #[.int .i64 (P : Nat), .int .i64 (u : Nat), .int .i64 (v : Nat), .int .i64 (t : Nat), .slice B rs.length d]) rfl rfl (exec_load_all 39 _ rfl Wz2.heap.size rfl _ _ _ hz11 Try.underlying39 rfl 5 (by kernel_rfl) rfl) ?_
  go_frame
  refine ls_op_g rfl (fun K' hK' => ?_)
  have lz27 := hB.size
  have lz28 := hz5.lt
  have lz29 := hz11.lt
  have lz30 := hz18.lt
  refine wp_call1 (some 17) rfl 36 _ _ rfl (fun args w => by kernel_rfl) _ rfl _ (l01Is_c (P : Nat) (u : Nat) (v : Nat) (t : Nat) B d rs _ (hS.keep hB) hly) (fun e Wz25 h => ?_)
  obtain ⟨rfl, bz26⟩ := h
  replace hB := below_after hB bz26
  replace hz5 := hz5.after bz26
  replace hz11 := hz11.after bz26
  replace hz18 := hz18.after bz26
  rw [HY.out]
  clear bz26
  refine ⟨_, rfl, ?_⟩
  refine hK' _ _ ?_
  clear hK' K'
  go_frame
  refine ls_ex_g (some 18) (.bool false) rfl rfl (exec_not _ _ rfl true rfl) ?_
  go_frame
  refine ls_ex (some 19) (.bool false) rfl rfl (exec_pick _ _ _ rfl false rfl (.bool false) rfl) ?_
  go_frame
  refine ls_ex (some 11) (.bool false) rfl rfl (exec_assign _ rfl (.bool false) rfl) ?_
  go_frame
  refine wpList_nil ?_
  go_upto_region 3 with (fail)
  refine wp_region_lit ?_
  refine ls_ex (some 22) (.pointer (some ⟨w.heap.size, 0, none⟩)) rfl rfl (exec_fieldAddr 39 _ 0 rfl _ (by kernel_rfl)) ?_
  go_frame
  refine ls_ex (some 23) (.int .i64 (P : Nat)) rfl rfl (exec_load_one 2 _ rfl w.heap.size 0 rfl (.int .i64 (P : Nat)) _ Try.underlying2 rfl (hz5.at_ 0)) ?_
  go_frame
  refine ls_ex (some 24) (.pointer (some ⟨Wz2.heap.size, 0, none⟩)) rfl rfl (exec_fieldAddr 39 _ 0 rfl _ (by kernel_rfl)) ?_
  go_frame
  refine ls_ex (some 25) (.int .i64 (P : Nat)) rfl rfl (exec_load_one 2 _ rfl Wz2.heap.size 0 rfl (.int .i64 (P : Nat)) _ Try.underlying2 rfl (hz11.at_ 0)) ?_
  go_frame
  refine ls_ex (some 26) (.bool false) rfl rfl (exec_neq _ _ _ _ rfl ((P : Nat)) ((P : Nat)) rfl rfl false (by simp)) ?_
  go_frame
  refine ls_ex (some 21) (.bool false) rfl rfl (exec_assign _ rfl (.bool false) rfl) ?_
  go_frame
  refine wpList_nil ?_
  go_upto_region 5 with (fail)
  refine wp_region_lit ?_
  refine ls_ex (some 29) (.pointer (some ⟨w.heap.size, 1, none⟩)) rfl rfl (exec_fieldAddr 39 _ 1 rfl _ (by kernel_rfl)) ?_
  go_frame
  refine ls_ex (some 30) (.int .i64 (n : Nat)) rfl rfl (exec_load_one 2 _ rfl w.heap.size 1 rfl (.int .i64 (n : Nat)) _ Try.underlying2 rfl (hz5.at_ 1)) ?_
  go_frame
  refine ls_ex (some 31) (.pointer (some ⟨Wz2.heap.size, 1, none⟩)) rfl rfl (exec_fieldAddr 39 _ 1 rfl _ (by kernel_rfl)) ?_
  go_frame
  refine ls_ex (some 32) (.int .i64 (u : Nat)) rfl rfl (exec_load_one 2 _ rfl Wz2.heap.size 1 rfl (.int .i64 (u : Nat)) _ Try.underlying2 rfl (hz11.at_ 1)) ?_
  go_frame
  refine ls_ex (some 33) (.int .i64 (N1 : Nat)) rfl rfl (exec_mul _ _ _ _ rfl (n : Nat) (u : Nat) (N1 : Nat) rfl rfl HN1.out) ?_
  go_frame
  refine ls_ex (some 34) (.bool false) rfl rfl (exec_gtr _ _ _ _ rfl ((N1 : Nat)) 3 rfl rfl false (decide_eq_false (by omega))) ?_
  go_frame
  refine ls_ex (some 35) (.bool false) rfl rfl (exec_move _ rfl (.bool false) rfl) ?_
  go_frame
  refine ls_ex_g (some 36) (.pointer (some ⟨w.heap.size, 2, none⟩)) rfl rfl (exec_fieldAddr 39 _ 2 rfl _ (by kernel_rfl)) ?_
  go_frame
  refine ls_ex_g (some 37) (.int .i64 (m : Nat)) rfl rfl (exec_load_one 2 _ rfl w.heap.size 2 rfl (.int .i64 (m : Nat)) _ Try.underlying2 rfl (hz5.at_ 2)) ?_
  go_frame
  refine ls_ex_g (some 38) (.pointer (some ⟨Wz2.heap.size, 2, none⟩)) rfl rfl (exec_fieldAddr 39 _ 2 rfl _ (by kernel_rfl)) ?_
  go_frame
  refine ls_ex_g (some 39) (.int .i64 (v : Nat)) rfl rfl (exec_load_one 2 _ rfl Wz2.heap.size 2 rfl (.int .i64 (v : Nat)) _ Try.underlying2 rfl (hz11.at_ 2)) ?_
  go_frame
  refine ls_ex_g (some 40) (.int .i64 (N2 : Nat)) rfl rfl (exec_mul _ _ _ _ rfl (m : Nat) (v : Nat) (N2 : Nat) rfl rfl HN2.out) ?_
  go_frame
  refine ls_ex_g (some 41) (.bool false) rfl rfl (exec_gtr _ _ _ _ rfl ((N2 : Nat)) 3 rfl rfl false (decide_eq_false (by omega))) ?_
  go_frame
  refine ls_ex (some 42) (.bool false) rfl rfl (exec_pick _ _ _ rfl false rfl (.bool false) rfl) ?_
  go_frame
  refine ls_ex (some 43) (.bool false) rfl rfl (exec_move _ rfl (.bool false) rfl) ?_
  go_frame
  refine ls_ex_g (some 44) (.pointer (some ⟨w.heap.size, 3, none⟩)) rfl rfl (exec_fieldAddr 39 _ 3 rfl _ (by kernel_rfl)) ?_
  go_frame
  refine ls_ex_g (some 45) (.int .i64 (k : Nat)) rfl rfl (exec_load_one 2 _ rfl w.heap.size 3 rfl (.int .i64 (k : Nat)) _ Try.underlying2 rfl (hz5.at_ 3)) ?_
  go_frame
  refine ls_ex_g (some 46) (.pointer (some ⟨Wz2.heap.size, 3, none⟩)) rfl rfl (exec_fieldAddr 39 _ 3 rfl _ (by kernel_rfl)) ?_
  go_frame
  refine ls_ex_g (some 47) (.int .i64 (t : Nat)) rfl rfl (exec_load_one 2 _ rfl Wz2.heap.size 3 rfl (.int .i64 (t : Nat)) _ Try.underlying2 rfl (hz11.at_ 3)) ?_
  go_frame
  refine ls_ex_g (some 48) (.int .i64 (N3 : Nat)) rfl rfl (exec_mul _ _ _ _ rfl (k : Nat) (t : Nat) (N3 : Nat) rfl rfl HN3.out) ?_
  go_frame
  refine ls_ex_g (some 49) (.bool false) rfl rfl (exec_gtr _ _ _ _ rfl ((N3 : Nat)) 3 rfl rfl false (decide_eq_false (by omega))) ?_
  go_frame
  refine ls_ex (some 50) (.bool false) rfl rfl (exec_pick _ _ _ rfl false rfl (.bool false) rfl) ?_
  go_frame
  refine ls_ex (some 51) (.bool false) rfl rfl (exec_move _ rfl (.bool false) rfl) ?_
  go_frame
  refine ls_ex_g (some 52) (.pointer (some ⟨w.heap.size, 4, none⟩)) rfl rfl (exec_fieldAddr 39 _ 4 rfl _ (by kernel_rfl)) ?_
  go_frame
  refine ls_ex_g (some 53) (.slice A qs.length c) rfl rfl (exec_load_one 26 _ rfl w.heap.size 4 rfl (.slice A qs.length c) _ Try.underlying26 rfl (hz5.at_ 4)) ?_
  go_frame
  refine ls_ex_g (some 54) (.int .i64 qs.length) rfl rfl (exec_len _ 26 53 rfl A qs.length c rfl Try.underlying26) ?_
  go_frame
  refine ls_ex_g (some 55) (.pointer (some ⟨Wz2.heap.size, 4, none⟩)) rfl rfl (exec_fieldAddr 39 _ 4 rfl _ (by kernel_rfl)) ?_
  go_frame
  refine ls_ex_g (some 56) (.slice B rs.length d) rfl rfl (exec_load_one 26 _ rfl Wz2.heap.size 4 rfl (.slice B rs.length d) _ Try.underlying26 rfl (hz11.at_ 4)) ?_
  go_frame
  refine ls_ex_g (some 57) (.int .i64 rs.length) rfl rfl (exec_len _ 26 53 rfl B rs.length d rfl Try.underlying26) ?_
  go_frame
  refine ls_ex_g (some 58) (.int .i64 (LL : Nat)) rfl rfl (exec_mul _ _ _ _ rfl (qs.length : Nat) (rs.length : Nat) (LL : Nat) rfl rfl HLL.out) ?_
  go_frame
  refine ls_ex_g (some 59) (.bool false) rfl rfl (exec_gtr _ _ _ _ rfl ((LL : Nat)) 30 rfl rfl false (decide_eq_false (by omega))) ?_
  go_frame
  refine ls_ex (some 60) (.bool false) rfl rfl (exec_pick _ _ _ rfl false rfl (.bool false) rfl) ?_
  go_frame
  refine ls_ex (some 28) (.bool false) rfl rfl (exec_assign _ rfl (.bool false) rfl) ?_
  go_frame
  refine wpList_nil ?_
  go_upto_region 7 with (fail)
  refine wp_region_lit ?_
  refine ls_ex (some 62) (.pointer (some ⟨w.heap.size, 0, none⟩)) rfl rfl (exec_fieldAddr 39 _ 0 rfl _ (by kernel_rfl)) ?_
  go_frame
  refine ls_ex (some 63) (.int .i64 (P : Nat)) rfl rfl (exec_load_one 2 _ rfl w.heap.size 0 rfl (.int .i64 (P : Nat)) _ Try.underlying2 rfl (hz5.at_ 0)) ?_
  go_frame
  refine ls_ex (some 64) (.pointer (some ⟨w.heap.size, 1, none⟩)) rfl rfl (exec_fieldAddr 39 _ 1 rfl _ (by kernel_rfl)) ?_
  go_frame
  refine ls_ex (some 65) (.int .i64 (n : Nat)) rfl rfl (exec_load_one 2 _ rfl w.heap.size 1 rfl (.int .i64 (n : Nat)) _ Try.underlying2 rfl (hz5.at_ 1)) ?_
  go_frame
  refine ls_ex (some 66) (.pointer (some ⟨Wz2.heap.size, 1, none⟩)) rfl rfl (exec_fieldAddr 39 _ 1 rfl _ (by kernel_rfl)) ?_
  go_frame
  refine ls_ex (some 67) (.int .i64 (u : Nat)) rfl rfl (exec_load_one 2 _ rfl Wz2.heap.size 1 rfl (.int .i64 (u : Nat)) _ Try.underlying2 rfl (hz11.at_ 1)) ?_
  go_frame
  refine ls_ex (some 68) (.int .i64 (N1 : Nat)) rfl rfl (exec_mul _ _ _ _ rfl (n : Nat) (u : Nat) (N1 : Nat) rfl rfl HN1.out) ?_
  go_frame
  refine ls_ex (some 69) (.pointer (some ⟨w.heap.size, 2, none⟩)) rfl rfl (exec_fieldAddr 39 _ 2 rfl _ (by kernel_rfl)) ?_
  go_frame
  refine ls_ex (some 70) (.int .i64 (m : Nat)) rfl rfl (exec_load_one 2 _ rfl w.heap.size 2 rfl (.int .i64 (m : Nat)) _ Try.underlying2 rfl (hz5.at_ 2)) ?_
  go_frame
  refine ls_ex (some 71) (.pointer (some ⟨Wz2.heap.size, 2, none⟩)) rfl rfl (exec_fieldAddr 39 _ 2 rfl _ (by kernel_rfl)) ?_
  go_frame
  refine ls_ex (some 72) (.int .i64 (v : Nat)) rfl rfl (exec_load_one 2 _ rfl Wz2.heap.size 2 rfl (.int .i64 (v : Nat)) _ Try.underlying2 rfl (hz11.at_ 2)) ?_
  go_frame
  refine ls_ex (some 73) (.int .i64 (N2 : Nat)) rfl rfl (exec_mul _ _ _ _ rfl (m : Nat) (v : Nat) (N2 : Nat) rfl rfl HN2.out) ?_
  go_frame
  refine ls_ex (some 74) (.pointer (some ⟨w.heap.size, 3, none⟩)) rfl rfl (exec_fieldAddr 39 _ 3 rfl _ (by kernel_rfl)) ?_
  go_frame
  refine ls_ex (some 75) (.int .i64 (k : Nat)) rfl rfl (exec_load_one 2 _ rfl w.heap.size 3 rfl (.int .i64 (k : Nat)) _ Try.underlying2 rfl (hz5.at_ 3)) ?_
  go_frame
  refine ls_ex (some 76) (.pointer (some ⟨Wz2.heap.size, 3, none⟩)) rfl rfl (exec_fieldAddr 39 _ 3 rfl _ (by kernel_rfl)) ?_
  go_frame
  refine ls_ex (some 77) (.int .i64 (t : Nat)) rfl rfl (exec_load_one 2 _ rfl Wz2.heap.size 3 rfl (.int .i64 (t : Nat)) _ Try.underlying2 rfl (hz11.at_ 3)) ?_
  go_frame
  refine ls_ex (some 78) (.int .i64 (N3 : Nat)) rfl rfl (exec_mul _ _ _ _ rfl (k : Nat) (t : Nat) (N3 : Nat) rfl rfl HN3.out) ?_
  go_frame
  refine ls_ex (some 79) (.agg #[.int .i64 (P : Nat), .int .i64 (N1 : Nat), .int .i64 (N2 : Nat), .int .i64 (N3 : Nat), .slice none 0 0]) rfl rfl (exec_build_sch4 _ _ _ _ rfl (P : Nat) (N1 : Nat) (N2 : Nat) (N3 : Nat) rfl rfl rfl rfl) ?_
  go_frame
  refine ls_op rfl (fun K' hK' => ?_)
  have lz31 := hB.size
  have lz32 := hz5.lt
  have lz33 := hz11.lt
  have lz34 := hz18.lt
  refine wp_new (some 6) rfl (alU_impl_Scheme rfl) (fun Wz35 nnz36 => ?_)
  have bz37 := nnz36.below (Below.refl _ _) (Nat.le_refl _)
  replace hB := below_after hB bz37
  replace hz5 := hz5.after bz37
  replace hz11 := hz11.after bz37
  replace hz18 := hz18.after bz37
  have hz38 : At Wz35 Wz25.heap.size (.cells #[.int .i64 0, .int .i64 0, .int .i64 0, .int .i64 0, .slice none 0 0] 39 (0, 0)) := nnz36.at_
  refine hK' _ _ ?_
  clear hK' K' nnz36 bz37
  go_frame
  refine ls_op rfl (fun K' hK' => ?_)
  refine wp_store_all 39 _ _ rfl rfl Wz25.heap.size rfl #[.int .i64 (P : Nat), .int .i64 (N1 : Nat), .int .i64 (N2 : Nat), .int .i64 (N3 : Nat), .slice none 0 0] rfl _ _ hz38 5 (by kernel_rfl) rfl rfl (one5 _ _ _ _ _ _ _) (fun Wz39 pz40 => ?_)
  replace hB := pz40.below hB (by omega)
  replace hz5 := pz40.other hz5 (by omega)
  replace hz11 := pz40.other hz11 (by omega)
  replace hz18 := pz40.other hz18 (by omega)
  replace hz38 : At Wz39 Wz25.heap.size (.cells #[.int .i64 (P : Nat), .int .i64 (N1 : Nat), .int .i64 (N2 : Nat), .int .i64 (N3 : Nat), .slice none 0 0] 39 (0, 0)) := pz40.at_
  refine hK' _ _ ?_
  clear hK' K' pz40
  refine wpList_nil ?_
  go_upto_region 8 with (fail)
  refine wp_region_lit ?_
  refine ls_ex (some 7) (.int .i64 0) rfl rfl (exec_assign _ rfl (.int .i64 0) rfl) ?_
  go_frame
  refine wpList_nil ?_
  go_wp2_with fail
  go_loopw [7] (fun s7 wr => ∃ (a : Nat) (v9 : Value), a ≤ qs.length ∧ s7 = .int .i64 a ∧ Below w.heap.size w wr ∧ At wr w.heap.size (.cells #[.int .i64 (P : Nat), .int .i64 (n : Nat), .int .i64 (m : Nat), .int .i64 (k : Nat), .slice A qs.length c] 39 (0, 0)) ∧ At wr Wz2.heap.size (.cells #[.int .i64 (P : Nat), .int .i64 (u : Nat), .int .i64 (v : Nat), .int .i64 (t : Nat), .slice B rs.length d] 39 (0, 0)) ∧ At wr Wz8.heap.size (.cells #[.int .i64 0, .int .i64 0, .int .i64 0, .int .i64 0, .slice none 0 0] 39 (0, 0)) ∧ At wr Wz25.heap.size (.cells #[.int .i64 (P : Nat), .int .i64 (N1 : Nat), .int .i64 (N2 : Nat), .int .i64 (N3 : Nat), v9] 39 (0, 0)) ∧ Own wr w.heap.size (v9) (muO P n m k u v t qs rs (a))) (fun s7 _ => qs.length - (intOf s7).toNat)
  case atStart => exact ⟨0, _, by omega, rfl, hB, hz5, hz11, hz18, hz38, Own.nil _ _⟩
  case round =>
    clear hB hz5 hz11 hz18 hz38
    obtain ⟨a, v9, hle, rfl, hB, h2, h3, h4, h6, ho⟩ := hrel
    by_cases hlt : a < qs.length
    · obtain ⟨bA, oA, rfl, hcA⟩ := (hR.keep hB).at_ hlt
      clear hcA
      have hq := hR.good _ (List.getElem_mem hlt)
      go_upto_region 9 with (fail)
      refine wp_region_lit ?_
      refine ls_ex (some 80) (.int .i64 a) rfl rfl (exec_move _ rfl (.int .i64 a) rfl) ?_
      go_frame
      refine ls_ex (some 81) (.pointer (some ⟨w.heap.size, 4, none⟩)) rfl rfl (exec_fieldAddr 39 _ 4 rfl _ (by kernel_rfl)) ?_
      go_frame
      refine ls_ex (some 82) (.slice (some ⟨bA, oA, none⟩) qs.length c) rfl rfl (exec_load_one 26 _ rfl w.heap.size 4 rfl (.slice (some ⟨bA, oA, none⟩) qs.length c) _ Try.underlying26 rfl (h2.at_ 4)) ?_
      go_frame
      refine ls_ex (some 83) (.int .i64 qs.length) rfl rfl (exec_len _ 26 53 rfl ((some ⟨bA, oA, none⟩)) qs.length c rfl Try.underlying26) ?_
      go_frame
      refine ls_ex (some 84) (.bool true) rfl rfl (exec_lss _ _ _ _ rfl a qs.length rfl rfl true (decide_eq_true (by omega))) ?_
      go_frame
      refine wpList_nil ?_
      go_upto_region 11 with (fail)
      refine wp_region_lit ?_
      refine ls_ex (some 8) (.int .i64 0) rfl rfl (exec_assign _ rfl (.int .i64 0) rfl) ?_
      go_frame
      refine wpList_nil ?_
      go_wp2_with fail
      obtain ⟨we, rfl⟩ : ∃ x : World, x = wr := ⟨_, rfl⟩
      go_loopw [8] (fun s8 wr => ∃ (b : Nat) (v9 : Value), b ≤ rs.length ∧ s8 = .int .i64 b ∧ Below w.heap.size w wr ∧ At wr w.heap.size (.cells #[.int .i64 (P : Nat), .int .i64 (n : Nat), .int .i64 (m : Nat), .int .i64 (k : Nat), .slice (some ⟨bA, oA, none⟩) qs.length c] 39 (0, 0)) ∧ At wr Wz2.heap.size (.cells #[.int .i64 (P : Nat), .int .i64 (u : Nat), .int .i64 (v : Nat), .int .i64 (t : Nat), .slice B rs.length d] 39 (0, 0)) ∧ At wr Wz8.heap.size (.cells #[.int .i64 0, .int .i64 0, .int .i64 0, .int .i64 0, .slice none 0 0] 39 (0, 0)) ∧ At wr Wz25.heap.size (.cells #[.int .i64 (P : Nat), .int .i64 (N1 : Nat), .int .i64 (N2 : Nat), .int .i64 (N3 : Nat), v9] 39 (0, 0)) ∧ Own wr w.heap.size (v9) (muI P n m k u v t qs rs qs[a] a (b))) (fun s8 _ => rs.length - (intOf s8).toNat)
      case atStart => exact ⟨0, _, by omega, rfl, hB, h2, h3, h4, h6, by rw [muI_zero]; exact ho⟩
      case round =>
        clear hB h2 h3 h4 h6 ho
        obtain ⟨b, v9, hle2, rfl, hB, h2, h3, h4, h6, ho⟩ := hrel
        by_cases hlt2 : b < rs.length
        · obtain ⟨bB, oB, rfl, hcB⟩ := (hS.keep hB).at_ hlt2
          clear hcB
          have hr := hS.good _ (List.getElem_mem hlt2)
          obtain ⟨L9, hL9⟩ : ∃ z9, (muI P n m k u v t qs rs qs[a] a (b)).length = z9 := ⟨_, rfl⟩
          obtain ⟨A9, c9, rfl⟩ := Own.rdN2 ho hL9
          have HT : Hid (muI P n m k u v t qs rs qs[a] a (b) ++ [muQ P n m k u v t qs[a] rs[b]] = muI P n m k u v t qs rs qs[a] a (b + 1)) := Lib.hid (muI_step hlt2)
          have hAL := muI_le (P := P) (n := n) (m := m) (k := k) (u := u) (v := v) (t := t) (q := qs[a]) (a := a) (b := b) hl30 hs30 (by omega) (by omega)
          have HAS : Hid ((muI P n m k u v t qs rs qs[a] a (b + 1)).length = L9 + 1) := Lib.hid (by rw [← HT.out, List.length_append, hL9]; rfl)
          have HL9 := Lib.hid hL9
          rw [hL9] at hAL
          clear hL9
          go_upto_region 12 with (fail)
          refine wp_region_lit ?_
          refine ls_ex (some 87) (.int .i64 b) rfl rfl (exec_move _ rfl (.int .i64 b) rfl) ?_
          go_frame
          refine ls_ex (some 88) (.pointer (some ⟨Wz2.heap.size, 4, none⟩)) rfl rfl (exec_fieldAddr 39 _ 4 rfl _ (by kernel_rfl)) ?_
          go_frame
          refine ls_ex (some 89) (.slice (some ⟨bB, oB, none⟩) rs.length d) rfl rfl (exec_load_one 26 _ rfl Wz2.heap.size 4 rfl (.slice (some ⟨bB, oB, none⟩) rs.length d) _ Try.underlying26 rfl (h3.at_ 4)) ?_
          go_frame
          refine ls_ex (some 90) (.int .i64 rs.length) rfl rfl (exec_len _ 26 53 rfl ((some ⟨bB, oB, none⟩)) rs.length d rfl Try.underlying26) ?_
          go_frame
          refine ls_ex (some 91) (.bool true) rfl rfl (exec_lss _ _ _ _ rfl b rs.length rfl rfl true (decide_eq_true (by omega))) ?_
          go_frame
          refine wpList_nil ?_
          go_upto_region 14 with (fail)
          go_cut [9, 10] from 94 to 104 (fun s9 s10 wx => ∃ B1 B2 : Nat, s9 = .pointer (some ⟨B1, 0, none⟩) ∧ s10 = .pointer (some ⟨B2, 0, none⟩) ∧ w.heap.size < B1 ∧ w.heap.size < B2 ∧ Wz2.heap.size < B1 ∧ Wz2.heap.size < B2 ∧ Wz8.heap.size < B1 ∧ Wz8.heap.size < B2 ∧ Wz25.heap.size < B1 ∧ Wz25.heap.size < B2 ∧ some B1 ≠ (Value.slice A9 L9 c9).ownBlock ∧ some B2 ≠ (Value.slice A9 L9 c9).ownBlock ∧ At wx B1 (.cells (u8s (qs[a])) 53 (0, 0)) ∧ At wx B2 (.cells (u8s (rs[b])) 53 (0, 0)) ∧ Below w.heap.size w wx ∧ At wx w.heap.size (.cells #[.int .i64 (P : Nat), .int .i64 (n : Nat), .int .i64 (m : Nat), .int .i64 (k : Nat), .slice (some ⟨bA, oA, none⟩) qs.length c] 39 (0, 0)) ∧ At wx Wz2.heap.size (.cells #[.int .i64 (P : Nat), .int .i64 (u : Nat), .int .i64 (v : Nat), .int .i64 (t : Nat), .slice (some ⟨bB, oB, none⟩) rs.length d] 39 (0, 0)) ∧ At wx Wz8.heap.size (.cells #[.int .i64 0, .int .i64 0, .int .i64 0, .int .i64 0, .slice none 0 0] 39 (0, 0)) ∧ At wx Wz25.heap.size (.cells #[.int .i64 (P : Nat), .int .i64 (N1 : Nat), .int .i64 (N2 : Nat), .int .i64 (N3 : Nat), .slice A9 L9 c9] 39 (0, 0)) ∧ Own wx w.heap.size (.slice A9 L9 c9) (muI P n m k u v t qs rs qs[a] a (b)))
          case first =>
            refine wp_region_y (zs := []) (S := fun w' => Below w.heap.size w w' ∧ At w' w.heap.size (.cells #[.int .i64 (P : Nat), .int .i64 (n : Nat), .int .i64 (m : Nat), .int .i64 (k : Nat), .slice (some ⟨bA, oA, none⟩) qs.length c] 39 (0, 0)) ∧ At w' Wz2.heap.size (.cells #[.int .i64 (P : Nat), .int .i64 (u : Nat), .int .i64 (v : Nat), .int .i64 (t : Nat), .slice (some ⟨bB, oB, none⟩) rs.length d] 39 (0, 0))) (S2 := fun w' => True) (by kernel_rfl) ?_
            change wpAnyY _ _ _ _ _ _ _ _ _ _ (World.drew _)
            generalize hwdz41 : World.drew _ = wdz41
            replace hB : Below w.heap.size w wdz41 := by rw [← hwdz41]; exact hB.drew
            replace h2 : At wdz41 w.heap.size (.cells #[.int .i64 (P : Nat), .int .i64 (n : Nat), .int .i64 (m : Nat), .int .i64 (k : Nat), .slice (some ⟨bA, oA, none⟩) qs.length c] 39 (0, 0)) := by rw [← hwdz41]; exact h2
            replace h3 : At wdz41 Wz2.heap.size (.cells #[.int .i64 (P : Nat), .int .i64 (u : Nat), .int .i64 (v : Nat), .int .i64 (t : Nat), .slice (some ⟨bB, oB, none⟩) rs.length d] 39 (0, 0)) := by rw [← hwdz41]; exact h3
            replace h4 : At wdz41 Wz8.heap.size (.cells #[.int .i64 0, .int .i64 0, .int .i64 0, .int .i64 0, .slice none 0 0] 39 (0, 0)) := by rw [← hwdz41]; exact h4
            replace h6 : At wdz41 Wz25.heap.size (.cells #[.int .i64 (P : Nat), .int .i64 (N1 : Nat), .int .i64 (N2 : Nat), .int .i64 (N3 : Nat), .slice A9 L9 c9] 39 (0, 0)) := by rw [← hwdz41]; exact h6
            replace ho : Own wdz41 w.heap.size (.slice A9 L9 c9) (muI P n m k u v t qs rs qs[a] a (b)) := by rw [← hwdz41]; exact ho.drew
            clear hwdz41
            refine y_yield 0 (some 94) (.pointer (some ⟨w.heap.size, 4, none⟩)) rfl (by kernel_rfl) (by kernel_rfl) (by kernel_rfl) (fun _ _ _ h => h) rfl rfl ⟨hB, h2, h3⟩ (fun w' h' => exec_fieldAddr 39 _ 4 rfl _ (by kernel_rfl)) ?_
            go_frame
            refine y_yield 1 (some 95) (.slice (some ⟨bA, oA, none⟩) qs.length c) rfl (by kernel_rfl) (by kernel_rfl) (by kernel_rfl) (fun _ _ _ h => h) rfl rfl ⟨hB, h2, h3⟩ (fun w' h' => exec_load_one 26 _ rfl w.heap.size 4 rfl (.slice (some ⟨bA, oA, none⟩) qs.length c) _ Try.underlying26 rfl (h'.2.1.at_ 4)) ?_
            go_frame
            refine y_yield 2 (some 96) (.int .i64 a) rfl (by kernel_rfl) (by kernel_rfl) (by kernel_rfl) (fun _ _ _ h => h) rfl rfl ⟨hB, h2, h3⟩ (fun w' h' => exec_move _ rfl (.int .i64 a) rfl) ?_
            go_frame
            refine y_yield 3 (some 97) (.pointer (some ⟨bA, oA + a * 27, none⟩)) rfl (by kernel_rfl) (by kernel_rfl) (by kernel_rfl) (fun _ _ _ h => h) rfl rfl ⟨hB, h2, h3⟩ (fun w' h' => exec_index_slice _ 53 _ _ rfl bA oA qs.length c a 27 rfl rfl Try.underlying26 (by kernel_rfl) (by omega)) ?_
            go_frame
            refine y_yield 4 (some 98) (.agg (u8s (qs[a]))) rfl (by kernel_rfl) (by kernel_rfl) (by kernel_rfl) (fun _ _ _ h => h) rfl rfl ⟨hB, h2, h3⟩ (fun w' h' => exec_load_cells 53 _ rfl bA (oA + a * 27) rfl (qs[a]) _ 27 (Rd.c27m (hR.keep h'.1) hlt) Try.underlying53 rfl (by kernel_rfl) (hq.len)) ?_
            go_frame
            refine y_yield 5 (some 99) (.pointer (some ⟨Wz2.heap.size, 4, none⟩)) rfl (by kernel_rfl) (by kernel_rfl) (by kernel_rfl) (fun _ _ _ h => h) rfl rfl ⟨hB, h2, h3⟩ (fun w' h' => exec_fieldAddr 39 _ 4 rfl _ (by kernel_rfl)) ?_
            go_frame
            refine y_yield 6 (some 100) (.slice (some ⟨bB, oB, none⟩) rs.length d) rfl (by kernel_rfl) (by kernel_rfl) (by kernel_rfl) (fun _ _ _ h => h) rfl rfl ⟨hB, h2, h3⟩ (fun w' h' => exec_load_one 26 _ rfl Wz2.heap.size 4 rfl (.slice (some ⟨bB, oB, none⟩) rs.length d) _ Try.underlying26 rfl (h'.2.2.at_ 4)) ?_
            go_frame
            refine y_yield 7 (some 101) (.int .i64 b) rfl (by kernel_rfl) (by kernel_rfl) (by kernel_rfl) (fun _ _ _ h => h) rfl rfl ⟨hB, h2, h3⟩ (fun w' h' => exec_move _ rfl (.int .i64 b) rfl) ?_
            go_frame
            refine y_yield 8 (some 102) (.pointer (some ⟨bB, oB + b * 27, none⟩)) rfl (by kernel_rfl) (by kernel_rfl) (by kernel_rfl) (fun _ _ _ h => h) rfl rfl ⟨hB, h2, h3⟩ (fun w' h' => exec_index_slice _ 53 _ _ rfl bB oB rs.length d b 27 rfl rfl Try.underlying26 (by kernel_rfl) (by omega)) ?_
            go_frame
            refine y_yield 9 (some 103) (.agg (u8s (rs[b]))) rfl (by kernel_rfl) (by kernel_rfl) (by kernel_rfl) (fun _ _ _ h => h) rfl rfl ⟨hB, h2, h3⟩ (fun w' h' => exec_load_cells 53 _ rfl bB (oB + b * 27) rfl (rs[b]) _ 27 (Rd.c27m (hS.keep h'.1) hlt2) Try.underlying53 rfl (by kernel_rfl) (hr.len)) ?_
            go_frame
            refine y_two 10 11 (by kernel_rfl) rfl rfl rfl rfl (fun K' hK' => ?_) (fun K' hK' => ?_)
            · have lz42 := hB.size
              have lz43 := h2.lt
              have lz44 := h3.lt
              have lz45 := h4.lt
              have lz46 := h6.lt
              have naz51 := ho.away_new
              refine wp_new (some 9) rfl (alU_impl_Product rfl) (fun Wz47 nnz48 => ?_)
              have bz49 := nnz48.below (Below.refl _ _) (Nat.le_refl _)
              replace hB := below_after hB bz49
              replace h2 := h2.after bz49
              replace h3 := h3.after bz49
              replace h4 := h4.after bz49
              replace h6 := h6.after bz49
              replace ho := ho.below bz49
              have hz50 : At Wz47 wdz41.heap.size (.cells (u8s (List.replicate 27 0)) 53 (0, 0)) := nnz48.at_
              refine hK' _ _ ⟨hB, h2, h3⟩ (fun _ => trivial) ?_
              clear hK' K' nnz48 bz49
              go_frame
              refine y_oper 11 (by kernel_rfl) rfl rfl (fun K' hK' => ?_)
              have lz52 := hB.size
              have lz53 := h2.lt
              have lz54 := h3.lt
              have lz55 := h4.lt
              have lz56 := h6.lt
              have lz57 := hz50.lt
              have naz62 := ho.away_new
              refine wp_new (some 10) rfl (alU_impl_Product rfl) (fun Wz58 nnz59 => ?_)
              have bz60 := nnz59.below (Below.refl _ _) (Nat.le_refl _)
              replace hB := below_after hB bz60
              replace h2 := h2.after bz60
              replace h3 := h3.after bz60
              replace h4 := h4.after bz60
              replace h6 := h6.after bz60
              replace ho := ho.below bz60
              replace hz50 := hz50.after bz60
              have hz61 : At Wz58 Wz47.heap.size (.cells (u8s (List.replicate 27 0)) 53 (0, 0)) := nnz59.at_
              refine hK' _ _ ⟨hB, h2, h3⟩ (fun _ => trivial) ?_
              clear hK' K' nnz59 bz60
              go_frame
              refine y_oper 12 (by kernel_rfl) rfl rfl (fun K' hK' => ?_)
              refine wp_store_bytes 53 _ _ rfl rfl wdz41.heap.size rfl (qs[a]) rfl _ _ hz50 27 (by kernel_rfl) hq.len (by simp) (fun Wz63 pz64 => ?_)
              replace hB := pz64.below hB (by omega)
              replace h2 := pz64.other h2 (by omega)
              replace h3 := pz64.other h3 (by omega)
              replace h4 := pz64.other h4 (by omega)
              replace h6 := pz64.other h6 (by omega)
              replace ho := ho.put pz64 naz51
              replace hz61 := pz64.other hz61 (by omega)
              replace hz50 : At Wz63 wdz41.heap.size (.cells (u8s (qs[a])) 53 (0, 0)) := pz64.at_
              refine hK' _ _ ⟨hB, h2, h3⟩ (fun _ => trivial) ?_
              clear hK' K' pz64
              refine y_oper 13 (by kernel_rfl) rfl rfl (fun K' hK' => ?_)
              refine wp_store_bytes 53 _ _ rfl rfl Wz47.heap.size rfl (rs[b]) rfl _ _ hz61 27 (by kernel_rfl) hr.len (by simp) (fun Wz65 pz66 => ?_)
              replace hB := pz66.below hB (by omega)
              replace h2 := pz66.other h2 (by omega)
              replace h3 := pz66.other h3 (by omega)
              replace h4 := pz66.other h4 (by omega)
              replace h6 := pz66.other h6 (by omega)
              replace ho := ho.put pz66 naz62
              replace hz50 := pz66.other hz50 (by omega)
              replace hz61 : At Wz65 Wz47.heap.size (.cells (u8s (rs[b])) 53 (0, 0)) := pz66.at_
              refine hK' _ _ ⟨hB, h2, h3⟩ (fun _ => trivial) ?_
              clear hK' K' pz66
              refine y_done (by kernel_rfl) ?_ _
              go_wp2_with fail
              go_meet
              exact ⟨_, _, rfl, rfl, by omega, by omega, by omega, by omega, by omega, by omega, by omega, by omega, naz51, naz62, hz50, hz61, hB, h2, h3, h4, h6, ho⟩
            · have lz67 := hB.size
              have lz68 := h2.lt
              have lz69 := h3.lt
              have lz70 := h4.lt
              have lz71 := h6.lt
              have naz76 := ho.away_new
              refine wp_new (some 10) rfl (alU_impl_Product rfl) (fun Wz72 nnz73 => ?_)
              have bz74 := nnz73.below (Below.refl _ _) (Nat.le_refl _)
              replace hB := below_after hB bz74
              replace h2 := h2.after bz74
              replace h3 := h3.after bz74
              replace h4 := h4.after bz74
              replace h6 := h6.after bz74
              replace ho := ho.below bz74
              have hz75 : At Wz72 wdz41.heap.size (.cells (u8s (List.replicate 27 0)) 53 (0, 0)) := nnz73.at_
              refine hK' _ _ ⟨hB, h2, h3⟩ (fun _ => trivial) ?_
              clear hK' K' nnz73 bz74
              go_frame
              refine y_oper 10 (by kernel_rfl) rfl rfl (fun K' hK' => ?_)
              have lz77 := hB.size
              have lz78 := h2.lt
              have lz79 := h3.lt
              have lz80 := h4.lt
              have lz81 := h6.lt
              have lz82 := hz75.lt
              have naz87 := ho.away_new
              refine wp_new (some 9) rfl (alU_impl_Product rfl) (fun Wz83 nnz84 => ?_)
              have bz85 := nnz84.below (Below.refl _ _) (Nat.le_refl _)
              replace hB := below_after hB bz85
              replace h2 := h2.after bz85
              replace h3 := h3.after bz85
              replace h4 := h4.after bz85
              replace h6 := h6.after bz85
              replace ho := ho.below bz85
              replace hz75 := hz75.after bz85
              have hz86 : At Wz83 Wz72.heap.size (.cells (u8s (List.replicate 27 0)) 53 (0, 0)) := nnz84.at_
              refine hK' _ _ ⟨hB, h2, h3⟩ (fun _ => trivial) ?_
              clear hK' K' nnz84 bz85
              go_frame
              refine y_oper 12 (by kernel_rfl) rfl rfl (fun K' hK' => ?_)
              refine wp_store_bytes 53 _ _ rfl rfl Wz72.heap.size rfl (qs[a]) rfl _ _ hz86 27 (by kernel_rfl) hq.len (by simp) (fun Wz88 pz89 => ?_)
              replace hB := pz89.below hB (by omega)
              replace h2 := pz89.other h2 (by omega)
              replace h3 := pz89.other h3 (by omega)
              replace h4 := pz89.other h4 (by omega)
              replace h6 := pz89.other h6 (by omega)
              replace ho := ho.put pz89 naz87
              replace hz75 := pz89.other hz75 (by omega)
              replace hz86 : At Wz88 Wz72.heap.size (.cells (u8s (qs[a])) 53 (0, 0)) := pz89.at_
              refine hK' _ _ ⟨hB, h2, h3⟩ (fun _ => trivial) ?_
              clear hK' K' pz89
              refine y_oper 13 (by kernel_rfl) rfl rfl (fun K' hK' => ?_)
              refine wp_store_bytes 53 _ _ rfl rfl wdz41.heap.size rfl (rs[b]) rfl _ _ hz75 27 (by kernel_rfl) hr.len (by simp) (fun Wz90 pz91 => ?_)
              replace hB := pz91.below hB (by omega)
              replace h2 := pz91.other h2 (by omega)
              replace h3 := pz91.other h3 (by omega)
              replace h4 := pz91.other h4 (by omega)
              replace h6 := pz91.other h6 (by omega)
              replace ho := ho.put pz91 naz76
              replace hz86 := pz91.other hz86 (by omega)
              replace hz75 : At Wz90 wdz41.heap.size (.cells (u8s (rs[b])) 53 (0, 0)) := pz91.at_
              refine hK' _ _ ⟨hB, h2, h3⟩ (fun _ => trivial) ?_
              clear hK' K' pz91
              refine y_done (by kernel_rfl) ?_ _
              go_wp2_with fail
              go_meet
              exact ⟨_, _, rfl, rfl, by omega, by omega, by omega, by omega, by omega, by omega, by omega, by omega, naz87, naz76, hz86, hz75, hB, h2, h3, h4, h6, ho⟩
          case rest =>
          clear hB h2 h3 h4 h6 ho
          obtain ⟨B1, B2, rfl, rfl, g0, g0', g1, g1', g2, g2', g3, g3', na1, na2, hb1, hb2, hB, h2, h3, h4, h6, ho⟩ := hcut
          obtain ⟨wc, rfl⟩ := cut_worldM hB
          go_upto_region 15 with (fail)
          refine wp_region_y (zs := [51]) (S := fun w' => Below w.heap.size w w' ∧ At w' w.heap.size (.cells #[.int .i64 (P : Nat), .int .i64 (n : Nat), .int .i64 (m : Nat), .int .i64 (k : Nat), .slice (some ⟨bA, oA, none⟩) qs.length c] 39 (0, 0)) ∧ At w' B1 (.cells (u8s (qs[a])) 53 (0, 0)) ∧ At w' B2 (.cells (u8s (rs[b])) 53 (0, 0)) ∧ At w' Wz2.heap.size (.cells #[.int .i64 (P : Nat), .int .i64 (u : Nat), .int .i64 (v : Nat), .int .i64 (t : Nat), .slice (some ⟨bB, oB, none⟩) rs.length d] 39 (0, 0))) (S2 := fun w' => At w' Wz25.heap.size (.cells #[.int .i64 (P : Nat), .int .i64 (N1 : Nat), .int .i64 (N2 : Nat), .int .i64 (N3 : Nat), .slice A9 L9 c9] 39 (0, 0))) (by kernel_rfl) ?_
          change wpAnyY _ _ _ _ _ _ _ _ _ _ (World.drew _)
          generalize hwdz92 : World.drew _ = wdz92
          replace hB : Below w.heap.size w wdz92 := by rw [← hwdz92]; exact hB.drew
          replace h2 : At wdz92 w.heap.size (.cells #[.int .i64 (P : Nat), .int .i64 (n : Nat), .int .i64 (m : Nat), .int .i64 (k : Nat), .slice (some ⟨bA, oA, none⟩) qs.length c] 39 (0, 0)) := by rw [← hwdz92]; exact h2
          replace h3 : At wdz92 Wz2.heap.size (.cells #[.int .i64 (P : Nat), .int .i64 (u : Nat), .int .i64 (v : Nat), .int .i64 (t : Nat), .slice (some ⟨bB, oB, none⟩) rs.length d] 39 (0, 0)) := by rw [← hwdz92]; exact h3
          replace h4 : At wdz92 Wz8.heap.size (.cells #[.int .i64 0, .int .i64 0, .int .i64 0, .int .i64 0, .slice none 0 0] 39 (0, 0)) := by rw [← hwdz92]; exact h4
          replace h6 : At wdz92 Wz25.heap.size (.cells #[.int .i64 (P : Nat), .int .i64 (N1 : Nat), .int .i64 (N2 : Nat), .int .i64 (N3 : Nat), .slice A9 L9 c9] 39 (0, 0)) := by rw [← hwdz92]; exact h6
          replace ho : Own wdz92 w.heap.size (.slice A9 L9 c9) (muI P n m k u v t qs rs qs[a] a (b)) := by rw [← hwdz92]; exact ho.drew
          replace hb1 : At wdz92 B1 (.cells (u8s (qs[a])) 53 (0, 0)) := by rw [← hwdz92]; exact hb1
          replace hb2 : At wdz92 B2 (.cells (u8s (rs[b])) 53 (0, 0)) := by rw [← hwdz92]; exact hb2
          clear hwdz92
          refine y_yield 0 (some 104) (.pointer (some ⟨Wz25.heap.size, 4, none⟩)) rfl (by kernel_rfl) (by kernel_rfl) (by kernel_rfl) (fun _ _ _ h => h) rfl rfl ⟨hB, h2, hb1, hb2, h3⟩ (fun w' h' => exec_fieldAddr 39 _ 4 rfl _ (by kernel_rfl)) ?_
          go_frame
          refine y_yield3 1 (some 105) (.slice A9 L9 c9) rfl 52 (by kernel_rfl) (by kernel_rfl) (by kernel_rfl) (by kernel_rfl) (by kernel_rfl) (fun _ _ _ h => h) rfl rfl ⟨hB, h2, hb1, hb2, h3⟩ h6 (fun w' h' h2' => exec_load_one 26 _ rfl Wz25.heap.size 4 rfl (.slice A9 L9 c9) _ Try.underlying26 rfl (h2'.at_ 4)) ?_
          go_frame
          refine y_yield 2 (some 106) (.pointer (some ⟨w.heap.size, 0, none⟩)) rfl (by kernel_rfl) (by kernel_rfl) (by kernel_rfl) (fun _ _ _ h => h) rfl rfl ⟨hB, h2, hb1, hb2, h3⟩ (fun w' h' => exec_fieldAddr 39 _ 0 rfl _ (by kernel_rfl)) ?_
          go_frame
          refine y_yield 3 (some 107) (.int .i64 (P : Nat)) rfl (by kernel_rfl) (by kernel_rfl) (by kernel_rfl) (fun _ _ _ h => h) rfl rfl ⟨hB, h2, hb1, hb2, h3⟩ (fun w' h' => exec_load_one 2 _ rfl w.heap.size 0 rfl (.int .i64 (P : Nat)) _ Try.underlying2 rfl (h'.2.1.at_ 0)) ?_
          go_frame
          refine y_yield 4 (some 108) (.pointer (some ⟨B1, 0, none⟩)) rfl (by kernel_rfl) (by kernel_rfl) (by kernel_rfl) (fun _ _ _ h => h) rfl rfl ⟨hB, h2, hb1, hb2, h3⟩ (fun w' h' => exec_fieldAddr 53 _ 0 rfl _ (by kernel_rfl)) ?_
          go_frame
          refine y_yield 5 (some 109) (.agg (u8s (segm qs[a] 0 9))) rfl (by kernel_rfl) (by kernel_rfl) (by kernel_rfl) (fun _ _ _ h => h) rfl rfl ⟨hB, h2, hb1, hb2, h3⟩ (fun w' h' => exec_load_seg 51 _ rfl B1 (0) rfl _ (qs[a]) _ 9 h'.2.2.1 Try.underlying51 rfl (by kernel_rfl) (by rw [hq.len]; omega) (segm qs[a] 0 9) rfl) ?_
          go_frame
          refine y_yield 6 (some 110) (.pointer (some ⟨B2, 0, none⟩)) rfl (by kernel_rfl) (by kernel_rfl) (by kernel_rfl) (fun _ _ _ h => h) rfl rfl ⟨hB, h2, hb1, hb2, h3⟩ (fun w' h' => exec_fieldAddr 53 _ 0 rfl _ (by kernel_rfl)) ?_
          go_frame
          refine y_yield 7 (some 111) (.agg (u8s (segm rs[b] 0 9))) rfl (by kernel_rfl) (by kernel_rfl) (by kernel_rfl) (fun _ _ _ h => h) rfl rfl ⟨hB, h2, hb1, hb2, h3⟩ (fun w' h' => exec_load_seg 51 _ rfl B2 (0) rfl _ (rs[b]) _ 9 h'.2.2.2.1 Try.underlying51 rfl (by kernel_rfl) (by rw [hr.len]; omega) (segm rs[b] 0 9) rfl) ?_
          go_frame
          refine y_yield 8 (some 112) (.pointer (some ⟨w.heap.size, 1, none⟩)) rfl (by kernel_rfl) (by kernel_rfl) (by kernel_rfl) (fun _ _ _ h => h) rfl rfl ⟨hB, h2, hb1, hb2, h3⟩ (fun w' h' => exec_fieldAddr 39 _ 1 rfl _ (by kernel_rfl)) ?_
          go_frame
          refine y_yield 9 (some 113) (.int .i64 (n : Nat)) rfl (by kernel_rfl) (by kernel_rfl) (by kernel_rfl) (fun _ _ _ h => h) rfl rfl ⟨hB, h2, hb1, hb2, h3⟩ (fun w' h' => exec_load_one 2 _ rfl w.heap.size 1 rfl (.int .i64 (n : Nat)) _ Try.underlying2 rfl (h'.2.1.at_ 1)) ?_
          go_frame
          refine y_yield 10 (some 114) (.pointer (some ⟨w.heap.size, 2, none⟩)) rfl (by kernel_rfl) (by kernel_rfl) (by kernel_rfl) (fun _ _ _ h => h) rfl rfl ⟨hB, h2, hb1, hb2, h3⟩ (fun w' h' => exec_fieldAddr 39 _ 2 rfl _ (by kernel_rfl)) ?_
          go_frame
          refine y_yield 11 (some 115) (.int .i64 (m : Nat)) rfl (by kernel_rfl) (by kernel_rfl) (by kernel_rfl) (fun _ _ _ h => h) rfl rfl ⟨hB, h2, hb1, hb2, h3⟩ (fun w' h' => exec_load_one 2 _ rfl w.heap.size 2 rfl (.int .i64 (m : Nat)) _ Try.underlying2 rfl (h'.2.1.at_ 2)) ?_
          go_frame
          refine y_yield 12 (some 116) (.pointer (some ⟨Wz2.heap.size, 1, none⟩)) rfl (by kernel_rfl) (by kernel_rfl) (by kernel_rfl) (fun _ _ _ h => h) rfl rfl ⟨hB, h2, hb1, hb2, h3⟩ (fun w' h' => exec_fieldAddr 39 _ 1 rfl _ (by kernel_rfl)) ?_
          go_frame
          refine y_yield 13 (some 117) (.int .i64 (u : Nat)) rfl (by kernel_rfl) (by kernel_rfl) (by kernel_rfl) (fun _ _ _ h => h) rfl rfl ⟨hB, h2, hb1, hb2, h3⟩ (fun w' h' => exec_load_one 2 _ rfl Wz2.heap.size 1 rfl (.int .i64 (u : Nat)) _ Try.underlying2 rfl (h'.2.2.2.2.at_ 1)) ?_
          go_frame
          refine y_yield 14 (some 118) (.pointer (some ⟨Wz2.heap.size, 2, none⟩)) rfl (by kernel_rfl) (by kernel_rfl) (by kernel_rfl) (fun _ _ _ h => h) rfl rfl ⟨hB, h2, hb1, hb2, h3⟩ (fun w' h' => exec_fieldAddr 39 _ 2 rfl _ (by kernel_rfl)) ?_
          go_frame
          refine y_yield 15 (some 119) (.int .i64 (v : Nat)) rfl (by kernel_rfl) (by kernel_rfl) (by kernel_rfl) (fun _ _ _ h => h) rfl rfl ⟨hB, h2, hb1, hb2, h3⟩ (fun w' h' => exec_load_one 2 _ rfl Wz2.heap.size 2 rfl (.int .i64 (v : Nat)) _ Try.underlying2 rfl (h'.2.2.2.2.at_ 2)) ?_
          go_frame
          refine y_yield 17 (some 121) (.pointer (some ⟨w.heap.size, 0, none⟩)) rfl (by kernel_rfl) (by kernel_rfl) (by kernel_rfl) (fun _ _ _ h => h) rfl rfl ⟨hB, h2, hb1, hb2, h3⟩ (fun w' h' => exec_fieldAddr 39 _ 0 rfl _ (by kernel_rfl)) ?_
          go_frame
          refine y_yield 18 (some 122) (.int .i64 (P : Nat)) rfl (by kernel_rfl) (by kernel_rfl) (by kernel_rfl) (fun _ _ _ h => h) rfl rfl ⟨hB, h2, hb1, hb2, h3⟩ (fun w' h' => exec_load_one 2 _ rfl w.heap.size 0 rfl (.int .i64 (P : Nat)) _ Try.underlying2 rfl (h'.2.1.at_ 0)) ?_
          go_frame
          refine y_yield 19 (some 123) (.pointer (some ⟨B1, 9, none⟩)) rfl (by kernel_rfl) (by kernel_rfl) (by kernel_rfl) (fun _ _ _ h => h) rfl rfl ⟨hB, h2, hb1, hb2, h3⟩ (fun w' h' => exec_fieldAddr 53 _ 1 rfl _ (by kernel_rfl)) ?_
          go_frame
          refine y_yield 20 (some 124) (.agg (u8s (segm qs[a] 9 9))) rfl (by kernel_rfl) (by kernel_rfl) (by kernel_rfl) (fun _ _ _ h => h) rfl rfl ⟨hB, h2, hb1, hb2, h3⟩ (fun w' h' => exec_load_seg 51 _ rfl B1 (9) rfl _ (qs[a]) _ 9 h'.2.2.1 Try.underlying51 rfl (by kernel_rfl) (by rw [hq.len]; omega) (segm qs[a] 9 9) rfl) ?_
          go_frame
          refine y_yield 21 (some 125) (.pointer (some ⟨B2, 9, none⟩)) rfl (by kernel_rfl) (by kernel_rfl) (by kernel_rfl) (fun _ _ _ h => h) rfl rfl ⟨hB, h2, hb1, hb2, h3⟩ (fun w' h' => exec_fieldAddr 53 _ 1 rfl _ (by kernel_rfl)) ?_
          go_frame
          refine y_yield 22 (some 126) (.agg (u8s (segm rs[b] 9 9))) rfl (by kernel_rfl) (by kernel_rfl) (by kernel_rfl) (fun _ _ _ h => h) rfl rfl ⟨hB, h2, hb1, hb2, h3⟩ (fun w' h' => exec_load_seg 51 _ rfl B2 (9) rfl _ (rs[b]) _ 9 h'.2.2.2.1 Try.underlying51 rfl (by kernel_rfl) (by rw [hr.len]; omega) (segm rs[b] 9 9) rfl) ?_
          go_frame
          refine y_yield 23 (some 127) (.pointer (some ⟨w.heap.size, 2, none⟩)) rfl (by kernel_rfl) (by kernel_rfl) (by kernel_rfl) (fun _ _ _ h => h) rfl rfl ⟨hB, h2, hb1, hb2, h3⟩ (fun w' h' => exec_fieldAddr 39 _ 2 rfl _ (by kernel_rfl)) ?_
          go_frame
          refine y_yield 24 (some 128) (.int .i64 (m : Nat)) rfl (by kernel_rfl) (by kernel_rfl) (by kernel_rfl) (fun _ _ _ h => h) rfl rfl ⟨hB, h2, hb1, hb2, h3⟩ (fun w' h' => exec_load_one 2 _ rfl w.heap.size 2 rfl (.int .i64 (m : Nat)) _ Try.underlying2 rfl (h'.2.1.at_ 2)) ?_
          go_frame
          refine y_yield 25 (some 129) (.pointer (some ⟨w.heap.size, 3, none⟩)) rfl (by kernel_rfl) (by kernel_rfl) (by kernel_rfl) (fun _ _ _ h => h) rfl rfl ⟨hB, h2, hb1, hb2, h3⟩ (fun w' h' => exec_fieldAddr 39 _ 3 rfl _ (by kernel_rfl)) ?_
          go_frame
          refine y_yield 26 (some 130) (.int .i64 (k : Nat)) rfl (by kernel_rfl) (by kernel_rfl) (by kernel_rfl) (fun _ _ _ h => h) rfl rfl ⟨hB, h2, hb1, hb2, h3⟩ (fun w' h' => exec_load_one 2 _ rfl w.heap.size 3 rfl (.int .i64 (k : Nat)) _ Try.underlying2 rfl (h'.2.1.at_ 3)) ?_
          go_frame
          refine y_yield 27 (some 131) (.pointer (some ⟨Wz2.heap.size, 2, none⟩)) rfl (by kernel_rfl) (by kernel_rfl) (by kernel_rfl) (fun _ _ _ h => h) rfl rfl ⟨hB, h2, hb1, hb2, h3⟩ (fun w' h' => exec_fieldAddr 39 _ 2 rfl _ (by kernel_rfl)) ?_
          go_frame
          refine y_yield 28 (some 132) (.int .i64 (v : Nat)) rfl (by kernel_rfl) (by kernel_rfl) (by kernel_rfl) (fun _ _ _ h => h) rfl rfl ⟨hB, h2, hb1, hb2, h3⟩ (fun w' h' => exec_load_one 2 _ rfl Wz2.heap.size 2 rfl (.int .i64 (v : Nat)) _ Try.underlying2 rfl (h'.2.2.2.2.at_ 2)) ?_
          go_frame
          refine y_yield 29 (some 133) (.pointer (some ⟨Wz2.heap.size, 3, none⟩)) rfl (by kernel_rfl) (by kernel_rfl) (by kernel_rfl) (fun _ _ _ h => h) rfl rfl ⟨hB, h2, hb1, hb2, h3⟩ (fun w' h' => exec_fieldAddr 39 _ 3 rfl _ (by kernel_rfl)) ?_
          go_frame
          refine y_yield 30 (some 134) (.int .i64 (t : Nat)) rfl (by kernel_rfl) (by kernel_rfl) (by kernel_rfl) (fun _ _ _ h => h) rfl rfl ⟨hB, h2, hb1, hb2, h3⟩ (fun w' h' => exec_load_one 2 _ rfl Wz2.heap.size 3 rfl (.int .i64 (t : Nat)) _ Try.underlying2 rfl (h'.2.2.2.2.at_ 3)) ?_
          go_frame
          refine y_yield 32 (some 136) (.pointer (some ⟨w.heap.size, 0, none⟩)) rfl (by kernel_rfl) (by kernel_rfl) (by kernel_rfl) (fun _ _ _ h => h) rfl rfl ⟨hB, h2, hb1, hb2, h3⟩ (fun w' h' => exec_fieldAddr 39 _ 0 rfl _ (by kernel_rfl)) ?_
          go_frame
          refine y_yield 33 (some 137) (.int .i64 (P : Nat)) rfl (by kernel_rfl) (by kernel_rfl) (by kernel_rfl) (fun _ _ _ h => h) rfl rfl ⟨hB, h2, hb1, hb2, h3⟩ (fun w' h' => exec_load_one 2 _ rfl w.heap.size 0 rfl (.int .i64 (P : Nat)) _ Try.underlying2 rfl (h'.2.1.at_ 0)) ?_
          go_frame
          refine y_yield 34 (some 138) (.pointer (some ⟨B1, 18, none⟩)) rfl (by kernel_rfl) (by kernel_rfl) (by kernel_rfl) (fun _ _ _ h => h) rfl rfl ⟨hB, h2, hb1, hb2, h3⟩ (fun w' h' => exec_fieldAddr 53 _ 2 rfl _ (by kernel_rfl)) ?_
          go_frame
          refine y_yield 35 (some 139) (.agg (u8s (segm qs[a] 18 9))) rfl (by kernel_rfl) (by kernel_rfl) (by kernel_rfl) (fun _ _ _ h => h) rfl rfl ⟨hB, h2, hb1, hb2, h3⟩ (fun w' h' => exec_load_seg 51 _ rfl B1 (18) rfl _ (qs[a]) _ 9 h'.2.2.1 Try.underlying51 rfl (by kernel_rfl) (by rw [hq.len]; omega) (segm qs[a] 18 9) rfl) ?_
          go_frame
          refine y_yield 36 (some 140) (.pointer (some ⟨B2, 18, none⟩)) rfl (by kernel_rfl) (by kernel_rfl) (by kernel_rfl) (fun _ _ _ h => h) rfl rfl ⟨hB, h2, hb1, hb2, h3⟩ (fun w' h' => exec_fieldAddr 53 _ 2 rfl _ (by kernel_rfl)) ?_
          go_frame
          refine y_yield 37 (some 141) (.agg (u8s (segm rs[b] 18 9))) rfl (by kernel_rfl) (by kernel_rfl) (by kernel_rfl) (fun _ _ _ h => h) rfl rfl ⟨hB, h2, hb1, hb2, h3⟩ (fun w' h' => exec_load_seg 51 _ rfl B2 (18) rfl _ (rs[b]) _ 9 h'.2.2.2.1 Try.underlying51 rfl (by kernel_rfl) (by rw [hr.len]; omega) (segm rs[b] 18 9) rfl) ?_
          go_frame
          refine y_yield 38 (some 142) (.pointer (some ⟨w.heap.size, 1, none⟩)) rfl (by kernel_rfl) (by kernel_rfl) (by kernel_rfl) (fun _ _ _ h => h) rfl rfl ⟨hB, h2, hb1, hb2, h3⟩ (fun w' h' => exec_fieldAddr 39 _ 1 rfl _ (by kernel_rfl)) ?_
          go_frame
          refine y_yield 39 (some 143) (.int .i64 (n : Nat)) rfl (by kernel_rfl) (by kernel_rfl) (by kernel_rfl) (fun _ _ _ h => h) rfl rfl ⟨hB, h2, hb1, hb2, h3⟩ (fun w' h' => exec_load_one 2 _ rfl w.heap.size 1 rfl (.int .i64 (n : Nat)) _ Try.underlying2 rfl (h'.2.1.at_ 1)) ?_
          go_frame
          refine y_yield 40 (some 144) (.pointer (some ⟨w.heap.size, 3, none⟩)) rfl (by kernel_rfl) (by kernel_rfl) (by kernel_rfl) (fun _ _ _ h => h) rfl rfl ⟨hB, h2, hb1, hb2, h3⟩ (fun w' h' => exec_fieldAddr 39 _ 3 rfl _ (by kernel_rfl)) ?_
          go_frame
          refine y_yield 41 (some 145) (.int .i64 (k : Nat)) rfl (by kernel_rfl) (by kernel_rfl) (by kernel_rfl) (fun _ _ _ h => h) rfl rfl ⟨hB, h2, hb1, hb2, h3⟩ (fun w' h' => exec_load_one 2 _ rfl w.heap.size 3 rfl (.int .i64 (k : Nat)) _ Try.underlying2 rfl (h'.2.1.at_ 3)) ?_
          go_frame
          refine y_yield 42 (some 146) (.pointer (some ⟨Wz2.heap.size, 1, none⟩)) rfl (by kernel_rfl) (by kernel_rfl) (by kernel_rfl) (fun _ _ _ h => h) rfl rfl ⟨hB, h2, hb1, hb2, h3⟩ (fun w' h' => exec_fieldAddr 39 _ 1 rfl _ (by kernel_rfl)) ?_
          go_frame
          refine y_yield 43 (some 147) (.int .i64 (u : Nat)) rfl (by kernel_rfl) (by kernel_rfl) (by kernel_rfl) (fun _ _ _ h => h) rfl rfl ⟨hB, h2, hb1, hb2, h3⟩ (fun w' h' => exec_load_one 2 _ rfl Wz2.heap.size 1 rfl (.int .i64 (u : Nat)) _ Try.underlying2 rfl (h'.2.2.2.2.at_ 1)) ?_
          go_frame
          refine y_yield 44 (some 148) (.pointer (some ⟨Wz2.heap.size, 3, none⟩)) rfl (by kernel_rfl) (by kernel_rfl) (by kernel_rfl) (fun _ _ _ h => h) rfl rfl ⟨hB, h2, hb1, hb2, h3⟩ (fun w' h' => exec_fieldAddr 39 _ 3 rfl _ (by kernel_rfl)) ?_
          go_frame
          refine y_yield 45 (some 149) (.int .i64 (t : Nat)) rfl (by kernel_rfl) (by kernel_rfl) (by kernel_rfl) (fun _ _ _ h => h) rfl rfl ⟨hB, h2, hb1, hb2, h3⟩ (fun w' h' => exec_load_one 2 _ rfl Wz2.heap.size 3 rfl (.int .i64 (t : Nat)) _ Try.underlying2 rfl (h'.2.2.2.2.at_ 3)) ?_
          go_frame
          refine y_oper 16 (by kernel_rfl) rfl rfl (fun K' hK' => ?_)
          have lz95 := hB.size
          have lz96 := h2.lt
          have lz97 := h3.lt
          have lz98 := h4.lt
          have lz99 := h6.lt
          have lz100 := hb1.lt
          have lz101 := hb2.lt
          refine wp_call7m (some 120) rfl 37 _ _ _ _ _ _ _ _ rfl (fun args w => by kernel_rfl) _ _ _ _ _ _ _ rfl rfl rfl rfl rfl rfl rfl _ (l02Form_c P n m u v (segm qs[a] 0 9) (segm rs[b] 0 9) (segm_bytes hq (by omega)) (segm_bytes hr (by omega)) _ hP HK0.out) (fun e Wz93 h => ?_)
          obtain ⟨rfl, bz94⟩ := h
          replace hB := below_after hB bz94
          replace h2 := h2.after bz94
          replace h3 := h3.after bz94
          replace h4 := h4.after bz94
          replace h6 := h6.after bz94
          replace ho := ho.below bz94
          replace hb1 := hb1.after bz94
          replace hb2 := hb2.after bz94
          clear bz94
          refine ⟨_, rfl, ?_⟩
          refine hK' _ _ ⟨hB, h2, hb1, hb2, h3⟩ (fun _ => h6) ?_
          clear hK' K'
          go_frame
          refine y_oper 31 (by kernel_rfl) rfl rfl (fun K' hK' => ?_)
          have lz104 := hB.size
          have lz105 := h2.lt
          have lz106 := h3.lt
          have lz107 := h4.lt
          have lz108 := h6.lt
          have lz109 := hb1.lt
          have lz110 := hb2.lt
          refine wp_call7m (some 135) rfl 37 _ _ _ _ _ _ _ _ rfl (fun args w => by kernel_rfl) _ _ _ _ _ _ _ rfl rfl rfl rfl rfl rfl rfl _ (l02Form_c P m k v t (segm qs[a] 9 9) (segm rs[b] 9 9) (segm_bytes hq (by omega)) (segm_bytes hr (by omega)) _ hP HK9.out) (fun e Wz102 h => ?_)
          obtain ⟨rfl, bz103⟩ := h
          replace hB := below_after hB bz103
          replace h2 := h2.after bz103
          replace h3 := h3.after bz103
          replace h4 := h4.after bz103
          replace h6 := h6.after bz103
          replace ho := ho.below bz103
          replace hb1 := hb1.after bz103
          replace hb2 := hb2.after bz103
          clear bz103
          refine ⟨_, rfl, ?_⟩
          refine hK' _ _ ⟨hB, h2, hb1, hb2, h3⟩ (fun _ => h6) ?_
          clear hK' K'
          go_frame
          refine y_oper 46 (by kernel_rfl) rfl rfl (fun K' hK' => ?_)
          have lz113 := hB.size
          have lz114 := h2.lt
          have lz115 := h3.lt
          have lz116 := h4.lt
          have lz117 := h6.lt
          have lz118 := hb1.lt
          have lz119 := hb2.lt
          refine wp_call7m (some 150) rfl 37 _ _ _ _ _ _ _ _ rfl (fun args w => by kernel_rfl) _ _ _ _ _ _ _ rfl rfl rfl rfl rfl rfl rfl _ (l02Form_c P n k u t (segm qs[a] 18 9) (segm rs[b] 18 9) (segm_bytes hq (by omega)) (segm_bytes hr (by omega)) _ hP HK18.out) (fun e Wz111 h => ?_)
          obtain ⟨rfl, bz112⟩ := h
          replace hB := below_after hB bz112
          replace h2 := h2.after bz112
          replace h3 := h3.after bz112
          replace h4 := h4.after bz112
          replace h6 := h6.after bz112
          replace ho := ho.below bz112
          replace hb1 := hb1.after bz112
          replace hb2 := hb2.after bz112
          clear bz112
          refine ⟨_, rfl, ?_⟩
          refine hK' _ _ ⟨hB, h2, hb1, hb2, h3⟩ (fun _ => h6) ?_
          clear hK' K'
          go_frame
          refine y_yield 47 (some 151) (.agg (u8s (muQ P n m k u v t qs[a] rs[b]))) rfl (by kernel_rfl) (by kernel_rfl) (by kernel_rfl) (fun _ _ _ h => h) rfl rfl ⟨hB, h2, hb1, hb2, h3⟩ (fun w' h' => exec_prodC _ _ _ rfl (mulF P n m u v (segm qs[a] 0 9) (segm rs[b] 0 9)) (mulF P m k v t (segm qs[a] 9 9) (segm rs[b] 9 9)) (mulF P n k u t (segm qs[a] 18 9) (segm rs[b] 18 9)) rfl rfl rfl (mulF_len _ _ _ _ _ _ _) (mulF_len _ _ _ _ _ _ _) (mulF_len _ _ _ _ _ _ _)) ?_
          go_frame
          refine y_oper 48 (by kernel_rfl) rfl rfl (fun K' hK' => ?_)
          have lz120 := hB.size
          have lz121 := h2.lt
          have lz122 := h3.lt
          have lz123 := h4.lt
          have lz124 := h6.lt
          have lz125 := hb1.lt
          have lz126 := hb2.lt
          refine wp_slice1 (some 152) rfl 26 53 _ rfl (muQ P n m k u v t qs[a] rs[b]) rfl Try.underlying26 infoProd (muQ_len _ _ _ _ _ _ _ _ _) (fun Wz127 nnz128 => ?_)
          have bz129 := nnz128.below (Below.refl _ _) (Nat.le_refl _)
          replace hB := below_after hB bz129
          replace h2 := h2.after bz129
          replace h3 := h3.after bz129
          replace h4 := h4.after bz129
          replace h6 := h6.after bz129
          replace ho := ho.below bz129
          replace hb1 := hb1.after bz129
          replace hb2 := hb2.after bz129
          have hqz130 : At Wz127 Wz111.heap.size (.cells (u8s (muQ P n m k u v t qs[a] rs[b])) 53 (0, 0)) := nnz128.at_
          refine hK' _ _ ⟨hB, h2, hb1, hb2, h3⟩ (fun _ => h6) ?_
          clear hK' K' nnz128 bz129
          go_frame
          refine y_oper 49 (by kernel_rfl) rfl rfl (fun K' hK' => ?_)
          have lz134 := hB.size
          have lz135 := h2.lt
          have lz136 := h3.lt
          have lz137 := h4.lt
          have lz138 := h6.lt
          have lz139 := hb1.lt
          have lz140 := hb2.lt
          have lz141 := hqz130.lt
          refine wp_appP (some 153) rfl _ _ rfl (.slice A9 L9 c9) (muI P n m k u v t qs rs qs[a] a (b)) (muQ P n m k u v t qs[a] rs[b]) rfl ho Wz111.heap.size rfl hqz130 (muQ_len _ _ _ _ _ _ _ _ _) (by rw [HL9.out]; omega) (by omega) (fun v8 Wz131 noz133 grz132 => ?_)
          rw [HT.out] at noz133
          obtain ⟨A8, c8, rfl⟩ := Own.rdN2 noz133 (n := L9 + 1) HAS.out
          replace hB := below_grown hB grz132 ho (by omega)
          replace h2 := h2.grown grz132 (ho.off h2 (by decide))
          replace h3 := h3.grown grz132 (ho.off h3 (by decide))
          replace h4 := h4.grown grz132 (ho.off h4 (by decide))
          replace h6 := h6.grown grz132 (ho.off h6 (by decide))
          replace hb1 := hb1.grown grz132 na1
          replace hb2 := hb2.grown grz132 na2
          replace ho := noz133
          refine hK' _ _ ⟨hB, h2, hb1, hb2, h3⟩ (fun _ => h6) ?_
          clear hK' K' grz132 hqz130
          go_frame
          refine y_yield 50 (some 154) (.pointer (some ⟨Wz25.heap.size, 4, none⟩)) rfl (by kernel_rfl) (by kernel_rfl) (by kernel_rfl) (fun _ _ _ h => h) rfl rfl ⟨hB, h2, hb1, hb2, h3⟩ (fun w' h' => exec_fieldAddr 39 _ 4 rfl _ (by kernel_rfl)) ?_
          go_frame
          refine y_oper 51 (by kernel_rfl) rfl rfl (fun K' hK' => ?_)
          refine wp_store_one 26 _ _ rfl rfl Wz25.heap.size 4 rfl (.slice A8 (L9 + 1) c8) rfl rfl rfl _ _ h6 (by kernel_rfl) (by simp) (fun Wz142 pz143 => ?_)
          replace hB := pz143.below hB (by omega)
          replace h2 := pz143.other h2 (by omega)
          replace h3 := pz143.other h3 (by omega)
          replace h4 := pz143.other h4 (by omega)
          replace ho := ho.put pz143 (ho.off h6 (by decide))
          replace hb1 := pz143.other hb1 (by omega)
          replace hb2 := pz143.other hb2 (by omega)
          replace h6 : At Wz142 Wz25.heap.size (.cells #[.int .i64 (P : Nat), .int .i64 (N1 : Nat), .int .i64 (N2 : Nat), .int .i64 (N3 : Nat), .slice A8 (L9 + 1) c8] 39 (0, 0)) := pz143.at_
          refine hK' _ _ ⟨hB, h2, hb1, hb2, h3⟩ (fun h => absurd (by decide) h) ?_
          clear hK' K' pz143
          refine y_done (by kernel_rfl) ?_ _
          go_upto_region 13 with (fail)
          refine wp_region_lit ?_
          refine ls_ex (some 92) (.int .i64 b) rfl rfl (exec_move _ rfl (.int .i64 b) rfl) ?_
          go_frame
          refine ls_ex (some 93) (.int .i64 (b + 1)) rfl rfl (exec_add _ _ _ _ rfl b 1 (b + 1) rfl rfl (IntWalk.i64_in _ (by omega))) ?_
          go_frame
          refine ls_ex (some 8) (.int .i64 (b + 1)) rfl rfl (exec_assign _ rfl (.int .i64 (b + 1)) rfl) ?_
          go_frame
          refine wpList_nil ?_
          go_wp2_with fail
          go_roundw
          case rel => exact ⟨b + 1, _, by omega, by go_num, hB, h2, h3, h4, h6, ho⟩
          case measure => simp [intOf]; omega
        · obtain ⟨L9, hL9⟩ : ∃ z9, (muI P n m k u v t qs rs qs[a] a (b)).length = z9 := ⟨_, rfl⟩
          obtain ⟨A9, c9, rfl⟩ := Own.rdN2 ho hL9
          clear hL9
          have HF : Hid (muI P n m k u v t qs rs qs[a] a (b) = muO P n m k u v t qs rs (a + 1)) := Lib.hid (by rw [show b = rs.length by omega]; exact muI_all hlt)
          rw [HF.out] at ho
          go_upto_region 12 with (fail)
          refine wp_region_lit ?_
          refine ls_ex (some 87) (.int .i64 b) rfl rfl (exec_move _ rfl (.int .i64 b) rfl) ?_
          go_frame
          refine ls_ex (some 88) (.pointer (some ⟨Wz2.heap.size, 4, none⟩)) rfl rfl (exec_fieldAddr 39 _ 4 rfl _ (by kernel_rfl)) ?_
          go_frame
          refine ls_ex (some 89) (.slice B rs.length d) rfl rfl (exec_load_one 26 _ rfl Wz2.heap.size 4 rfl (.slice B rs.length d) _ Try.underlying26 rfl (h3.at_ 4)) ?_
          go_frame
          refine ls_ex (some 90) (.int .i64 rs.length) rfl rfl (exec_len _ 26 53 rfl B rs.length d rfl Try.underlying26) ?_
          go_frame
          refine ls_ex (some 91) (.bool false) rfl rfl (exec_lss _ _ _ _ rfl b rs.length rfl rfl false (decide_eq_false (by omega))) ?_
          go_frame
          refine wpList_nil ?_
          go_upto_region 10 with (fail)
          refine wp_region_lit ?_
          refine ls_ex (some 85) (.int .i64 a) rfl rfl (exec_move _ rfl (.int .i64 a) rfl) ?_
          go_frame
          refine ls_ex (some 86) (.int .i64 (a + 1)) rfl rfl (exec_add _ _ _ _ rfl a 1 (a + 1) rfl rfl (IntWalk.i64_in _ (by omega))) ?_
          go_frame
          refine ls_ex (some 7) (.int .i64 (a + 1)) rfl rfl (exec_assign _ rfl (.int .i64 (a + 1)) rfl) ?_
          go_frame
          refine wpList_nil ?_
          go_wp2_with fail
          go_roundw
          case rel => exact ⟨a + 1, _, by omega, by go_num, hB, h2, h3, h4, h6, ho⟩
          case measure => simp [intOf]; omega
    · obtain ⟨L9, hL9⟩ : ∃ z9, (muO P n m k u v t qs rs (a)).length = z9 := ⟨_, rfl⟩
      obtain ⟨A9, c9, rfl⟩ := Own.rdN2 ho hL9
      clear hL9
      rw [show a = qs.length by omega] at ho
      go_upto_region 9 with (fail)
      refine wp_region_lit ?_
      refine ls_ex (some 80) (.int .i64 a) rfl rfl (exec_move _ rfl (.int .i64 a) rfl) ?_
      go_frame
      refine ls_ex (some 81) (.pointer (some ⟨w.heap.size, 4, none⟩)) rfl rfl (exec_fieldAddr 39 _ 4 rfl _ (by kernel_rfl)) ?_
      go_frame
      refine ls_ex (some 82) (.slice A qs.length c) rfl rfl (exec_load_one 26 _ rfl w.heap.size 4 rfl (.slice A qs.length c) _ Try.underlying26 rfl (h2.at_ 4)) ?_
      go_frame
      refine ls_ex (some 83) (.int .i64 qs.length) rfl rfl (exec_len _ 26 53 rfl A qs.length c rfl Try.underlying26) ?_
      go_frame
      refine ls_ex (some 84) (.bool false) rfl rfl (exec_lss _ _ _ _ rfl a qs.length rfl rfl false (decide_eq_false (by omega))) ?_
      go_frame
      refine wpList_nil ?_
      go_upto_region 16 with (fail)
      refine wp_region_lit ?_
      refine ls_ex (some 155) (.agg #[.int .i64 (P : Nat), .int .i64 (N1 : Nat), .int .i64 (N2 : Nat), .int .i64 (N3 : Nat), .slice A9 L9 c9]) rfl rfl (exec_load_all 39 _ rfl Wz25.heap.size rfl _ _ _ h6 Try.underlying39 rfl 5 (by kernel_rfl) rfl) ?_
      go_frame
      refine ls_op rfl (fun K' hK' => ?_)
      refine wp_store_all 39 _ _ rfl rfl Wz8.heap.size rfl #[.int .i64 (P : Nat), .int .i64 (N1 : Nat), .int .i64 (N2 : Nat), .int .i64 (N3 : Nat), .slice A9 L9 c9] rfl _ _ h4 5 (by kernel_rfl) rfl rfl (one5 _ _ _ _ _ _ _) (fun Wz144 pz145 => ?_)
      replace hB := pz145.below hB (by omega)
      replace h2 := pz145.other h2 (by omega)
      replace h3 := pz145.other h3 (by omega)
      replace h6 := pz145.other h6 (by omega)
      replace ho := ho.put pz145 (ho.off h4 (by decide))
      replace h4 : At Wz144 Wz8.heap.size (.cells #[.int .i64 (P : Nat), .int .i64 (N1 : Nat), .int .i64 (N2 : Nat), .int .i64 (N3 : Nat), .slice A9 L9 c9] 39 (0, 0)) := pz145.at_
      refine hK' _ _ ?_
      clear hK' K' pz145
      refine ls_ex (some 5) (.int .i64 0) rfl rfl (exec_assign _ rfl (.int .i64 0) rfl) ?_
      go_frame
      refine wpList_nil ?_
      go_wp2_with fail
      refine bodyPost_ret (results_at2 rfl _ _ Wz8.heap.size _ _ _ rfl _ rfl h4 Try.underlying39 rfl 5 (by kernel_rfl) rfl) rfl ?_
      unfold ResS muZ muL
      rw [HC.out]
      exact ⟨_, rfl, ho.mono (by omega), hB⟩
end Go.Proofs.Ytopdfblfhdooaaa
