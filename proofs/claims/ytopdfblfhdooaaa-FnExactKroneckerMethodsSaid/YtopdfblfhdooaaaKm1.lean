/-
  spec.KroneckerMethods. (Made by mkkm1.py.)
-/
import Derived.Test.YtopdfblfhdooaaaK9f
import Derived.Test.YtopdfblfhdooaaaMfp
import Derived.Test.YtopdfblfhdooaaaMt3
import Derived.Test.YtopdfblfhdooaaaHeldT
namespace Go.Proofs.Ytopdfblfhdooaaa
open Go.RowKit
set_option maxRecDepth 100000
attribute [local irreducible] wpList
theorem cut_worldM {n : Nat} {w wx : World} (_ : Below n w wx) : ∃ x : World, x = wx := ⟨_, rfl⟩
theorem exec_max3k {P : Program} {o : Oper} {a : Act} {w : World} (x y z : Operand) (t : TypeId) (ho : o.op = .call { callee := .builtin .max, args := #[x, y, z], argTypes := #[t, t, t] }) (m0 m1 m2 : Int) (hx : a.eval x = .int .i64 m0) (hy : a.eval y = .int .i64 m1) (hz : a.eval z = .int .i64 m2) (r : Int)
    (hr : (if (if m0 < m1 then m1 else m0) < m2 then m2 else (if m0 < m1 then m1 else m0)) = r) : (execOp a.eval o).run P w = .ok (.value (.int .i64 r)) w := by
  subst hr
  unfold execOp
  simp only [ho, hx, hy, hz, resolve, invoke, builtin, Sem.run_bind, Sem.run_pure, Result.andThen_ok, List.map_toArray, List.map_cons, List.map_nil]
  simp [go_sem]
def kmCode (xp xn xm xk : Int) (qs : List (List Nat)) (yp yn ym yk : Int) (rs : List (List Nat)) : Int :=
  if (methB xp xn xm xk qs && methB yp yn ym yk rs) = true then (if xp = yp then (if xn * yn ≤ 9 ∧ xm * ym ≤ 9 ∧ xk * yk ≤ 9 ∧ qs.length * rs.length ≤ 30 then 0 else 3) else 2) else 1
/-- The product of two products of methods of the sides n, m, k and u, v, t. -/
def kmQ (P n m k u v t : Nat) (q r : List Nat) : List Nat := cat3 (mulF P 1 n 1 u (segm q 0 9) (segm r 0 9)) (mulF P 1 m 1 v (segm q 9 9) (segm r 9 9)) (mulF P 1 k 1 t (segm q 18 9) (segm r 18 9))
theorem kmQ_len (P n m k u v t : Nat) (q r : List Nat) : (kmQ P n m k u v t q r).length = 27 := by simp [kmQ, cat3, mulF_len]
def kmO (f : List Nat → List Nat → List Nat) (qs rs : List (List Nat)) (a : Nat) : List (List Nat) := (qs.take a).flatMap fun q => rs.map (f q)
def kmI (f : List Nat → List Nat → List Nat) (qs rs : List (List Nat)) (q : List Nat) (a b : Nat) : List (List Nat) := kmO f qs rs a ++ (rs.take b).map (f q)
def kmR (P n m k u v t : Int) (qs rs : List (List Nat)) : List (List Nat) := kmO (kmQ P.toNat n.toNat m.toNat k.toNat u.toNat v.toNat t.toNat) qs rs qs.length
section
variable {f : List Nat → List Nat → List Nat} {qs rs : List (List Nat)} {q : List Nat} {a b : Nat}
theorem kmI_zero : kmI f qs rs q a 0 = kmO f qs rs a := by simp [kmI]
theorem kmI_step (h : b < rs.length) : kmI f qs rs q a b ++ [f q rs[b]] = kmI f qs rs q a (b + 1) := by
  unfold kmI
  rw [List.append_assoc, List.take_succ_eq_append_getElem h, List.map_append]
  rfl
theorem kmI_all (h : a < qs.length) : kmI f qs rs qs[a] a rs.length = kmO f qs rs (a + 1) := by
  unfold kmI kmO
  rw [List.take_length, List.take_succ_eq_append_getElem h, List.flatMap_append]
  simp
theorem kmO_len (h : a ≤ qs.length) : (kmO f qs rs a).length = a * rs.length := by
  unfold kmO
  rw [List.length_flatMap]
  simp only [List.length_map, List.map_const', List.length_take, List.sum_replicate_nat]
  rw [Nat.min_eq_left h]
theorem kmI_len (ha : a ≤ qs.length) (hb : b ≤ rs.length) : (kmI f qs rs q a b).length = a * rs.length + b := by
  unfold kmI
  rw [List.length_append, List.length_map, List.length_take, kmO_len ha, Nat.min_eq_left hb]
end
theorem alX_impl_Method {o : Oper} {a : Act} {w : World} (ho : o.op = .alloc 28) : (execOp a.eval o).run Try.prog w = .ok (.value (.pointer (some ⟨w.heap.size, 0, none⟩))) (w.alloc (.cells #[.int .i64 0, .int .i64 0, .int .i64 0, .int .i64 0, .slice none 0 0] 28 (0, 0))) := by
  unfold execOp
  rw [ho]
  kernel_rfl
theorem alX_impl_Product {o : Oper} {a : Act} {w : World} (ho : o.op = .alloc 53) : (execOp a.eval o).run Try.prog w = .ok (.value (.pointer (some ⟨w.heap.size, 0, none⟩))) (w.alloc (.cells (u8s (List.replicate 27 0)) 53 (0, 0))) := by
  unfold execOp
  rw [ho]
  kernel_rfl
set_option maxHeartbeats 4000000 in
theorem specKm_a1 (xp xn xm xk : Int) (A : Option Addr) (c : Nat) (qs : List (List Nat)) (yp yn ym yk : Int) (B : Option Addr) (d : Nat) (rs : List (List Nat)) (w : World) (hR : Rd w A qs) (hlx : qs.length ≤ 1048576) (hS : Rd w B rs) (hly : rs.length ≤ 1048576) (hx : methB xp xn xm xk qs = false) :
    Calls Try.prog 7 #[.agg #[.int .i64 xp, .int .i64 xn, .int .i64 xm, .int .i64 xk, .slice A qs.length c], .agg #[.int .i64 yp, .int .i64 yn, .int .i64 ym, .int .i64 yk, .slice B rs.length d]] w (ResH w (hZ (kmCode xp xn xm xk qs yp yn ym yk rs) xp) (hZ (kmCode xp xn xm xk qs yp yn ym yk rs) (xn * yn)) (hZ (kmCode xp xn xm xk qs yp yn ym yk rs) (xm * ym)) (hZ (kmCode xp xn xm xk qs yp yn ym yk rs) (xk * yk)) (hL (kmCode xp xn xm xk qs yp yn ym yk rs) (kmR xp xn xm xk yn ym yk qs rs)) (kmCode xp xn xm xk qs yp yn ym yk rs)) := by
  have hB := Below.refl w.heap.size w
  have _u0 := hS
  have _u1 := hly
  clear _u0 _u1
  have HC : Hid (kmCode xp xn xm xk qs yp yn ym yk rs = 1) := Lib.hid (by unfold kmCode; rw [hx]; simp)
  have HX := Lib.hid hx
  clear hx
  go_enter Try.func7, Try.ntmps7
  go_upto_region 0 with (fail)
  refine wp_region_lit ?_
  refine ls_op rfl (fun K' hK' => ?_)
  have lz1 := hB.size
  refine wp_new (some 2) rfl (exec_box 28 _ rfl (#[.int .i64 xp, .int .i64 xn, .int .i64 xm, .int .i64 xk, .slice A qs.length c]) rfl) (fun Wz2 nnz3 => ?_)
  have bz4 := nnz3.below (Below.refl _ _) (Nat.le_refl _)
  replace hB := below_after hB bz4
  have hz5 : At Wz2 w.heap.size (.cells #[.int .i64 xp, .int .i64 xn, .int .i64 xm, .int .i64 xk, .slice A qs.length c] 28 (0, 0)) := nnz3.at_
  refine hK' _ _ ?_
  clear hK' K' nnz3 bz4
  go_frame
  refine ls_op rfl (fun K' hK' => ?_)
  have lz6 := hB.size
  have lz7 := hz5.lt
  refine wp_new (some 3) rfl (exec_box 28 _ rfl (#[.int .i64 yp, .int .i64 yn, .int .i64 ym, .int .i64 yk, .slice B rs.length d]) rfl) (fun Wz8 nnz9 => ?_)
  have bz10 := nnz9.below (Below.refl _ _) (Nat.le_refl _)
  replace hB := below_after hB bz10
  replace hz5 := hz5.after bz10
  have hz11 : At Wz8 Wz2.heap.size (.cells #[.int .i64 yp, .int .i64 yn, .int .i64 ym, .int .i64 yk, .slice B rs.length d] 28 (0, 0)) := nnz9.at_
  refine hK' _ _ ?_
  clear hK' K' nnz9 bz10
  go_frame
  refine ls_op rfl (fun K' hK' => ?_)
  have lz12 := hB.size
  have lz13 := hz5.lt
  have lz14 := hz11.lt
  refine wp_new (some 4) rfl (alX_impl_Method rfl) (fun Wz15 nnz16 => ?_)
  have bz17 := nnz16.below (Below.refl _ _) (Nat.le_refl _)
  replace hB := below_after hB bz17
  replace hz5 := hz5.after bz17
  replace hz11 := hz11.after bz17
  have hz18 : At Wz15 Wz8.heap.size (.cells #[.int .i64 0, .int .i64 0, .int .i64 0, .int .i64 0, .slice none 0 0] 28 (0, 0)) := nnz16.at_
  refine hK' _ _ ?_
  clear hK' K' nnz16 bz17
  go_frame
  refine ls_ex (some 5) (.int .i64 0) rfl rfl (exec_assign _ rfl (.int .i64 0) rfl) ?_
  go_frame
  refine wpList_nil ?_
  go_upto_region 1 with (fail)
  refine wp_region_lit ?_
  refine ls_ex (some 12) (.agg #[.int .i64 xp, .int .i64 xn, .int .i64 xm, .int .i64 xk, .slice A qs.length c]) rfl rfl (exec_load_all 28 _ rfl w.heap.size rfl _ _ _ hz5 Try.underlying28 rfl 5 (by kernel_rfl) rfl) ?_
  go_frame
  refine ls_op rfl (fun K' hK' => ?_)
  have lz21 := hB.size
  have lz22 := hz5.lt
  have lz23 := hz11.lt
  have lz24 := hz18.lt
  refine wp_call1 (some 13) rfl 23 _ _ rfl (fun args w => by kernel_rfl) _ rfl _ (l09Is_c xp xn xm xk A c qs _ (hR.keep hB) hlx) (fun e Wz19 h => ?_)
  obtain ⟨rfl, bz20⟩ := h
  replace hB := below_after hB bz20
  replace hz5 := hz5.after bz20
  replace hz11 := hz11.after bz20
  replace hz18 := hz18.after bz20
  rw [HX.out]
  clear bz20
  refine ⟨_, rfl, ?_⟩
  refine hK' _ _ ?_
  clear hK' K'
  go_frame
  refine ls_ex (some 14) (.bool true) rfl rfl (exec_not _ _ rfl false rfl) ?_
  go_frame
  refine ls_ex (some 15) (.bool true) rfl rfl (exec_move _ rfl (.bool true) rfl) ?_
  go_frame
  refine ls_skip_g (some 16) rfl rfl ?_
  go_frame
  refine ls_skip_g (some 17) rfl rfl ?_
  go_frame
  refine ls_skip_g (some 18) rfl rfl ?_
  go_frame
  refine ls_ex (some 19) (.bool true) rfl rfl (exec_pick _ _ _ rfl true rfl (.bool true) rfl) ?_
  go_frame
  refine ls_ex (some 11) (.bool true) rfl rfl (exec_assign _ rfl (.bool true) rfl) ?_
  go_frame
  refine wpList_nil ?_
  go_upto_region 2 with (fail)
  refine wp_region_lit ?_
  refine ls_ex (some 20) (.agg #[.int .i64 0, .int .i64 0, .int .i64 0, .int .i64 0, .slice none 0 0]) rfl rfl (exec_build_nil 28 rfl _ (by kernel_rfl)) ?_
  go_frame
  refine ls_op rfl (fun K' hK' => ?_)
  refine wp_store_all 28 _ _ rfl rfl Wz8.heap.size rfl #[.int .i64 0, .int .i64 0, .int .i64 0, .int .i64 0, .slice none 0 0] rfl _ _ hz18 5 (by kernel_rfl) rfl rfl (one5 _ _ _ _ _ _ _) (fun Wz25 pz26 => ?_)
  replace hB := pz26.below hB (by omega)
  replace hz5 := pz26.other hz5 (by omega)
  replace hz11 := pz26.other hz11 (by omega)
  replace hz18 : At Wz25 Wz8.heap.size (.cells #[.int .i64 0, .int .i64 0, .int .i64 0, .int .i64 0, .slice none 0 0] 28 (0, 0)) := pz26.at_
  refine hK' _ _ ?_
  clear hK' K' pz26
  refine ls_ex (some 5) (.int .i64 1) rfl rfl (exec_assign _ rfl (.int .i64 1) rfl) ?_
  go_frame
  refine wpList_nil ?_
  go_wp2_with fail
  refine bodyPost_ret (results_at2 rfl _ _ Wz8.heap.size _ _ _ rfl _ rfl hz18 Try.underlying28 rfl 5 (by kernel_rfl) rfl) rfl ?_
  unfold ResH hZ hL
  rw [HC.out]
  exact ⟨_, rfl, Own.nil _ _, hB⟩
set_option maxHeartbeats 4000000 in
theorem specKm_a2 (xp xn xm xk : Int) (A : Option Addr) (c : Nat) (qs : List (List Nat)) (yp yn ym yk : Int) (B : Option Addr) (d : Nat) (rs : List (List Nat)) (w : World) (hR : Rd w A qs) (hlx : qs.length ≤ 1048576) (hS : Rd w B rs) (hly : rs.length ≤ 1048576) (hx : methB xp xn xm xk qs = true) (hy : methB yp yn ym yk rs = false) :
    Calls Try.prog 7 #[.agg #[.int .i64 xp, .int .i64 xn, .int .i64 xm, .int .i64 xk, .slice A qs.length c], .agg #[.int .i64 yp, .int .i64 yn, .int .i64 ym, .int .i64 yk, .slice B rs.length d]] w (ResH w (hZ (kmCode xp xn xm xk qs yp yn ym yk rs) xp) (hZ (kmCode xp xn xm xk qs yp yn ym yk rs) (xn * yn)) (hZ (kmCode xp xn xm xk qs yp yn ym yk rs) (xm * ym)) (hZ (kmCode xp xn xm xk qs yp yn ym yk rs) (xk * yk)) (hL (kmCode xp xn xm xk qs yp yn ym yk rs) (kmR xp xn xm xk yn ym yk qs rs)) (kmCode xp xn xm xk qs yp yn ym yk rs)) := by
  have hB := Below.refl w.heap.size w
  have HC : Hid (kmCode xp xn xm xk qs yp yn ym yk rs = 1) := Lib.hid (by unfold kmCode; rw [hx, hy]; simp)
  have HX := Lib.hid hx
  have HY := Lib.hid hy
  clear hx hy
  go_enter Try.func7, Try.ntmps7
  go_upto_region 0 with (fail)
  refine wp_region_lit ?_
  refine ls_op rfl (fun K' hK' => ?_)
  have lz1 := hB.size
  refine wp_new (some 2) rfl (exec_box 28 _ rfl (#[.int .i64 xp, .int .i64 xn, .int .i64 xm, .int .i64 xk, .slice A qs.length c]) rfl) (fun Wz2 nnz3 => ?_)
  have bz4 := nnz3.below (Below.refl _ _) (Nat.le_refl _)
  replace hB := below_after hB bz4
  have hz5 : At Wz2 w.heap.size (.cells #[.int .i64 xp, .int .i64 xn, .int .i64 xm, .int .i64 xk, .slice A qs.length c] 28 (0, 0)) := nnz3.at_
  refine hK' _ _ ?_
  clear hK' K' nnz3 bz4
  go_frame
  refine ls_op rfl (fun K' hK' => ?_)
  have lz6 := hB.size
  have lz7 := hz5.lt
  refine wp_new (some 3) rfl (exec_box 28 _ rfl (#[.int .i64 yp, .int .i64 yn, .int .i64 ym, .int .i64 yk, .slice B rs.length d]) rfl) (fun Wz8 nnz9 => ?_)
  have bz10 := nnz9.below (Below.refl _ _) (Nat.le_refl _)
  replace hB := below_after hB bz10
  replace hz5 := hz5.after bz10
  have hz11 : At Wz8 Wz2.heap.size (.cells #[.int .i64 yp, .int .i64 yn, .int .i64 ym, .int .i64 yk, .slice B rs.length d] 28 (0, 0)) := nnz9.at_
  refine hK' _ _ ?_
  clear hK' K' nnz9 bz10
  go_frame
  refine ls_op rfl (fun K' hK' => ?_)
  have lz12 := hB.size
  have lz13 := hz5.lt
  have lz14 := hz11.lt
  refine wp_new (some 4) rfl (alX_impl_Method rfl) (fun Wz15 nnz16 => ?_)
  have bz17 := nnz16.below (Below.refl _ _) (Nat.le_refl _)
  replace hB := below_after hB bz17
  replace hz5 := hz5.after bz17
  replace hz11 := hz11.after bz17
  have hz18 : At Wz15 Wz8.heap.size (.cells #[.int .i64 0, .int .i64 0, .int .i64 0, .int .i64 0, .slice none 0 0] 28 (0, 0)) := nnz16.at_
  refine hK' _ _ ?_
  clear hK' K' nnz16 bz17
  go_frame
  refine ls_ex (some 5) (.int .i64 0) rfl rfl (exec_assign _ rfl (.int .i64 0) rfl) ?_
  go_frame
  refine wpList_nil ?_
  go_upto_region 1 with (fail)
  refine wp_region_lit ?_
  refine ls_ex (some 12) (.agg #[.int .i64 xp, .int .i64 xn, .int .i64 xm, .int .i64 xk, .slice A qs.length c]) rfl rfl (exec_load_all 28 _ rfl w.heap.size rfl _ _ _ hz5 Try.underlying28 rfl 5 (by kernel_rfl) rfl) ?_
  go_frame
  refine ls_op rfl (fun K' hK' => ?_)
  have lz21 := hB.size
  have lz22 := hz5.lt
  have lz23 := hz11.lt
  have lz24 := hz18.lt
  refine wp_call1 (some 13) rfl 23 _ _ rfl (fun args w => by kernel_rfl) _ rfl _ (l09Is_c xp xn xm xk A c qs _ (hR.keep hB) hlx) (fun e Wz19 h => ?_)
  obtain ⟨rfl, bz20⟩ := h
  replace hB := below_after hB bz20
  replace hz5 := hz5.after bz20
  replace hz11 := hz11.after bz20
  replace hz18 := hz18.after bz20
  rw [HX.out]
  clear bz20
  refine ⟨_, rfl, ?_⟩
  refine hK' _ _ ?_
  clear hK' K'
  go_frame
  refine ls_ex (some 14) (.bool false) rfl rfl (exec_not _ _ rfl true rfl) ?_
  go_frame
  refine ls_ex (some 15) (.bool false) rfl rfl (exec_move _ rfl (.bool false) rfl) ?_
  go_frame
  refine ls_ex_g (some 16) (.agg #[.int .i64 yp, .int .i64 yn, .int .i64 ym, .int .i64 yk, .slice B rs.length d]) rfl rfl (exec_load_all 28 _ rfl Wz2.heap.size rfl _ _ _ hz11 Try.underlying28 rfl 5 (by kernel_rfl) rfl) ?_
  go_frame
  refine ls_op_g rfl (fun K' hK' => ?_)
  have lz27 := hB.size
  have lz28 := hz5.lt
  have lz29 := hz11.lt
  have lz30 := hz18.lt
  refine wp_call1 (some 17) rfl 23 _ _ rfl (fun args w => by kernel_rfl) _ rfl _ (l09Is_c yp yn ym yk B d rs _ (hS.keep hB) hly) (fun e Wz25 h => ?_)
  obtain ⟨rfl, bz26⟩ := h
  replace hB := below_after hB bz26
  replace hz5 := hz5.after bz26
  replace hz11 := hz11.after bz26
  replace hz18 := hz18.after bz26
  rw [HY.out]
  clear bz26
  refine ⟨_, rfl, ?_⟩
  refine hK' _ _ ?_
  clear hK' K'
  go_frame
  refine ls_ex_g (some 18) (.bool true) rfl rfl (exec_not _ _ rfl false rfl) ?_
  go_frame
  refine ls_ex (some 19) (.bool true) rfl rfl (exec_pick _ _ _ rfl false rfl (.bool true) rfl) ?_
  go_frame
  refine ls_ex (some 11) (.bool true) rfl rfl (exec_assign _ rfl (.bool true) rfl) ?_
  go_frame
  refine wpList_nil ?_
  go_upto_region 2 with (fail)
  refine wp_region_lit ?_
  refine ls_ex (some 20) (.agg #[.int .i64 0, .int .i64 0, .int .i64 0, .int .i64 0, .slice none 0 0]) rfl rfl (exec_build_nil 28 rfl _ (by kernel_rfl)) ?_
  go_frame
  refine ls_op rfl (fun K' hK' => ?_)
  refine wp_store_all 28 _ _ rfl rfl Wz8.heap.size rfl #[.int .i64 0, .int .i64 0, .int .i64 0, .int .i64 0, .slice none 0 0] rfl _ _ hz18 5 (by kernel_rfl) rfl rfl (one5 _ _ _ _ _ _ _) (fun Wz31 pz32 => ?_)
  replace hB := pz32.below hB (by omega)
  replace hz5 := pz32.other hz5 (by omega)
  replace hz11 := pz32.other hz11 (by omega)
  replace hz18 : At Wz31 Wz8.heap.size (.cells #[.int .i64 0, .int .i64 0, .int .i64 0, .int .i64 0, .slice none 0 0] 28 (0, 0)) := pz32.at_
  refine hK' _ _ ?_
  clear hK' K' pz32
  refine ls_ex (some 5) (.int .i64 1) rfl rfl (exec_assign _ rfl (.int .i64 1) rfl) ?_
  go_frame
  refine wpList_nil ?_
  go_wp2_with fail
  refine bodyPost_ret (results_at2 rfl _ _ Wz8.heap.size _ _ _ rfl _ rfl hz18 Try.underlying28 rfl 5 (by kernel_rfl) rfl) rfl ?_
  unfold ResH hZ hL
  rw [HC.out]
  exact ⟨_, rfl, Own.nil _ _, hB⟩
set_option maxHeartbeats 4000000 in
theorem specKm_b (xp xn xm xk : Int) (A : Option Addr) (c : Nat) (qs : List (List Nat)) (yp yn ym yk : Int) (B : Option Addr) (d : Nat) (rs : List (List Nat)) (w : World) (hR : Rd w A qs) (hlx : qs.length ≤ 1048576) (hS : Rd w B rs) (hly : rs.length ≤ 1048576) (hx : methB xp xn xm xk qs = true) (hy : methB yp yn ym yk rs = true) (hp : xp ≠ yp) :
    Calls Try.prog 7 #[.agg #[.int .i64 xp, .int .i64 xn, .int .i64 xm, .int .i64 xk, .slice A qs.length c], .agg #[.int .i64 yp, .int .i64 yn, .int .i64 ym, .int .i64 yk, .slice B rs.length d]] w (ResH w (hZ (kmCode xp xn xm xk qs yp yn ym yk rs) xp) (hZ (kmCode xp xn xm xk qs yp yn ym yk rs) (xn * yn)) (hZ (kmCode xp xn xm xk qs yp yn ym yk rs) (xm * ym)) (hZ (kmCode xp xn xm xk qs yp yn ym yk rs) (xk * yk)) (hL (kmCode xp xn xm xk qs yp yn ym yk rs) (kmR xp xn xm xk yn ym yk qs rs)) (kmCode xp xn xm xk qs yp yn ym yk rs)) := by
  have hB := Below.refl w.heap.size w
  have HC : Hid (kmCode xp xn xm xk qs yp yn ym yk rs = 2) := Lib.hid (by unfold kmCode; rw [hx, hy]; simp [hp])
  have HX := Lib.hid hx
  have HY := Lib.hid hy
  have HP : Hid ((xp != yp) = true) := Lib.hid (by simp [hp])
  clear hx hy hp
  go_enter Try.func7, Try.ntmps7
  go_upto_region 0 with (fail)
  refine wp_region_lit ?_
  refine ls_op rfl (fun K' hK' => ?_)
  have lz1 := hB.size
  refine wp_new (some 2) rfl (exec_box 28 _ rfl (#[.int .i64 xp, .int .i64 xn, .int .i64 xm, .int .i64 xk, .slice A qs.length c]) rfl) (fun Wz2 nnz3 => ?_)
  have bz4 := nnz3.below (Below.refl _ _) (Nat.le_refl _)
  replace hB := below_after hB bz4
  have hz5 : At Wz2 w.heap.size (.cells #[.int .i64 xp, .int .i64 xn, .int .i64 xm, .int .i64 xk, .slice A qs.length c] 28 (0, 0)) := nnz3.at_
  refine hK' _ _ ?_
  clear hK' K' nnz3 bz4
  go_frame
  refine ls_op rfl (fun K' hK' => ?_)
  have lz6 := hB.size
  have lz7 := hz5.lt
  refine wp_new (some 3) rfl (exec_box 28 _ rfl (#[.int .i64 yp, .int .i64 yn, .int .i64 ym, .int .i64 yk, .slice B rs.length d]) rfl) (fun Wz8 nnz9 => ?_)
  have bz10 := nnz9.below (Below.refl _ _) (Nat.le_refl _)
  replace hB := below_after hB bz10
  replace hz5 := hz5.after bz10
  have hz11 : At Wz8 Wz2.heap.size (.cells #[.int .i64 yp, .int .i64 yn, .int .i64 ym, .int .i64 yk, .slice B rs.length d] 28 (0, 0)) := nnz9.at_
  refine hK' _ _ ?_
  clear hK' K' nnz9 bz10
  go_frame
  refine ls_op rfl (fun K' hK' => ?_)
  have lz12 := hB.size
  have lz13 := hz5.lt
  have lz14 := hz11.lt
  refine wp_new (some 4) rfl (alX_impl_Method rfl) (fun Wz15 nnz16 => ?_)
  have bz17 := nnz16.below (Below.refl _ _) (Nat.le_refl _)
  replace hB := below_after hB bz17
  replace hz5 := hz5.after bz17
  replace hz11 := hz11.after bz17
  have hz18 : At Wz15 Wz8.heap.size (.cells #[.int .i64 0, .int .i64 0, .int .i64 0, .int .i64 0, .slice none 0 0] 28 (0, 0)) := nnz16.at_
  refine hK' _ _ ?_
  clear hK' K' nnz16 bz17
  go_frame
  refine ls_ex (some 5) (.int .i64 0) rfl rfl (exec_assign _ rfl (.int .i64 0) rfl) ?_
  go_frame
  refine wpList_nil ?_
  go_upto_region 1 with (fail)
  refine wp_region_lit ?_
  refine ls_ex (some 12) (.agg #[.int .i64 xp, .int .i64 xn, .int .i64 xm, .int .i64 xk, .slice A qs.length c]) rfl rfl (exec_load_all 28 _ rfl w.heap.size rfl _ _ _ hz5 Try.underlying28 rfl 5 (by kernel_rfl) rfl) ?_
  go_frame
  refine ls_op rfl (fun K' hK' => ?_)
  have lz21 := hB.size
  have lz22 := hz5.lt
  have lz23 := hz11.lt
  have lz24 := hz18.lt
  refine wp_call1 (some 13) rfl 23 _ _ rfl (fun args w => by kernel_rfl) _ rfl _ (l09Is_c xp xn xm xk A c qs _ (hR.keep hB) hlx) (fun e Wz19 h => ?_)
  obtain ⟨rfl, bz20⟩ := h
  replace hB := below_after hB bz20
  replace hz5 := hz5.after bz20
  replace hz11 := hz11.after bz20
  replace hz18 := hz18.after bz20
  rw [HX.out]
  clear bz20
  refine ⟨_, rfl, ?_⟩
  refine hK' _ _ ?_
  clear hK' K'
  go_frame
  refine ls_ex (some 14) (.bool false) rfl rfl (exec_not _ _ rfl true rfl) ?_
  go_frame
  refine ls_ex (some 15) (.bool false) rfl rfl (exec_move _ rfl (.bool false) rfl) ?_
  go_frame
  refine ls_ex_g (some 16) (.agg #[.int .i64 yp, .int .i64 yn, .int .i64 ym, .int .i64 yk, .slice B rs.length d]) rfl rfl (exec_load_all 28 _ rfl Wz2.heap.size rfl _ _ _ hz11 Try.underlying28 rfl 5 (by kernel_rfl) rfl) ?_
  go_frame
  refine ls_op_g rfl (fun K' hK' => ?_)
  have lz27 := hB.size
  have lz28 := hz5.lt
  have lz29 := hz11.lt
  have lz30 := hz18.lt
  refine wp_call1 (some 17) rfl 23 _ _ rfl (fun args w => by kernel_rfl) _ rfl _ (l09Is_c yp yn ym yk B d rs _ (hS.keep hB) hly) (fun e Wz25 h => ?_)
  obtain ⟨rfl, bz26⟩ := h
  replace hB := below_after hB bz26
  replace hz5 := hz5.after bz26
  replace hz11 := hz11.after bz26
  replace hz18 := hz18.after bz26
  rw [HY.out]
  clear bz26
  refine ⟨_, rfl, ?_⟩
  refine hK' _ _ ?_
  clear hK' K'
  go_frame
  refine ls_ex_g (some 18) (.bool false) rfl rfl (exec_not _ _ rfl true rfl) ?_
  go_frame
  refine ls_ex (some 19) (.bool false) rfl rfl (exec_pick _ _ _ rfl false rfl (.bool false) rfl) ?_
  go_frame
  refine ls_ex (some 11) (.bool false) rfl rfl (exec_assign _ rfl (.bool false) rfl) ?_
  go_frame
  refine wpList_nil ?_
  go_upto_region 3 with (fail)
  refine wp_region_lit ?_
  refine ls_ex (some 22) (.pointer (some ⟨w.heap.size, 0, none⟩)) rfl rfl (exec_fieldAddr 28 _ 0 rfl _ (by kernel_rfl)) ?_
  go_frame
  refine ls_ex (some 23) (.int .i64 xp) rfl rfl (exec_load_one 2 _ rfl w.heap.size 0 rfl (.int .i64 xp) _ Try.underlying2 rfl (hz5.at_ 0)) ?_
  go_frame
  refine ls_ex (some 24) (.pointer (some ⟨Wz2.heap.size, 0, none⟩)) rfl rfl (exec_fieldAddr 28 _ 0 rfl _ (by kernel_rfl)) ?_
  go_frame
  refine ls_ex (some 25) (.int .i64 yp) rfl rfl (exec_load_one 2 _ rfl Wz2.heap.size 0 rfl (.int .i64 yp) _ Try.underlying2 rfl (hz11.at_ 0)) ?_
  go_frame
  refine ls_ex (some 26) (.bool true) rfl rfl (exec_neq _ _ _ _ rfl xp yp rfl rfl true HP.out) ?_
  go_frame
  refine ls_ex (some 21) (.bool true) rfl rfl (exec_assign _ rfl (.bool true) rfl) ?_
  go_frame
  refine wpList_nil ?_
  go_upto_region 4 with (fail)
  refine wp_region_lit ?_
  refine ls_ex (some 27) (.agg #[.int .i64 0, .int .i64 0, .int .i64 0, .int .i64 0, .slice none 0 0]) rfl rfl (exec_build_nil 28 rfl _ (by kernel_rfl)) ?_
  go_frame
  refine ls_op rfl (fun K' hK' => ?_)
  refine wp_store_all 28 _ _ rfl rfl Wz8.heap.size rfl #[.int .i64 0, .int .i64 0, .int .i64 0, .int .i64 0, .slice none 0 0] rfl _ _ hz18 5 (by kernel_rfl) rfl rfl (one5 _ _ _ _ _ _ _) (fun Wz31 pz32 => ?_)
  replace hB := pz32.below hB (by omega)
  replace hz5 := pz32.other hz5 (by omega)
  replace hz11 := pz32.other hz11 (by omega)
  replace hz18 : At Wz31 Wz8.heap.size (.cells #[.int .i64 0, .int .i64 0, .int .i64 0, .int .i64 0, .slice none 0 0] 28 (0, 0)) := pz32.at_
  refine hK' _ _ ?_
  clear hK' K' pz32
  refine ls_ex (some 5) (.int .i64 2) rfl rfl (exec_assign _ rfl (.int .i64 2) rfl) ?_
  go_frame
  refine wpList_nil ?_
  go_wp2_with fail
  refine bodyPost_ret (results_at2 rfl _ _ Wz8.heap.size _ _ _ rfl _ rfl hz18 Try.underlying28 rfl 5 (by kernel_rfl) rfl) rfl ?_
  unfold ResH hZ hL
  rw [HC.out]
  exact ⟨_, rfl, Own.nil _ _, hB⟩
set_option maxHeartbeats 6400000 in
theorem specKm_c (P n m k : Nat) (A : Option Addr) (c : Nat) (qs : List (List Nat)) (u v t : Nat) (B : Option Addr) (d : Nat) (rs : List (List Nat)) (w : World) (hR : Rd w A qs) (hlx : qs.length ≤ 1048576) (hS : Rd w B rs) (hly : rs.length ≤ 1048576) (hx : methB P n m k qs = true) (hy : methB P u v t rs = true) (hc : ¬ (n * u ≤ 9 ∧ m * v ≤ 9 ∧ k * t ≤ 9)) :
    Calls Try.prog 7 #[.agg #[.int .i64 (P : Nat), .int .i64 (n : Nat), .int .i64 (m : Nat), .int .i64 (k : Nat), .slice A qs.length c], .agg #[.int .i64 (P : Nat), .int .i64 (u : Nat), .int .i64 (v : Nat), .int .i64 (t : Nat), .slice B rs.length d]] w (ResH w (hZ (kmCode P n m k qs P u v t rs) P) (hZ (kmCode P n m k qs P u v t rs) (n * u)) (hZ (kmCode P n m k qs P u v t rs) (m * v)) (hZ (kmCode P n m k qs P u v t rs) (k * t)) (hL (kmCode P n m k qs P u v t rs) (kmR P n m k u v t qs rs)) (kmCode P n m k qs P u v t rs)) := by
  have hB := Below.refl w.heap.size w
  obtain ⟨s0, s1, s2, s3, hl30, _⟩ := methB_parts hx
  obtain ⟨_, t1, t2, t3, hs30, _⟩ := methB_parts hy
  have hP : 2 ≤ P ∧ P ≤ 5 := by have := prime_le5 s0; omega
  have b1 : 1 ≤ n ∧ n ≤ 9 := by simp only [sideB, Bool.and_eq_true, decide_eq_true_eq] at s1; omega
  have b2 : 1 ≤ m ∧ m ≤ 9 := by simp only [sideB, Bool.and_eq_true, decide_eq_true_eq] at s2; omega
  have b3 : 1 ≤ k ∧ k ≤ 9 := by simp only [sideB, Bool.and_eq_true, decide_eq_true_eq] at s3; omega
  have b4 : 1 ≤ u ∧ u ≤ 9 := by simp only [sideB, Bool.and_eq_true, decide_eq_true_eq] at t1; omega
  have b5 : 1 ≤ v ∧ v ≤ 9 := by simp only [sideB, Bool.and_eq_true, decide_eq_true_eq] at t2; omega
  have b6 : 1 ≤ t ∧ t ≤ 9 := by simp only [sideB, Bool.and_eq_true, decide_eq_true_eq] at t3; omega
  obtain ⟨N1, hN1⟩ : ∃ N, n * u = N := ⟨_, rfl⟩
  obtain ⟨N2, hN2⟩ : ∃ N, m * v = N := ⟨_, rfl⟩
  obtain ⟨N3, hN3⟩ : ∃ N, k * t = N := ⟨_, rfl⟩
  obtain ⟨LL, hLL⟩ : ∃ N, qs.length * rs.length = N := ⟨_, rfl⟩
  have c1 : N1 ≤ 9 * 9 := by rw [← hN1]; exact Nat.mul_le_mul b1.2 b4.2
  have c2 : N2 ≤ 9 * 9 := by rw [← hN2]; exact Nat.mul_le_mul b2.2 b5.2
  have c3 : N3 ≤ 9 * 9 := by rw [← hN3]; exact Nat.mul_le_mul b3.2 b6.2
  have c4 : LL ≤ 30 * 30 := by rw [← hLL]; exact Nat.mul_le_mul hl30 hs30
  have e1 : (n : Int) * (u : Int) = (N1 : Int) := by rw [← hN1]; simp
  have e2 : (m : Int) * (v : Int) = (N2 : Int) := by rw [← hN2]; simp
  have e3 : (k : Int) * (t : Int) = (N3 : Int) := by rw [← hN3]; simp
  have e4 : (qs.length : Int) * (rs.length : Int) = (LL : Int) := by rw [← hLL]; simp
  have HN1 : Hid (IntKind.i64.wrap ((n : Int) * (u : Int)) = (N1 : Int)) := Lib.hid (by rw [e1]; exact IntWalk.i64_in _ (by omega))
  have HN2 : Hid (IntKind.i64.wrap ((m : Int) * (v : Int)) = (N2 : Int)) := Lib.hid (by rw [e2]; exact IntWalk.i64_in _ (by omega))
  have HN3 : Hid (IntKind.i64.wrap ((k : Int) * (t : Int)) = (N3 : Int)) := Lib.hid (by rw [e3]; exact IntWalk.i64_in _ (by omega))
  have HLL : Hid (IntKind.i64.wrap ((qs.length : Int) * (rs.length : Int)) = (LL : Int)) := Lib.hid (by rw [e4]; exact IntWalk.i64_in _ (by omega))
  have HX := Lib.hid hx
  have HY := Lib.hid hy
  rw [hN1, hN2, hN3] at hc
  have HC : Hid (kmCode P n m k qs P u v t rs = 3) := Lib.hid (by unfold kmCode; rw [hx, hy, e1, e2, e3, hLL]; simp; omega)
  obtain ⟨MX, hMX⟩ : ∃ MX : Int, (if (if (N1 : Int) < (N2 : Int) then (N2 : Int) else (N1 : Int)) < (N3 : Int) then (N3 : Int) else (if (N1 : Int) < (N2 : Int) then (N2 : Int) else (N1 : Int))) = MX := ⟨_, rfl⟩
  have hmx : 9 < MX := by rw [← hMX]; split <;> split at * <;> omega
  have HMX := Lib.hid hMX
  clear hMX
  rw [e1, e2, e3]
  clear hx hy s0 s1 s2 s3 t1 t2 t3 hN1 hN2 hN3 hLL e1 e2 e3 e4 b1 b2 b3 b4 b5 b6
  go_enter Try.func7, Try.ntmps7
  go_upto_region 0 with (fail)
  refine wp_region_lit ?_
  refine ls_op rfl (fun K' hK' => ?_)
  have lz1 := hB.size
  refine wp_new (some 2) rfl (exec_box 28 _ rfl (#[.int .i64 (P : Nat), .int .i64 (n : Nat), .int .i64 (m : Nat), .int .i64 (k : Nat), .slice A qs.length c]) rfl) (fun Wz2 nnz3 => ?_)
  have bz4 := nnz3.below (Below.refl _ _) (Nat.le_refl _)
  replace hB := below_after hB bz4
  have hz5 : At Wz2 w.heap.size (.cells #[.int .i64 (P : Nat), .int .i64 (n : Nat), .int .i64 (m : Nat), .int .i64 (k : Nat), .slice A qs.length c] 28 (0, 0)) := nnz3.at_
  refine hK' _ _ ?_
  clear hK' K' nnz3 bz4
  go_frame
  refine ls_op rfl (fun K' hK' => ?_)
  have lz6 := hB.size
  have lz7 := hz5.lt
  refine wp_new (some 3) rfl (exec_box 28 _ rfl (#[.int .i64 (P : Nat), .int .i64 (u : Nat), .int .i64 (v : Nat), .int .i64 (t : Nat), .slice B rs.length d]) rfl) (fun Wz8 nnz9 => ?_)
  have bz10 := nnz9.below (Below.refl _ _) (Nat.le_refl _)
  replace hB := below_after hB bz10
  replace hz5 := hz5.after bz10
  have hz11 : At Wz8 Wz2.heap.size (.cells #[.int .i64 (P : Nat), .int .i64 (u : Nat), .int .i64 (v : Nat), .int .i64 (t : Nat), .slice B rs.length d] 28 (0, 0)) := nnz9.at_
  refine hK' _ _ ?_
  clear hK' K' nnz9 bz10
  go_frame
  refine ls_op rfl (fun K' hK' => ?_)
  have lz12 := hB.size
  have lz13 := hz5.lt
  have lz14 := hz11.lt
  refine wp_new (some 4) rfl (alX_impl_Method rfl) (fun Wz15 nnz16 => ?_)
  have bz17 := nnz16.below (Below.refl _ _) (Nat.le_refl _)
  replace hB := below_after hB bz17
  replace hz5 := hz5.after bz17
  replace hz11 := hz11.after bz17
  have hz18 : At Wz15 Wz8.heap.size (.cells #[.int .i64 0, .int .i64 0, .int .i64 0, .int .i64 0, .slice none 0 0] 28 (0, 0)) := nnz16.at_
  refine hK' _ _ ?_
  clear hK' K' nnz16 bz17
  go_frame
  refine ls_ex (some 5) (.int .i64 0) rfl rfl (exec_assign _ rfl (.int .i64 0) rfl) ?_
  go_frame
  refine wpList_nil ?_
  go_upto_region 1 with (fail)
  refine wp_region_lit ?_
  refine ls_ex (some 12) (.agg #[.int .i64 (P : Nat), .int .i64 (n : Nat), .int .i64 (m : Nat), .int .i64 (k : Nat), .slice A qs.length c]) rfl rfl (exec_load_all 28 _ rfl w.heap.size rfl _ _ _ hz5 Try.underlying28 rfl 5 (by kernel_rfl) rfl) ?_
  go_frame
  refine ls_op rfl (fun K' hK' => ?_)
  have lz21 := hB.size
  have lz22 := hz5.lt
  have lz23 := hz11.lt
  have lz24 := hz18.lt
  refine wp_call1 (some 13) rfl 23 _ _ rfl (fun args w => by kernel_rfl) _ rfl _ (l09Is_c (P : Nat) (n : Nat) (m : Nat) (k : Nat) A c qs _ (hR.keep hB) hlx) (fun e Wz19 h => ?_)
  obtain ⟨rfl, bz20⟩ := h
  replace hB := below_after hB bz20
  replace hz5 := hz5.after bz20
  replace hz11 := hz11.after bz20
  replace hz18 := hz18.after bz20
  rw [HX.out]
  clear bz20
  refine ⟨_, rfl, ?_⟩
  refine hK' _ _ ?_
  clear hK' K'
  go_frame
  refine ls_ex (some 14) (.bool false) rfl rfl (exec_not _ _ rfl true rfl) ?_
  go_frame
  refine ls_ex (some 15) (.bool false) rfl rfl (exec_move _ rfl (.bool false) rfl) ?_
  go_frame
  refine ls_ex_g (some 16) (.agg #[.int .i64 (P : Nat), .int .i64 (u : Nat), .int .i64 (v : Nat), .int .i64 (t : Nat), .slice B rs.length d]) rfl rfl (exec_load_all 28 _ rfl Wz2.heap.size rfl _ _ _ hz11 Try.underlying28 rfl 5 (by kernel_rfl) rfl) ?_
  go_frame
  refine ls_op_g rfl (fun K' hK' => ?_)
  have lz27 := hB.size
  have lz28 := hz5.lt
  have lz29 := hz11.lt
  have lz30 := hz18.lt
  refine wp_call1 (some 17) rfl 23 _ _ rfl (fun args w => by kernel_rfl) _ rfl _ (l09Is_c (P : Nat) (u : Nat) (v : Nat) (t : Nat) B d rs _ (hS.keep hB) hly) (fun e Wz25 h => ?_)
  obtain ⟨rfl, bz26⟩ := h
  replace hB := below_after hB bz26
  replace hz5 := hz5.after bz26
  replace hz11 := hz11.after bz26
  replace hz18 := hz18.after bz26
  rw [HY.out]
  clear bz26
  refine ⟨_, rfl, ?_⟩
  refine hK' _ _ ?_
  clear hK' K'
  go_frame
  refine ls_ex_g (some 18) (.bool false) rfl rfl (exec_not _ _ rfl true rfl) ?_
  go_frame
  refine ls_ex (some 19) (.bool false) rfl rfl (exec_pick _ _ _ rfl false rfl (.bool false) rfl) ?_
  go_frame
  refine ls_ex (some 11) (.bool false) rfl rfl (exec_assign _ rfl (.bool false) rfl) ?_
  go_frame
  refine wpList_nil ?_
  go_upto_region 3 with (fail)
  refine wp_region_lit ?_
  refine ls_ex (some 22) (.pointer (some ⟨w.heap.size, 0, none⟩)) rfl rfl (exec_fieldAddr 28 _ 0 rfl _ (by kernel_rfl)) ?_
  go_frame
  refine ls_ex (some 23) (.int .i64 (P : Nat)) rfl rfl (exec_load_one 2 _ rfl w.heap.size 0 rfl (.int .i64 (P : Nat)) _ Try.underlying2 rfl (hz5.at_ 0)) ?_
  go_frame
  refine ls_ex (some 24) (.pointer (some ⟨Wz2.heap.size, 0, none⟩)) rfl rfl (exec_fieldAddr 28 _ 0 rfl _ (by kernel_rfl)) ?_
  go_frame
  refine ls_ex (some 25) (.int .i64 (P : Nat)) rfl rfl (exec_load_one 2 _ rfl Wz2.heap.size 0 rfl (.int .i64 (P : Nat)) _ Try.underlying2 rfl (hz11.at_ 0)) ?_
  go_frame
  refine ls_ex (some 26) (.bool false) rfl rfl (exec_neq _ _ _ _ rfl ((P : Nat)) ((P : Nat)) rfl rfl false (by simp)) ?_
  go_frame
  refine ls_ex (some 21) (.bool false) rfl rfl (exec_assign _ rfl (.bool false) rfl) ?_
  go_frame
  refine wpList_nil ?_
  go_upto_region 5 with (fail)
  refine wp_region_lit ?_
  refine ls_ex (some 29) (.pointer (some ⟨w.heap.size, 1, none⟩)) rfl rfl (exec_fieldAddr 28 _ 1 rfl _ (by kernel_rfl)) ?_
  go_frame
  refine ls_ex (some 30) (.int .i64 (n : Nat)) rfl rfl (exec_load_one 2 _ rfl w.heap.size 1 rfl (.int .i64 (n : Nat)) _ Try.underlying2 rfl (hz5.at_ 1)) ?_
  go_frame
  refine ls_ex (some 31) (.pointer (some ⟨Wz2.heap.size, 1, none⟩)) rfl rfl (exec_fieldAddr 28 _ 1 rfl _ (by kernel_rfl)) ?_
  go_frame
  refine ls_ex (some 32) (.int .i64 (u : Nat)) rfl rfl (exec_load_one 2 _ rfl Wz2.heap.size 1 rfl (.int .i64 (u : Nat)) _ Try.underlying2 rfl (hz11.at_ 1)) ?_
  go_frame
  refine ls_ex (some 33) (.int .i64 (N1 : Nat)) rfl rfl (exec_mul _ _ _ _ rfl (n : Nat) (u : Nat) (N1 : Nat) rfl rfl HN1.out) ?_
  go_frame
  refine ls_ex (some 34) (.pointer (some ⟨w.heap.size, 2, none⟩)) rfl rfl (exec_fieldAddr 28 _ 2 rfl _ (by kernel_rfl)) ?_
  go_frame
  refine ls_ex (some 35) (.int .i64 (m : Nat)) rfl rfl (exec_load_one 2 _ rfl w.heap.size 2 rfl (.int .i64 (m : Nat)) _ Try.underlying2 rfl (hz5.at_ 2)) ?_
  go_frame
  refine ls_ex (some 36) (.pointer (some ⟨Wz2.heap.size, 2, none⟩)) rfl rfl (exec_fieldAddr 28 _ 2 rfl _ (by kernel_rfl)) ?_
  go_frame
  refine ls_ex (some 37) (.int .i64 (v : Nat)) rfl rfl (exec_load_one 2 _ rfl Wz2.heap.size 2 rfl (.int .i64 (v : Nat)) _ Try.underlying2 rfl (hz11.at_ 2)) ?_
  go_frame
  refine ls_ex (some 38) (.int .i64 (N2 : Nat)) rfl rfl (exec_mul _ _ _ _ rfl (m : Nat) (v : Nat) (N2 : Nat) rfl rfl HN2.out) ?_
  go_frame
  refine ls_ex (some 39) (.pointer (some ⟨w.heap.size, 3, none⟩)) rfl rfl (exec_fieldAddr 28 _ 3 rfl _ (by kernel_rfl)) ?_
  go_frame
  refine ls_ex (some 40) (.int .i64 (k : Nat)) rfl rfl (exec_load_one 2 _ rfl w.heap.size 3 rfl (.int .i64 (k : Nat)) _ Try.underlying2 rfl (hz5.at_ 3)) ?_
  go_frame
  refine ls_ex (some 41) (.pointer (some ⟨Wz2.heap.size, 3, none⟩)) rfl rfl (exec_fieldAddr 28 _ 3 rfl _ (by kernel_rfl)) ?_
  go_frame
  refine ls_ex (some 42) (.int .i64 (t : Nat)) rfl rfl (exec_load_one 2 _ rfl Wz2.heap.size 3 rfl (.int .i64 (t : Nat)) _ Try.underlying2 rfl (hz11.at_ 3)) ?_
  go_frame
  refine ls_ex (some 43) (.int .i64 (N3 : Nat)) rfl rfl (exec_mul _ _ _ _ rfl (k : Nat) (t : Nat) (N3 : Nat) rfl rfl HN3.out) ?_
  go_frame
  refine ls_ex (some 44) (.int .i64 MX) rfl rfl (exec_max3k _ _ _ _ rfl (N1 : Nat) (N2 : Nat) (N3 : Nat) rfl rfl rfl MX HMX.out) ?_
  go_frame
  refine ls_ex (some 45) (.bool true) rfl rfl (exec_gtr _ _ _ _ rfl MX 9 rfl rfl true (decide_eq_true (by omega))) ?_
  go_frame
  refine ls_ex (some 46) (.bool true) rfl rfl (exec_move _ rfl (.bool true) rfl) ?_
  go_frame
  refine ls_skip_g (some 47) rfl rfl ?_
  go_frame
  refine ls_skip_g (some 48) rfl rfl ?_
  go_frame
  refine ls_skip_g (some 49) rfl rfl ?_
  go_frame
  refine ls_skip_g (some 50) rfl rfl ?_
  go_frame
  refine ls_skip_g (some 51) rfl rfl ?_
  go_frame
  refine ls_skip_g (some 52) rfl rfl ?_
  go_frame
  refine ls_skip_g (some 53) rfl rfl ?_
  go_frame
  refine ls_skip_g (some 54) rfl rfl ?_
  go_frame
  refine ls_ex (some 55) (.bool true) rfl rfl (exec_pick _ _ _ rfl true rfl (.bool true) rfl) ?_
  go_frame
  refine ls_ex (some 28) (.bool true) rfl rfl (exec_assign _ rfl (.bool true) rfl) ?_
  go_frame
  refine wpList_nil ?_
  go_upto_region 6 with (fail)
  refine wp_region_lit ?_
  refine ls_ex (some 56) (.agg #[.int .i64 0, .int .i64 0, .int .i64 0, .int .i64 0, .slice none 0 0]) rfl rfl (exec_build_nil 28 rfl _ (by kernel_rfl)) ?_
  go_frame
  refine ls_op rfl (fun K' hK' => ?_)
  refine wp_store_all 28 _ _ rfl rfl Wz8.heap.size rfl #[.int .i64 0, .int .i64 0, .int .i64 0, .int .i64 0, .slice none 0 0] rfl _ _ hz18 5 (by kernel_rfl) rfl rfl (one5 _ _ _ _ _ _ _) (fun Wz31 pz32 => ?_)
  replace hB := pz32.below hB (by omega)
  replace hz5 := pz32.other hz5 (by omega)
  replace hz11 := pz32.other hz11 (by omega)
  replace hz18 : At Wz31 Wz8.heap.size (.cells #[.int .i64 0, .int .i64 0, .int .i64 0, .int .i64 0, .slice none 0 0] 28 (0, 0)) := pz32.at_
  refine hK' _ _ ?_
  clear hK' K' pz32
  refine ls_ex (some 5) (.int .i64 3) rfl rfl (exec_assign _ rfl (.int .i64 3) rfl) ?_
  go_frame
  refine wpList_nil ?_
  go_wp2_with fail
  refine bodyPost_ret (results_at2 rfl _ _ Wz8.heap.size _ _ _ rfl _ rfl hz18 Try.underlying28 rfl 5 (by kernel_rfl) rfl) rfl ?_
  unfold ResH hZ hL
  rw [HC.out]
  exact ⟨_, rfl, Own.nil _ _, hB⟩
set_option maxHeartbeats 6400000 in
theorem specKm_d (P n m k : Nat) (A : Option Addr) (c : Nat) (qs : List (List Nat)) (u v t : Nat) (B : Option Addr) (d : Nat) (rs : List (List Nat)) (w : World) (hR : Rd w A qs) (hlx : qs.length ≤ 1048576) (hS : Rd w B rs) (hly : rs.length ≤ 1048576) (hx : methB P n m k qs = true) (hy : methB P u v t rs = true) (h1 : n * u ≤ 9) (h2 : m * v ≤ 9) (h3 : k * t ≤ 9) (hc : 30 < qs.length * rs.length) :
    Calls Try.prog 7 #[.agg #[.int .i64 (P : Nat), .int .i64 (n : Nat), .int .i64 (m : Nat), .int .i64 (k : Nat), .slice A qs.length c], .agg #[.int .i64 (P : Nat), .int .i64 (u : Nat), .int .i64 (v : Nat), .int .i64 (t : Nat), .slice B rs.length d]] w (ResH w (hZ (kmCode P n m k qs P u v t rs) P) (hZ (kmCode P n m k qs P u v t rs) (n * u)) (hZ (kmCode P n m k qs P u v t rs) (m * v)) (hZ (kmCode P n m k qs P u v t rs) (k * t)) (hL (kmCode P n m k qs P u v t rs) (kmR P n m k u v t qs rs)) (kmCode P n m k qs P u v t rs)) := by
  have hB := Below.refl w.heap.size w
  obtain ⟨s0, s1, s2, s3, hl30, _⟩ := methB_parts hx
  obtain ⟨_, t1, t2, t3, hs30, _⟩ := methB_parts hy
  have hP : 2 ≤ P ∧ P ≤ 5 := by have := prime_le5 s0; omega
  have b1 : 1 ≤ n ∧ n ≤ 9 := by simp only [sideB, Bool.and_eq_true, decide_eq_true_eq] at s1; omega
  have b2 : 1 ≤ m ∧ m ≤ 9 := by simp only [sideB, Bool.and_eq_true, decide_eq_true_eq] at s2; omega
  have b3 : 1 ≤ k ∧ k ≤ 9 := by simp only [sideB, Bool.and_eq_true, decide_eq_true_eq] at s3; omega
  have b4 : 1 ≤ u ∧ u ≤ 9 := by simp only [sideB, Bool.and_eq_true, decide_eq_true_eq] at t1; omega
  have b5 : 1 ≤ v ∧ v ≤ 9 := by simp only [sideB, Bool.and_eq_true, decide_eq_true_eq] at t2; omega
  have b6 : 1 ≤ t ∧ t ≤ 9 := by simp only [sideB, Bool.and_eq_true, decide_eq_true_eq] at t3; omega
  obtain ⟨N1, hN1⟩ : ∃ N, n * u = N := ⟨_, rfl⟩
  obtain ⟨N2, hN2⟩ : ∃ N, m * v = N := ⟨_, rfl⟩
  obtain ⟨N3, hN3⟩ : ∃ N, k * t = N := ⟨_, rfl⟩
  obtain ⟨LL, hLL⟩ : ∃ N, qs.length * rs.length = N := ⟨_, rfl⟩
  have c1 : N1 ≤ 9 * 9 := by rw [← hN1]; exact Nat.mul_le_mul b1.2 b4.2
  have c2 : N2 ≤ 9 * 9 := by rw [← hN2]; exact Nat.mul_le_mul b2.2 b5.2
  have c3 : N3 ≤ 9 * 9 := by rw [← hN3]; exact Nat.mul_le_mul b3.2 b6.2
  have c4 : LL ≤ 30 * 30 := by rw [← hLL]; exact Nat.mul_le_mul hl30 hs30
  have e1 : (n : Int) * (u : Int) = (N1 : Int) := by rw [← hN1]; simp
  have e2 : (m : Int) * (v : Int) = (N2 : Int) := by rw [← hN2]; simp
  have e3 : (k : Int) * (t : Int) = (N3 : Int) := by rw [← hN3]; simp
  have e4 : (qs.length : Int) * (rs.length : Int) = (LL : Int) := by rw [← hLL]; simp
  have HN1 : Hid (IntKind.i64.wrap ((n : Int) * (u : Int)) = (N1 : Int)) := Lib.hid (by rw [e1]; exact IntWalk.i64_in _ (by omega))
  have HN2 : Hid (IntKind.i64.wrap ((m : Int) * (v : Int)) = (N2 : Int)) := Lib.hid (by rw [e2]; exact IntWalk.i64_in _ (by omega))
  have HN3 : Hid (IntKind.i64.wrap ((k : Int) * (t : Int)) = (N3 : Int)) := Lib.hid (by rw [e3]; exact IntWalk.i64_in _ (by omega))
  have HLL : Hid (IntKind.i64.wrap ((qs.length : Int) * (rs.length : Int)) = (LL : Int)) := Lib.hid (by rw [e4]; exact IntWalk.i64_in _ (by omega))
  have HX := Lib.hid hx
  have HY := Lib.hid hy
  rw [hN1] at h1
  rw [hN2] at h2
  rw [hN3] at h3
  rw [hLL] at hc
  have HC : Hid (kmCode P n m k qs P u v t rs = 3) := Lib.hid (by unfold kmCode; rw [hx, hy, e1, e2, e3, hLL]; simp; omega)
  obtain ⟨MX, hMX⟩ : ∃ MX : Int, (if (if (N1 : Int) < (N2 : Int) then (N2 : Int) else (N1 : Int)) < (N3 : Int) then (N3 : Int) else (if (N1 : Int) < (N2 : Int) then (N2 : Int) else (N1 : Int))) = MX := ⟨_, rfl⟩
  have hmx : MX ≤ 9 := by rw [← hMX]; split <;> split at * <;> omega
  have HMX := Lib.hid hMX
  clear hMX
  have Hc1 : Hid (n * u ≤ 9) := Lib.hid (by rw [hN1]; exact h1)
  have Hc2 : Hid (m * v ≤ 9) := Lib.hid (by rw [hN2]; exact h2)
  have Hc3 : Hid (k * t ≤ 9) := Lib.hid (by rw [hN3]; exact h3)
  have bn := b1.1
  have bm := b2.1
  have bk := b3.1
  have bu := b4.1
  have bv := b5.1
  have bt := b6.1
  rw [e1, e2, e3]
  clear hx hy s0 s1 s2 s3 t1 t2 t3 hN1 hN2 hN3 hLL e1 e2 e3 e4 b1 b2 b3 b4 b5 b6
  go_enter Try.func7, Try.ntmps7
  go_upto_region 0 with (fail)
  refine wp_region_lit ?_
  refine ls_op rfl (fun K' hK' => ?_)
  have lz1 := hB.size
  refine wp_new (some 2) rfl (exec_box 28 _ rfl (#[.int .i64 (P : Nat), .int .i64 (n : Nat), .int .i64 (m : Nat), .int .i64 (k : Nat), .slice A qs.length c]) rfl) (fun Wz2 nnz3 => ?_)
  have bz4 := nnz3.below (Below.refl _ _) (Nat.le_refl _)
  replace hB := below_after hB bz4
  have hz5 : At Wz2 w.heap.size (.cells #[.int .i64 (P : Nat), .int .i64 (n : Nat), .int .i64 (m : Nat), .int .i64 (k : Nat), .slice A qs.length c] 28 (0, 0)) := nnz3.at_
  refine hK' _ _ ?_
  clear hK' K' nnz3 bz4
  go_frame
  refine ls_op rfl (fun K' hK' => ?_)
  have lz6 := hB.size
  have lz7 := hz5.lt
  refine wp_new (some 3) rfl (exec_box 28 _ rfl (#[.int .i64 (P : Nat), .int .i64 (u : Nat), .int .i64 (v : Nat), .int .i64 (t : Nat), .slice B rs.length d]) rfl) (fun Wz8 nnz9 => ?_)
  have bz10 := nnz9.below (Below.refl _ _) (Nat.le_refl _)
  replace hB := below_after hB bz10
  replace hz5 := hz5.after bz10
  have hz11 : At Wz8 Wz2.heap.size (.cells #[.int .i64 (P : Nat), .int .i64 (u : Nat), .int .i64 (v : Nat), .int .i64 (t : Nat), .slice B rs.length d] 28 (0, 0)) := nnz9.at_
  refine hK' _ _ ?_
  clear hK' K' nnz9 bz10
  go_frame
  refine ls_op rfl (fun K' hK' => ?_)
  have lz12 := hB.size
  have lz13 := hz5.lt
  have lz14 := hz11.lt
  refine wp_new (some 4) rfl (alX_impl_Method rfl) (fun Wz15 nnz16 => ?_)
  have bz17 := nnz16.below (Below.refl _ _) (Nat.le_refl _)
  replace hB := below_after hB bz17
  replace hz5 := hz5.after bz17
  replace hz11 := hz11.after bz17
  have hz18 : At Wz15 Wz8.heap.size (.cells #[.int .i64 0, .int .i64 0, .int .i64 0, .int .i64 0, .slice none 0 0] 28 (0, 0)) := nnz16.at_
  refine hK' _ _ ?_
  clear hK' K' nnz16 bz17
  go_frame
  refine ls_ex (some 5) (.int .i64 0) rfl rfl (exec_assign _ rfl (.int .i64 0) rfl) ?_
  go_frame
  refine wpList_nil ?_
  go_upto_region 1 with (fail)
  refine wp_region_lit ?_
  refine ls_ex (some 12) (.agg #[.int .i64 (P : Nat), .int .i64 (n : Nat), .int .i64 (m : Nat), .int .i64 (k : Nat), .slice A qs.length c]) rfl rfl (exec_load_all 28 _ rfl w.heap.size rfl _ _ _ hz5 Try.underlying28 rfl 5 (by kernel_rfl) rfl) ?_
  go_frame
  refine ls_op rfl (fun K' hK' => ?_)
  have lz21 := hB.size
  have lz22 := hz5.lt
  have lz23 := hz11.lt
  have lz24 := hz18.lt
  refine wp_call1 (some 13) rfl 23 _ _ rfl (fun args w => by kernel_rfl) _ rfl _ (l09Is_c (P : Nat) (n : Nat) (m : Nat) (k : Nat) A c qs _ (hR.keep hB) hlx) (fun e Wz19 h => ?_)
  obtain ⟨rfl, bz20⟩ := h
  replace hB := below_after hB bz20
  replace hz5 := hz5.after bz20
  replace hz11 := hz11.after bz20
  replace hz18 := hz18.after bz20
  rw [HX.out]
  clear bz20
  refine ⟨_, rfl, ?_⟩
  refine hK' _ _ ?_
  clear hK' K'
  go_frame
  refine ls_ex (some 14) (.bool false) rfl rfl (exec_not _ _ rfl true rfl) ?_
  go_frame
  refine ls_ex (some 15) (.bool false) rfl rfl (exec_move _ rfl (.bool false) rfl) ?_
  go_frame
  refine ls_ex_g (some 16) (.agg #[.int .i64 (P : Nat), .int .i64 (u : Nat), .int .i64 (v : Nat), .int .i64 (t : Nat), .slice B rs.length d]) rfl rfl (exec_load_all 28 _ rfl Wz2.heap.size rfl _ _ _ hz11 Try.underlying28 rfl 5 (by kernel_rfl) rfl) ?_
  go_frame
  refine ls_op_g rfl (fun K' hK' => ?_)
  have lz27 := hB.size
  have lz28 := hz5.lt
  have lz29 := hz11.lt
  have lz30 := hz18.lt
  refine wp_call1 (some 17) rfl 23 _ _ rfl (fun args w => by kernel_rfl) _ rfl _ (l09Is_c (P : Nat) (u : Nat) (v : Nat) (t : Nat) B d rs _ (hS.keep hB) hly) (fun e Wz25 h => ?_)
  obtain ⟨rfl, bz26⟩ := h
  replace hB := below_after hB bz26
  replace hz5 := hz5.after bz26
  replace hz11 := hz11.after bz26
  replace hz18 := hz18.after bz26
  rw [HY.out]
  clear bz26
  refine ⟨_, rfl, ?_⟩
  refine hK' _ _ ?_
  clear hK' K'
  go_frame
  refine ls_ex_g (some 18) (.bool false) rfl rfl (exec_not _ _ rfl true rfl) ?_
  go_frame
  refine ls_ex (some 19) (.bool false) rfl rfl (exec_pick _ _ _ rfl false rfl (.bool false) rfl) ?_
  go_frame
  refine ls_ex (some 11) (.bool false) rfl rfl (exec_assign _ rfl (.bool false) rfl) ?_
  go_frame
  refine wpList_nil ?_
  go_upto_region 3 with (fail)
  refine wp_region_lit ?_
  refine ls_ex (some 22) (.pointer (some ⟨w.heap.size, 0, none⟩)) rfl rfl (exec_fieldAddr 28 _ 0 rfl _ (by kernel_rfl)) ?_
  go_frame
  refine ls_ex (some 23) (.int .i64 (P : Nat)) rfl rfl (exec_load_one 2 _ rfl w.heap.size 0 rfl (.int .i64 (P : Nat)) _ Try.underlying2 rfl (hz5.at_ 0)) ?_
  go_frame
  refine ls_ex (some 24) (.pointer (some ⟨Wz2.heap.size, 0, none⟩)) rfl rfl (exec_fieldAddr 28 _ 0 rfl _ (by kernel_rfl)) ?_
  go_frame
  refine ls_ex (some 25) (.int .i64 (P : Nat)) rfl rfl (exec_load_one 2 _ rfl Wz2.heap.size 0 rfl (.int .i64 (P : Nat)) _ Try.underlying2 rfl (hz11.at_ 0)) ?_
  go_frame
  refine ls_ex (some 26) (.bool false) rfl rfl (exec_neq _ _ _ _ rfl ((P : Nat)) ((P : Nat)) rfl rfl false (by simp)) ?_
  go_frame
  refine ls_ex (some 21) (.bool false) rfl rfl (exec_assign _ rfl (.bool false) rfl) ?_
  go_frame
  refine wpList_nil ?_
  go_upto_region 5 with (fail)
  refine wp_region_lit ?_
  refine ls_ex (some 29) (.pointer (some ⟨w.heap.size, 1, none⟩)) rfl rfl (exec_fieldAddr 28 _ 1 rfl _ (by kernel_rfl)) ?_
  go_frame
  refine ls_ex (some 30) (.int .i64 (n : Nat)) rfl rfl (exec_load_one 2 _ rfl w.heap.size 1 rfl (.int .i64 (n : Nat)) _ Try.underlying2 rfl (hz5.at_ 1)) ?_
  go_frame
  refine ls_ex (some 31) (.pointer (some ⟨Wz2.heap.size, 1, none⟩)) rfl rfl (exec_fieldAddr 28 _ 1 rfl _ (by kernel_rfl)) ?_
  go_frame
  refine ls_ex (some 32) (.int .i64 (u : Nat)) rfl rfl (exec_load_one 2 _ rfl Wz2.heap.size 1 rfl (.int .i64 (u : Nat)) _ Try.underlying2 rfl (hz11.at_ 1)) ?_
  go_frame
  refine ls_ex (some 33) (.int .i64 (N1 : Nat)) rfl rfl (exec_mul _ _ _ _ rfl (n : Nat) (u : Nat) (N1 : Nat) rfl rfl HN1.out) ?_
  go_frame
  refine ls_ex (some 34) (.pointer (some ⟨w.heap.size, 2, none⟩)) rfl rfl (exec_fieldAddr 28 _ 2 rfl _ (by kernel_rfl)) ?_
  go_frame
  refine ls_ex (some 35) (.int .i64 (m : Nat)) rfl rfl (exec_load_one 2 _ rfl w.heap.size 2 rfl (.int .i64 (m : Nat)) _ Try.underlying2 rfl (hz5.at_ 2)) ?_
  go_frame
  refine ls_ex (some 36) (.pointer (some ⟨Wz2.heap.size, 2, none⟩)) rfl rfl (exec_fieldAddr 28 _ 2 rfl _ (by kernel_rfl)) ?_
  go_frame
  refine ls_ex (some 37) (.int .i64 (v : Nat)) rfl rfl (exec_load_one 2 _ rfl Wz2.heap.size 2 rfl (.int .i64 (v : Nat)) _ Try.underlying2 rfl (hz11.at_ 2)) ?_
  go_frame
  refine ls_ex (some 38) (.int .i64 (N2 : Nat)) rfl rfl (exec_mul _ _ _ _ rfl (m : Nat) (v : Nat) (N2 : Nat) rfl rfl HN2.out) ?_
  go_frame
  refine ls_ex (some 39) (.pointer (some ⟨w.heap.size, 3, none⟩)) rfl rfl (exec_fieldAddr 28 _ 3 rfl _ (by kernel_rfl)) ?_
  go_frame
  refine ls_ex (some 40) (.int .i64 (k : Nat)) rfl rfl (exec_load_one 2 _ rfl w.heap.size 3 rfl (.int .i64 (k : Nat)) _ Try.underlying2 rfl (hz5.at_ 3)) ?_
  go_frame
  refine ls_ex (some 41) (.pointer (some ⟨Wz2.heap.size, 3, none⟩)) rfl rfl (exec_fieldAddr 28 _ 3 rfl _ (by kernel_rfl)) ?_
  go_frame
  refine ls_ex (some 42) (.int .i64 (t : Nat)) rfl rfl (exec_load_one 2 _ rfl Wz2.heap.size 3 rfl (.int .i64 (t : Nat)) _ Try.underlying2 rfl (hz11.at_ 3)) ?_
  go_frame
  refine ls_ex (some 43) (.int .i64 (N3 : Nat)) rfl rfl (exec_mul _ _ _ _ rfl (k : Nat) (t : Nat) (N3 : Nat) rfl rfl HN3.out) ?_
  go_frame
  refine ls_ex (some 44) (.int .i64 MX) rfl rfl (exec_max3k _ _ _ _ rfl (N1 : Nat) (N2 : Nat) (N3 : Nat) rfl rfl rfl MX HMX.out) ?_
  go_frame
  refine ls_ex (some 45) (.bool false) rfl rfl (exec_gtr _ _ _ _ rfl MX 9 rfl rfl false (decide_eq_false (by omega))) ?_
  go_frame
  refine ls_ex (some 46) (.bool false) rfl rfl (exec_move _ rfl (.bool false) rfl) ?_
  go_frame
  refine ls_ex_g (some 47) (.pointer (some ⟨w.heap.size, 4, none⟩)) rfl rfl (exec_fieldAddr 28 _ 4 rfl _ (by kernel_rfl)) ?_
  go_frame
  refine ls_ex_g (some 48) (.slice A qs.length c) rfl rfl (exec_load_one 26 _ rfl w.heap.size 4 rfl (.slice A qs.length c) _ Try.underlying26 rfl (hz5.at_ 4)) ?_
  go_frame
  refine ls_ex_g (some 49) (.int .i64 qs.length) rfl rfl (exec_len _ 26 53 rfl A qs.length c rfl Try.underlying26) ?_
  go_frame
  refine ls_ex_g (some 50) (.pointer (some ⟨Wz2.heap.size, 4, none⟩)) rfl rfl (exec_fieldAddr 28 _ 4 rfl _ (by kernel_rfl)) ?_
  go_frame
  refine ls_ex_g (some 51) (.slice B rs.length d) rfl rfl (exec_load_one 26 _ rfl Wz2.heap.size 4 rfl (.slice B rs.length d) _ Try.underlying26 rfl (hz11.at_ 4)) ?_
  go_frame
  refine ls_ex_g (some 52) (.int .i64 rs.length) rfl rfl (exec_len _ 26 53 rfl B rs.length d rfl Try.underlying26) ?_
  go_frame
  refine ls_ex_g (some 53) (.int .i64 (LL : Nat)) rfl rfl (exec_mul _ _ _ _ rfl (qs.length : Nat) (rs.length : Nat) (LL : Nat) rfl rfl HLL.out) ?_
  go_frame
  refine ls_ex_g (some 54) (.bool true) rfl rfl (exec_gtr _ _ _ _ rfl ((LL : Nat)) 30 rfl rfl true (decide_eq_true (by omega))) ?_
  go_frame
  refine ls_ex (some 55) (.bool true) rfl rfl (exec_pick _ _ _ rfl false rfl (.bool true) rfl) ?_
  go_frame
  refine ls_ex (some 28) (.bool true) rfl rfl (exec_assign _ rfl (.bool true) rfl) ?_
  go_frame
  refine wpList_nil ?_
  go_upto_region 6 with (fail)
  refine wp_region_lit ?_
  refine ls_ex (some 56) (.agg #[.int .i64 0, .int .i64 0, .int .i64 0, .int .i64 0, .slice none 0 0]) rfl rfl (exec_build_nil 28 rfl _ (by kernel_rfl)) ?_
  go_frame
  refine ls_op rfl (fun K' hK' => ?_)
  refine wp_store_all 28 _ _ rfl rfl Wz8.heap.size rfl #[.int .i64 0, .int .i64 0, .int .i64 0, .int .i64 0, .slice none 0 0] rfl _ _ hz18 5 (by kernel_rfl) rfl rfl (one5 _ _ _ _ _ _ _) (fun Wz31 pz32 => ?_)
  replace hB := pz32.below hB (by omega)
  replace hz5 := pz32.other hz5 (by omega)
  replace hz11 := pz32.other hz11 (by omega)
  replace hz18 : At Wz31 Wz8.heap.size (.cells #[.int .i64 0, .int .i64 0, .int .i64 0, .int .i64 0, .slice none 0 0] 28 (0, 0)) := pz32.at_
  refine hK' _ _ ?_
  clear hK' K' pz32
  refine ls_ex (some 5) (.int .i64 3) rfl rfl (exec_assign _ rfl (.int .i64 3) rfl) ?_
  go_frame
  refine wpList_nil ?_
  go_wp2_with fail
  refine bodyPost_ret (results_at2 rfl _ _ Wz8.heap.size _ _ _ rfl _ rfl hz18 Try.underlying28 rfl 5 (by kernel_rfl) rfl) rfl ?_
  unfold ResH hZ hL
  rw [HC.out]
  exact ⟨_, rfl, Own.nil _ _, hB⟩
set_option maxHeartbeats 25600000 in
theorem specKm_y (P n m k : Nat) (A : Option Addr) (c : Nat) (qs : List (List Nat)) (u v t : Nat) (B : Option Addr) (d : Nat) (rs : List (List Nat)) (w : World) (hR : Rd w A qs) (hlx : qs.length ≤ 1048576) (hS : Rd w B rs) (hly : rs.length ≤ 1048576) (hx : methB P n m k qs = true) (hy : methB P u v t rs = true) (h1 : n * u ≤ 9) (h2 : m * v ≤ 9) (h3 : k * t ≤ 9) (h4 : qs.length * rs.length ≤ 30) :
    Calls Try.prog 7 #[.agg #[.int .i64 (P : Nat), .int .i64 (n : Nat), .int .i64 (m : Nat), .int .i64 (k : Nat), .slice A qs.length c], .agg #[.int .i64 (P : Nat), .int .i64 (u : Nat), .int .i64 (v : Nat), .int .i64 (t : Nat), .slice B rs.length d]] w (ResH w (hZ (kmCode P n m k qs P u v t rs) P) (hZ (kmCode P n m k qs P u v t rs) (n * u)) (hZ (kmCode P n m k qs P u v t rs) (m * v)) (hZ (kmCode P n m k qs P u v t rs) (k * t)) (hL (kmCode P n m k qs P u v t rs) (kmR P n m k u v t qs rs)) (kmCode P n m k qs P u v t rs)) := by
  have hB := Below.refl w.heap.size w
  obtain ⟨s0, s1, s2, s3, hl30, _⟩ := methB_parts hx
  obtain ⟨_, t1, t2, t3, hs30, _⟩ := methB_parts hy
  have hP : 2 ≤ P ∧ P ≤ 5 := by have := prime_le5 s0; omega
  have b1 : 1 ≤ n ∧ n ≤ 9 := by simp only [sideB, Bool.and_eq_true, decide_eq_true_eq] at s1; omega
  have b2 : 1 ≤ m ∧ m ≤ 9 := by simp only [sideB, Bool.and_eq_true, decide_eq_true_eq] at s2; omega
  have b3 : 1 ≤ k ∧ k ≤ 9 := by simp only [sideB, Bool.and_eq_true, decide_eq_true_eq] at s3; omega
  have b4 : 1 ≤ u ∧ u ≤ 9 := by simp only [sideB, Bool.and_eq_true, decide_eq_true_eq] at t1; omega
  have b5 : 1 ≤ v ∧ v ≤ 9 := by simp only [sideB, Bool.and_eq_true, decide_eq_true_eq] at t2; omega
  have b6 : 1 ≤ t ∧ t ≤ 9 := by simp only [sideB, Bool.and_eq_true, decide_eq_true_eq] at t3; omega
  obtain ⟨N1, hN1⟩ : ∃ N, n * u = N := ⟨_, rfl⟩
  obtain ⟨N2, hN2⟩ : ∃ N, m * v = N := ⟨_, rfl⟩
  obtain ⟨N3, hN3⟩ : ∃ N, k * t = N := ⟨_, rfl⟩
  obtain ⟨LL, hLL⟩ : ∃ N, qs.length * rs.length = N := ⟨_, rfl⟩
  have c1 : N1 ≤ 9 * 9 := by rw [← hN1]; exact Nat.mul_le_mul b1.2 b4.2
  have c2 : N2 ≤ 9 * 9 := by rw [← hN2]; exact Nat.mul_le_mul b2.2 b5.2
  have c3 : N3 ≤ 9 * 9 := by rw [← hN3]; exact Nat.mul_le_mul b3.2 b6.2
  have c4 : LL ≤ 30 * 30 := by rw [← hLL]; exact Nat.mul_le_mul hl30 hs30
  have e1 : (n : Int) * (u : Int) = (N1 : Int) := by rw [← hN1]; simp
  have e2 : (m : Int) * (v : Int) = (N2 : Int) := by rw [← hN2]; simp
  have e3 : (k : Int) * (t : Int) = (N3 : Int) := by rw [← hN3]; simp
  have e4 : (qs.length : Int) * (rs.length : Int) = (LL : Int) := by rw [← hLL]; simp
  have HN1 : Hid (IntKind.i64.wrap ((n : Int) * (u : Int)) = (N1 : Int)) := Lib.hid (by rw [e1]; exact IntWalk.i64_in _ (by omega))
  have HN2 : Hid (IntKind.i64.wrap ((m : Int) * (v : Int)) = (N2 : Int)) := Lib.hid (by rw [e2]; exact IntWalk.i64_in _ (by omega))
  have HN3 : Hid (IntKind.i64.wrap ((k : Int) * (t : Int)) = (N3 : Int)) := Lib.hid (by rw [e3]; exact IntWalk.i64_in _ (by omega))
  have HLL : Hid (IntKind.i64.wrap ((qs.length : Int) * (rs.length : Int)) = (LL : Int)) := Lib.hid (by rw [e4]; exact IntWalk.i64_in _ (by omega))
  have HX := Lib.hid hx
  have HY := Lib.hid hy
  rw [hN1] at h1
  rw [hN2] at h2
  rw [hN3] at h3
  rw [hLL] at h4
  have HC : Hid (kmCode P n m k qs P u v t rs = 0) := Lib.hid (by unfold kmCode; rw [hx, hy, e1, e2, e3, hLL]; simp; omega)
  obtain ⟨MX, hMX⟩ : ∃ MX : Int, (if (if (N1 : Int) < (N2 : Int) then (N2 : Int) else (N1 : Int)) < (N3 : Int) then (N3 : Int) else (if (N1 : Int) < (N2 : Int) then (N2 : Int) else (N1 : Int))) = MX := ⟨_, rfl⟩
  have hmx : MX ≤ 9 := by rw [← hMX]; split <;> split at * <;> omega
  have HMX := Lib.hid hMX
  clear hMX
  have Hc1 : Hid (n * u ≤ 9) := Lib.hid (by rw [hN1]; exact h1)
  have Hc2 : Hid (m * v ≤ 9) := Lib.hid (by rw [hN2]; exact h2)
  have Hc3 : Hid (k * t ≤ 9) := Lib.hid (by rw [hN3]; exact h3)
  have bn := b1.1
  have bm := b2.1
  have bk := b3.1
  have bu := b4.1
  have bv := b5.1
  have bt := b6.1
  rw [e1, e2, e3]
  clear hx hy s0 s1 s2 s3 t1 t2 t3 hN1 hN2 hN3 hLL e1 e2 e3 e4 b1 b2 b3 b4 b5 b6
  go_enter Try.func7, Try.ntmps7
  go_upto_region 0 with (fail)
  refine wp_region_lit ?_
  refine ls_op rfl (fun K' hK' => ?_)
  have lz1 := hB.size
  refine wp_new (some 2) rfl (exec_box 28 _ rfl (#[.int .i64 (P : Nat), .int .i64 (n : Nat), .int .i64 (m : Nat), .int .i64 (k : Nat), .slice A qs.length c]) rfl) (fun Wz2 nnz3 => ?_)
  have bz4 := nnz3.below (Below.refl _ _) (Nat.le_refl _)
  replace hB := below_after hB bz4
  have hz5 : At Wz2 w.heap.size (.cells #[.int .i64 (P : Nat), .int .i64 (n : Nat), .int .i64 (m : Nat), .int .i64 (k : Nat), .slice A qs.length c] 28 (0, 0)) := nnz3.at_
  refine hK' _ _ ?_
  clear hK' K' nnz3 bz4
  go_frame
  refine ls_op rfl (fun K' hK' => ?_)
  have lz6 := hB.size
  have lz7 := hz5.lt
  refine wp_new (some 3) rfl (exec_box 28 _ rfl (#[.int .i64 (P : Nat), .int .i64 (u : Nat), .int .i64 (v : Nat), .int .i64 (t : Nat), .slice B rs.length d]) rfl) (fun Wz8 nnz9 => ?_)
  have bz10 := nnz9.below (Below.refl _ _) (Nat.le_refl _)
  replace hB := below_after hB bz10
  replace hz5 := hz5.after bz10
  have hz11 : At Wz8 Wz2.heap.size (.cells #[.int .i64 (P : Nat), .int .i64 (u : Nat), .int .i64 (v : Nat), .int .i64 (t : Nat), .slice B rs.length d] 28 (0, 0)) := nnz9.at_
  refine hK' _ _ ?_
  clear hK' K' nnz9 bz10
  go_frame
  refine ls_op rfl (fun K' hK' => ?_)
  have lz12 := hB.size
  have lz13 := hz5.lt
  have lz14 := hz11.lt
  refine wp_new (some 4) rfl (alX_impl_Method rfl) (fun Wz15 nnz16 => ?_)
  have bz17 := nnz16.below (Below.refl _ _) (Nat.le_refl _)
  replace hB := below_after hB bz17
  replace hz5 := hz5.after bz17
  replace hz11 := hz11.after bz17
  have hz18 : At Wz15 Wz8.heap.size (.cells #[.int .i64 0, .int .i64 0, .int .i64 0, .int .i64 0, .slice none 0 0] 28 (0, 0)) := nnz16.at_
  refine hK' _ _ ?_
  clear hK' K' nnz16 bz17
  go_frame
  refine ls_ex (some 5) (.int .i64 0) rfl rfl (exec_assign _ rfl (.int .i64 0) rfl) ?_
  go_frame
  refine wpList_nil ?_
  go_upto_region 1 with (fail)
  refine wp_region_lit ?_
  refine ls_ex (some 12) (.agg #[.int .i64 (P : Nat), .int .i64 (n : Nat), .int .i64 (m : Nat), .int .i64 (k : Nat), .slice A qs.length c]) rfl rfl (exec_load_all 28 _ rfl w.heap.size rfl _ _ _ hz5 Try.underlying28 rfl 5 (by kernel_rfl) rfl) ?_
  go_frame
  refine ls_op rfl (fun K' hK' => ?_)
  have lz21 := hB.size
  have lz22 := hz5.lt
  have lz23 := hz11.lt
  have lz24 := hz18.lt
  refine wp_call1 (some 13) rfl 23 _ _ rfl (fun args w => by kernel_rfl) _ rfl _ (l09Is_c (P : Nat) (n : Nat) (m : Nat) (k : Nat) A c qs _ (hR.keep hB) hlx) (fun e Wz19 h => ?_)
  obtain ⟨rfl, bz20⟩ := h
  replace hB := below_after hB bz20
  replace hz5 := hz5.after bz20
  replace hz11 := hz11.after bz20
  replace hz18 := hz18.after bz20
  rw [HX.out]
  clear bz20
  refine ⟨_, rfl, ?_⟩
  refine hK' _ _ ?_
  clear hK' K'
  go_frame
  refine ls_ex (some 14) (.bool false) rfl rfl (exec_not _ _ rfl true rfl) ?_
  go_frame
  refine ls_ex (some 15) (.bool false) rfl rfl (exec_move _ rfl (.bool false) rfl) ?_
  go_frame
  refine ls_ex_g (some 16) (.agg #[.int .i64 (P : Nat), .int .i64 (u : Nat), .int .i64 (v : Nat), .int .i64 (t : Nat), .slice B rs.length d]) rfl rfl (exec_load_all 28 _ rfl Wz2.heap.size rfl _ _ _ hz11 Try.underlying28 rfl 5 (by kernel_rfl) rfl) ?_
  go_frame
  refine ls_op_g rfl (fun K' hK' => ?_)
  have lz27 := hB.size
  have lz28 := hz5.lt
  have lz29 := hz11.lt
  have lz30 := hz18.lt
  refine wp_call1 (some 17) rfl 23 _ _ rfl (fun args w => by kernel_rfl) _ rfl _ (l09Is_c (P : Nat) (u : Nat) (v : Nat) (t : Nat) B d rs _ (hS.keep hB) hly) (fun e Wz25 h => ?_)
  obtain ⟨rfl, bz26⟩ := h
  replace hB := below_after hB bz26
  replace hz5 := hz5.after bz26
  replace hz11 := hz11.after bz26
  replace hz18 := hz18.after bz26
  rw [HY.out]
  clear bz26
  refine ⟨_, rfl, ?_⟩
  refine hK' _ _ ?_
  clear hK' K'
  go_frame
  refine ls_ex_g (some 18) (.bool false) rfl rfl (exec_not _ _ rfl true rfl) ?_
  go_frame
  refine ls_ex (some 19) (.bool false) rfl rfl (exec_pick _ _ _ rfl false rfl (.bool false) rfl) ?_
  go_frame
  refine ls_ex (some 11) (.bool false) rfl rfl (exec_assign _ rfl (.bool false) rfl) ?_
  go_frame
  refine wpList_nil ?_
  go_upto_region 3 with (fail)
  refine wp_region_lit ?_
  refine ls_ex (some 22) (.pointer (some ⟨w.heap.size, 0, none⟩)) rfl rfl (exec_fieldAddr 28 _ 0 rfl _ (by kernel_rfl)) ?_
  go_frame
  refine ls_ex (some 23) (.int .i64 (P : Nat)) rfl rfl (exec_load_one 2 _ rfl w.heap.size 0 rfl (.int .i64 (P : Nat)) _ Try.underlying2 rfl (hz5.at_ 0)) ?_
  go_frame
  refine ls_ex (some 24) (.pointer (some ⟨Wz2.heap.size, 0, none⟩)) rfl rfl (exec_fieldAddr 28 _ 0 rfl _ (by kernel_rfl)) ?_
  go_frame
  refine ls_ex (some 25) (.int .i64 (P : Nat)) rfl rfl (exec_load_one 2 _ rfl Wz2.heap.size 0 rfl (.int .i64 (P : Nat)) _ Try.underlying2 rfl (hz11.at_ 0)) ?_
  go_frame
  refine ls_ex (some 26) (.bool false) rfl rfl (exec_neq _ _ _ _ rfl ((P : Nat)) ((P : Nat)) rfl rfl false (by simp)) ?_
  go_frame
  refine ls_ex (some 21) (.bool false) rfl rfl (exec_assign _ rfl (.bool false) rfl) ?_
  go_frame
  refine wpList_nil ?_
  go_upto_region 5 with (fail)
  refine wp_region_lit ?_
  refine ls_ex (some 29) (.pointer (some ⟨w.heap.size, 1, none⟩)) rfl rfl (exec_fieldAddr 28 _ 1 rfl _ (by kernel_rfl)) ?_
  go_frame
  refine ls_ex (some 30) (.int .i64 (n : Nat)) rfl rfl (exec_load_one 2 _ rfl w.heap.size 1 rfl (.int .i64 (n : Nat)) _ Try.underlying2 rfl (hz5.at_ 1)) ?_
  go_frame
  refine ls_ex (some 31) (.pointer (some ⟨Wz2.heap.size, 1, none⟩)) rfl rfl (exec_fieldAddr 28 _ 1 rfl _ (by kernel_rfl)) ?_
  go_frame
  refine ls_ex (some 32) (.int .i64 (u : Nat)) rfl rfl (exec_load_one 2 _ rfl Wz2.heap.size 1 rfl (.int .i64 (u : Nat)) _ Try.underlying2 rfl (hz11.at_ 1)) ?_
  go_frame
  refine ls_ex (some 33) (.int .i64 (N1 : Nat)) rfl rfl (exec_mul _ _ _ _ rfl (n : Nat) (u : Nat) (N1 : Nat) rfl rfl HN1.out) ?_
  go_frame
  refine ls_ex (some 34) (.pointer (some ⟨w.heap.size, 2, none⟩)) rfl rfl (exec_fieldAddr 28 _ 2 rfl _ (by kernel_rfl)) ?_
  go_frame
  refine ls_ex (some 35) (.int .i64 (m : Nat)) rfl rfl (exec_load_one 2 _ rfl w.heap.size 2 rfl (.int .i64 (m : Nat)) _ Try.underlying2 rfl (hz5.at_ 2)) ?_
  go_frame
  refine ls_ex (some 36) (.pointer (some ⟨Wz2.heap.size, 2, none⟩)) rfl rfl (exec_fieldAddr 28 _ 2 rfl _ (by kernel_rfl)) ?_
  go_frame
  refine ls_ex (some 37) (.int .i64 (v : Nat)) rfl rfl (exec_load_one 2 _ rfl Wz2.heap.size 2 rfl (.int .i64 (v : Nat)) _ Try.underlying2 rfl (hz11.at_ 2)) ?_
  go_frame
  refine ls_ex (some 38) (.int .i64 (N2 : Nat)) rfl rfl (exec_mul _ _ _ _ rfl (m : Nat) (v : Nat) (N2 : Nat) rfl rfl HN2.out) ?_
  go_frame
  refine ls_ex (some 39) (.pointer (some ⟨w.heap.size, 3, none⟩)) rfl rfl (exec_fieldAddr 28 _ 3 rfl _ (by kernel_rfl)) ?_
  go_frame
  refine ls_ex (some 40) (.int .i64 (k : Nat)) rfl rfl (exec_load_one 2 _ rfl w.heap.size 3 rfl (.int .i64 (k : Nat)) _ Try.underlying2 rfl (hz5.at_ 3)) ?_
  go_frame
  refine ls_ex (some 41) (.pointer (some ⟨Wz2.heap.size, 3, none⟩)) rfl rfl (exec_fieldAddr 28 _ 3 rfl _ (by kernel_rfl)) ?_
  go_frame
  refine ls_ex (some 42) (.int .i64 (t : Nat)) rfl rfl (exec_load_one 2 _ rfl Wz2.heap.size 3 rfl (.int .i64 (t : Nat)) _ Try.underlying2 rfl (hz11.at_ 3)) ?_
  go_frame
  refine ls_ex (some 43) (.int .i64 (N3 : Nat)) rfl rfl (exec_mul _ _ _ _ rfl (k : Nat) (t : Nat) (N3 : Nat) rfl rfl HN3.out) ?_
  go_frame
  refine ls_ex (some 44) (.int .i64 MX) rfl rfl (exec_max3k _ _ _ _ rfl (N1 : Nat) (N2 : Nat) (N3 : Nat) rfl rfl rfl MX HMX.out) ?_
  go_frame
  refine ls_ex (some 45) (.bool false) rfl rfl (exec_gtr _ _ _ _ rfl MX 9 rfl rfl false (decide_eq_false (by omega))) ?_
  go_frame
  refine ls_ex (some 46) (.bool false) rfl rfl (exec_move _ rfl (.bool false) rfl) ?_
  go_frame
  refine ls_ex_g (some 47) (.pointer (some ⟨w.heap.size, 4, none⟩)) rfl rfl (exec_fieldAddr 28 _ 4 rfl _ (by kernel_rfl)) ?_
  go_frame
  refine ls_ex_g (some 48) (.slice A qs.length c) rfl rfl (exec_load_one 26 _ rfl w.heap.size 4 rfl (.slice A qs.length c) _ Try.underlying26 rfl (hz5.at_ 4)) ?_
  go_frame
  refine ls_ex_g (some 49) (.int .i64 qs.length) rfl rfl (exec_len _ 26 53 rfl A qs.length c rfl Try.underlying26) ?_
  go_frame
  refine ls_ex_g (some 50) (.pointer (some ⟨Wz2.heap.size, 4, none⟩)) rfl rfl (exec_fieldAddr 28 _ 4 rfl _ (by kernel_rfl)) ?_
  go_frame
  refine ls_ex_g (some 51) (.slice B rs.length d) rfl rfl (exec_load_one 26 _ rfl Wz2.heap.size 4 rfl (.slice B rs.length d) _ Try.underlying26 rfl (hz11.at_ 4)) ?_
  go_frame
  refine ls_ex_g (some 52) (.int .i64 rs.length) rfl rfl (exec_len _ 26 53 rfl B rs.length d rfl Try.underlying26) ?_
  go_frame
  refine ls_ex_g (some 53) (.int .i64 (LL : Nat)) rfl rfl (exec_mul _ _ _ _ rfl (qs.length : Nat) (rs.length : Nat) (LL : Nat) rfl rfl HLL.out) ?_
  go_frame
  refine ls_ex_g (some 54) (.bool false) rfl rfl (exec_gtr _ _ _ _ rfl ((LL : Nat)) 30 rfl rfl false (decide_eq_false (by omega))) ?_
  go_frame
  refine ls_ex (some 55) (.bool false) rfl rfl (exec_pick _ _ _ rfl false rfl (.bool false) rfl) ?_
  go_frame
  refine ls_ex (some 28) (.bool false) rfl rfl (exec_assign _ rfl (.bool false) rfl) ?_
  go_frame
  refine wpList_nil ?_
  go_upto_region 7 with (fail)
  refine wp_region_lit ?_
  refine ls_ex (some 57) (.pointer (some ⟨w.heap.size, 0, none⟩)) rfl rfl (exec_fieldAddr 28 _ 0 rfl _ (by kernel_rfl)) ?_
  go_frame
  refine ls_ex (some 58) (.int .i64 (P : Nat)) rfl rfl (exec_load_one 2 _ rfl w.heap.size 0 rfl (.int .i64 (P : Nat)) _ Try.underlying2 rfl (hz5.at_ 0)) ?_
  go_frame
  refine ls_ex (some 59) (.pointer (some ⟨w.heap.size, 1, none⟩)) rfl rfl (exec_fieldAddr 28 _ 1 rfl _ (by kernel_rfl)) ?_
  go_frame
  refine ls_ex (some 60) (.int .i64 (n : Nat)) rfl rfl (exec_load_one 2 _ rfl w.heap.size 1 rfl (.int .i64 (n : Nat)) _ Try.underlying2 rfl (hz5.at_ 1)) ?_
  go_frame
  refine ls_ex (some 61) (.pointer (some ⟨Wz2.heap.size, 1, none⟩)) rfl rfl (exec_fieldAddr 28 _ 1 rfl _ (by kernel_rfl)) ?_
  go_frame
  refine ls_ex (some 62) (.int .i64 (u : Nat)) rfl rfl (exec_load_one 2 _ rfl Wz2.heap.size 1 rfl (.int .i64 (u : Nat)) _ Try.underlying2 rfl (hz11.at_ 1)) ?_
  go_frame
  refine ls_ex (some 63) (.int .i64 (N1 : Nat)) rfl rfl (exec_mul _ _ _ _ rfl (n : Nat) (u : Nat) (N1 : Nat) rfl rfl HN1.out) ?_
  go_frame
  refine ls_ex (some 64) (.pointer (some ⟨w.heap.size, 2, none⟩)) rfl rfl (exec_fieldAddr 28 _ 2 rfl _ (by kernel_rfl)) ?_
  go_frame
  refine ls_ex (some 65) (.int .i64 (m : Nat)) rfl rfl (exec_load_one 2 _ rfl w.heap.size 2 rfl (.int .i64 (m : Nat)) _ Try.underlying2 rfl (hz5.at_ 2)) ?_
  go_frame
  refine ls_ex (some 66) (.pointer (some ⟨Wz2.heap.size, 2, none⟩)) rfl rfl (exec_fieldAddr 28 _ 2 rfl _ (by kernel_rfl)) ?_
  go_frame
  refine ls_ex (some 67) (.int .i64 (v : Nat)) rfl rfl (exec_load_one 2 _ rfl Wz2.heap.size 2 rfl (.int .i64 (v : Nat)) _ Try.underlying2 rfl (hz11.at_ 2)) ?_
  go_frame
  refine ls_ex (some 68) (.int .i64 (N2 : Nat)) rfl rfl (exec_mul _ _ _ _ rfl (m : Nat) (v : Nat) (N2 : Nat) rfl rfl HN2.out) ?_
  go_frame
  refine ls_ex (some 69) (.pointer (some ⟨w.heap.size, 3, none⟩)) rfl rfl (exec_fieldAddr 28 _ 3 rfl _ (by kernel_rfl)) ?_
  go_frame
  refine ls_ex (some 70) (.int .i64 (k : Nat)) rfl rfl (exec_load_one 2 _ rfl w.heap.size 3 rfl (.int .i64 (k : Nat)) _ Try.underlying2 rfl (hz5.at_ 3)) ?_
  go_frame
  refine ls_ex (some 71) (.pointer (some ⟨Wz2.heap.size, 3, none⟩)) rfl rfl (exec_fieldAddr 28 _ 3 rfl _ (by kernel_rfl)) ?_
  go_frame
  refine ls_ex (some 72) (.int .i64 (t : Nat)) rfl rfl (exec_load_one 2 _ rfl Wz2.heap.size 3 rfl (.int .i64 (t : Nat)) _ Try.underlying2 rfl (hz11.at_ 3)) ?_
  go_frame
  refine ls_ex (some 73) (.int .i64 (N3 : Nat)) rfl rfl (exec_mul _ _ _ _ rfl (k : Nat) (t : Nat) (N3 : Nat) rfl rfl HN3.out) ?_
  go_frame
  refine ls_op rfl (fun K' hK' => ?_)
  have lz34 := hB.size
  have lz35 := hz5.lt
  have lz36 := hz11.lt
  have lz37 := hz18.lt
  refine wp_new (some 74) rfl (exec_bs0 rfl) (fun Wz31 nnz32 => ?_)
  have bz33 := nnz32.below (Below.refl _ _) (Nat.le_refl _)
  replace hB := below_after hB bz33
  replace hz5 := hz5.after bz33
  replace hz11 := hz11.after bz33
  replace hz18 := hz18.after bz33
  have ho : Own Wz31 w.heap.size (.slice (some ⟨Wz25.heap.size, 0, none⟩) 0 0) [] := (own_bs0 nnz32).mono (by have := hB.size; omega)
  refine hK' _ _ ?_
  clear hK' K' nnz32 bz33
  go_frame
  refine ls_ex (some 75) (.agg #[.int .i64 (P : Nat), .int .i64 (N1 : Nat), .int .i64 (N2 : Nat), .int .i64 (N3 : Nat), .slice (some ⟨Wz25.heap.size, 0, none⟩) 0 0]) rfl rfl (exec_build_meth _ _ _ _ _ rfl (P : Nat) (N1 : Nat) (N2 : Nat) (N3 : Nat) _ 0 0 rfl rfl rfl rfl rfl) ?_
  go_frame
  refine ls_op rfl (fun K' hK' => ?_)
  have lz38 := hB.size
  have lz39 := hz5.lt
  have lz40 := hz11.lt
  have lz41 := hz18.lt
  have naz46 := ho.away_new
  refine wp_new (some 6) rfl (alX_impl_Method rfl) (fun Wz42 nnz43 => ?_)
  have bz44 := nnz43.below (Below.refl _ _) (Nat.le_refl _)
  replace hB := below_after hB bz44
  replace hz5 := hz5.after bz44
  replace hz11 := hz11.after bz44
  replace hz18 := hz18.after bz44
  replace ho := ho.below bz44
  have hz45 : At Wz42 Wz31.heap.size (.cells #[.int .i64 0, .int .i64 0, .int .i64 0, .int .i64 0, .slice none 0 0] 28 (0, 0)) := nnz43.at_
  refine hK' _ _ ?_
  clear hK' K' nnz43 bz44
  go_frame
  refine ls_op rfl (fun K' hK' => ?_)
  refine wp_store_all 28 _ _ rfl rfl Wz31.heap.size rfl #[.int .i64 (P : Nat), .int .i64 (N1 : Nat), .int .i64 (N2 : Nat), .int .i64 (N3 : Nat), .slice (some ⟨Wz25.heap.size, 0, none⟩) 0 0] rfl _ _ hz45 5 (by kernel_rfl) rfl rfl (one5 _ _ _ _ _ _ _) (fun Wz47 pz48 => ?_)
  replace hB := pz48.below hB (by omega)
  replace hz5 := pz48.other hz5 (by omega)
  replace hz11 := pz48.other hz11 (by omega)
  replace hz18 := pz48.other hz18 (by omega)
  replace ho := ho.put pz48 naz46
  replace hz45 : At Wz47 Wz31.heap.size (.cells #[.int .i64 (P : Nat), .int .i64 (N1 : Nat), .int .i64 (N2 : Nat), .int .i64 (N3 : Nat), .slice (some ⟨Wz25.heap.size, 0, none⟩) 0 0] 28 (0, 0)) := pz48.at_
  refine hK' _ _ ?_
  clear hK' K' pz48
  refine wpList_nil ?_
  go_upto_region 8 with (fail)
  refine wp_region_lit ?_
  refine ls_ex (some 7) (.int .i64 0) rfl rfl (exec_assign _ rfl (.int .i64 0) rfl) ?_
  go_frame
  refine wpList_nil ?_
  go_wp2_with fail
  go_loopw [7] (fun s7 wr => ∃ (a : Nat) (v9 : Value), a ≤ qs.length ∧ s7 = .int .i64 a ∧ Below w.heap.size w wr ∧ At wr w.heap.size (.cells #[.int .i64 (P : Nat), .int .i64 (n : Nat), .int .i64 (m : Nat), .int .i64 (k : Nat), .slice A qs.length c] 28 (0, 0)) ∧ At wr Wz2.heap.size (.cells #[.int .i64 (P : Nat), .int .i64 (u : Nat), .int .i64 (v : Nat), .int .i64 (t : Nat), .slice B rs.length d] 28 (0, 0)) ∧ At wr Wz8.heap.size (.cells #[.int .i64 0, .int .i64 0, .int .i64 0, .int .i64 0, .slice none 0 0] 28 (0, 0)) ∧ At wr Wz31.heap.size (.cells #[.int .i64 (P : Nat), .int .i64 (N1 : Nat), .int .i64 (N2 : Nat), .int .i64 (N3 : Nat), v9] 28 (0, 0)) ∧ Own wr w.heap.size (v9) (kmO (kmQ P n m k u v t) qs rs (a))) (fun s7 _ => qs.length - (intOf s7).toNat)
  case atStart => exact ⟨0, _, by omega, rfl, hB, hz5, hz11, hz18, hz45, ho⟩
  case round =>
    clear hB hz5 hz11 hz18 ho hz45
    obtain ⟨a, v9, hle, rfl, hB, h2, h3, h4, h6, ho⟩ := hrel
    by_cases hlt : a < qs.length
    · obtain ⟨bA, oA, rfl, hcA⟩ := (hR.keep hB).at_ hlt
      clear hcA
      have hq := hR.good _ (List.getElem_mem hlt)
      go_upto_region 9 with (fail)
      refine wp_region_lit ?_
      refine ls_ex (some 76) (.int .i64 a) rfl rfl (exec_move _ rfl (.int .i64 a) rfl) ?_
      go_frame
      refine ls_ex (some 77) (.pointer (some ⟨w.heap.size, 4, none⟩)) rfl rfl (exec_fieldAddr 28 _ 4 rfl _ (by kernel_rfl)) ?_
      go_frame
      refine ls_ex (some 78) (.slice (some ⟨bA, oA, none⟩) qs.length c) rfl rfl (exec_load_one 26 _ rfl w.heap.size 4 rfl (.slice (some ⟨bA, oA, none⟩) qs.length c) _ Try.underlying26 rfl (h2.at_ 4)) ?_
      go_frame
      refine ls_ex (some 79) (.int .i64 qs.length) rfl rfl (exec_len _ 26 53 rfl ((some ⟨bA, oA, none⟩)) qs.length c rfl Try.underlying26) ?_
      go_frame
      refine ls_ex (some 80) (.bool true) rfl rfl (exec_lss _ _ _ _ rfl a qs.length rfl rfl true (decide_eq_true (by omega))) ?_
      go_frame
      refine wpList_nil ?_
      go_upto_region 11 with (fail)
      refine wp_region_lit ?_
      refine ls_ex (some 8) (.int .i64 0) rfl rfl (exec_assign _ rfl (.int .i64 0) rfl) ?_
      go_frame
      refine wpList_nil ?_
      go_wp2_with fail
      obtain ⟨we, rfl⟩ : ∃ x : World, x = wr := ⟨_, rfl⟩
      go_loopw [8] (fun s8 wr => ∃ (b : Nat) (v9 : Value), b ≤ rs.length ∧ s8 = .int .i64 b ∧ Below w.heap.size w wr ∧ At wr w.heap.size (.cells #[.int .i64 (P : Nat), .int .i64 (n : Nat), .int .i64 (m : Nat), .int .i64 (k : Nat), .slice (some ⟨bA, oA, none⟩) qs.length c] 28 (0, 0)) ∧ At wr Wz2.heap.size (.cells #[.int .i64 (P : Nat), .int .i64 (u : Nat), .int .i64 (v : Nat), .int .i64 (t : Nat), .slice B rs.length d] 28 (0, 0)) ∧ At wr Wz8.heap.size (.cells #[.int .i64 0, .int .i64 0, .int .i64 0, .int .i64 0, .slice none 0 0] 28 (0, 0)) ∧ At wr Wz31.heap.size (.cells #[.int .i64 (P : Nat), .int .i64 (N1 : Nat), .int .i64 (N2 : Nat), .int .i64 (N3 : Nat), v9] 28 (0, 0)) ∧ Own wr w.heap.size (v9) (kmI (kmQ P n m k u v t) qs rs qs[a] a (b))) (fun s8 _ => rs.length - (intOf s8).toNat)
      case atStart => exact ⟨0, _, by omega, rfl, hB, h2, h3, h4, h6, by rw [kmI_zero]; exact ho⟩
      case round =>
        clear hB h2 h3 h4 h6 ho
        obtain ⟨b, v9, hle2, rfl, hB, h2, h3, h4, h6, ho⟩ := hrel
        by_cases hlt2 : b < rs.length
        · obtain ⟨bB, oB, rfl, hcB⟩ := (hS.keep hB).at_ hlt2
          clear hcB
          have hr := hS.good _ (List.getElem_mem hlt2)
          obtain ⟨L9, hL9⟩ : ∃ z9, (kmI (kmQ P n m k u v t) qs rs qs[a] a (b)).length = z9 := ⟨_, rfl⟩
          obtain ⟨A9, c9, rfl⟩ := Own.rdN2 ho hL9
          have HT : Hid (kmI (kmQ P n m k u v t) qs rs qs[a] a (b) ++ [kmQ P n m k u v t qs[a] rs[b]] = kmI (kmQ P n m k u v t) qs rs qs[a] a (b + 1)) := Lib.hid (kmI_step hlt2)
          have hAL := kmI_len (f := kmQ P n m k u v t) (qs := qs) (rs := rs) (q := qs[a]) (a := a) (b := b) (by omega) (by omega)
          have hAb : a * rs.length ≤ 30 * 30 := Nat.mul_le_mul (by omega) hs30
          have HAS : Hid ((kmI (kmQ P n m k u v t) qs rs qs[a] a (b + 1)).length = L9 + 1) := Lib.hid (by rw [← HT.out, List.length_append, hL9]; rfl)
          have HL9 := Lib.hid hL9
          rw [hL9] at hAL
          clear hL9
          go_upto_region 12 with (fail)
          refine wp_region_lit ?_
          refine ls_ex (some 83) (.int .i64 b) rfl rfl (exec_move _ rfl (.int .i64 b) rfl) ?_
          go_frame
          refine ls_ex (some 84) (.pointer (some ⟨Wz2.heap.size, 4, none⟩)) rfl rfl (exec_fieldAddr 28 _ 4 rfl _ (by kernel_rfl)) ?_
          go_frame
          refine ls_ex (some 85) (.slice (some ⟨bB, oB, none⟩) rs.length d) rfl rfl (exec_load_one 26 _ rfl Wz2.heap.size 4 rfl (.slice (some ⟨bB, oB, none⟩) rs.length d) _ Try.underlying26 rfl (h3.at_ 4)) ?_
          go_frame
          refine ls_ex (some 86) (.int .i64 rs.length) rfl rfl (exec_len _ 26 53 rfl ((some ⟨bB, oB, none⟩)) rs.length d rfl Try.underlying26) ?_
          go_frame
          refine ls_ex (some 87) (.bool true) rfl rfl (exec_lss _ _ _ _ rfl b rs.length rfl rfl true (decide_eq_true (by omega))) ?_
          go_frame
          refine wpList_nil ?_
          go_upto_region 14 with (fail)
          go_cut [9, 10] from 90 to 100 (fun s9 s10 wx => ∃ B1 B2 : Nat, s9 = .pointer (some ⟨B1, 0, none⟩) ∧ s10 = .pointer (some ⟨B2, 0, none⟩) ∧ w.heap.size < B1 ∧ w.heap.size < B2 ∧ Wz2.heap.size < B1 ∧ Wz2.heap.size < B2 ∧ Wz8.heap.size < B1 ∧ Wz8.heap.size < B2 ∧ Wz31.heap.size < B1 ∧ Wz31.heap.size < B2 ∧ some B1 ≠ (Value.slice A9 L9 c9).ownBlock ∧ some B2 ≠ (Value.slice A9 L9 c9).ownBlock ∧ At wx B1 (.cells (u8s (qs[a])) 53 (0, 0)) ∧ At wx B2 (.cells (u8s (rs[b])) 53 (0, 0)) ∧ Below w.heap.size w wx ∧ At wx w.heap.size (.cells #[.int .i64 (P : Nat), .int .i64 (n : Nat), .int .i64 (m : Nat), .int .i64 (k : Nat), .slice (some ⟨bA, oA, none⟩) qs.length c] 28 (0, 0)) ∧ At wx Wz2.heap.size (.cells #[.int .i64 (P : Nat), .int .i64 (u : Nat), .int .i64 (v : Nat), .int .i64 (t : Nat), .slice (some ⟨bB, oB, none⟩) rs.length d] 28 (0, 0)) ∧ At wx Wz8.heap.size (.cells #[.int .i64 0, .int .i64 0, .int .i64 0, .int .i64 0, .slice none 0 0] 28 (0, 0)) ∧ At wx Wz31.heap.size (.cells #[.int .i64 (P : Nat), .int .i64 (N1 : Nat), .int .i64 (N2 : Nat), .int .i64 (N3 : Nat), .slice A9 L9 c9] 28 (0, 0)) ∧ Own wx w.heap.size (.slice A9 L9 c9) (kmI (kmQ P n m k u v t) qs rs qs[a] a (b)))
          case first =>
            refine wp_region_y (zs := []) (S := fun w' => Below w.heap.size w w' ∧ At w' w.heap.size (.cells #[.int .i64 (P : Nat), .int .i64 (n : Nat), .int .i64 (m : Nat), .int .i64 (k : Nat), .slice (some ⟨bA, oA, none⟩) qs.length c] 28 (0, 0)) ∧ At w' Wz2.heap.size (.cells #[.int .i64 (P : Nat), .int .i64 (u : Nat), .int .i64 (v : Nat), .int .i64 (t : Nat), .slice (some ⟨bB, oB, none⟩) rs.length d] 28 (0, 0))) (S2 := fun w' => True) (by kernel_rfl) ?_
            change wpAnyY _ _ _ _ _ _ _ _ _ _ (World.drew _)
            generalize hwdz49 : World.drew _ = wdz49
            replace hB : Below w.heap.size w wdz49 := by rw [← hwdz49]; exact hB.drew
            replace h2 : At wdz49 w.heap.size (.cells #[.int .i64 (P : Nat), .int .i64 (n : Nat), .int .i64 (m : Nat), .int .i64 (k : Nat), .slice (some ⟨bA, oA, none⟩) qs.length c] 28 (0, 0)) := by rw [← hwdz49]; exact h2
            replace h3 : At wdz49 Wz2.heap.size (.cells #[.int .i64 (P : Nat), .int .i64 (u : Nat), .int .i64 (v : Nat), .int .i64 (t : Nat), .slice (some ⟨bB, oB, none⟩) rs.length d] 28 (0, 0)) := by rw [← hwdz49]; exact h3
            replace h4 : At wdz49 Wz8.heap.size (.cells #[.int .i64 0, .int .i64 0, .int .i64 0, .int .i64 0, .slice none 0 0] 28 (0, 0)) := by rw [← hwdz49]; exact h4
            replace h6 : At wdz49 Wz31.heap.size (.cells #[.int .i64 (P : Nat), .int .i64 (N1 : Nat), .int .i64 (N2 : Nat), .int .i64 (N3 : Nat), .slice A9 L9 c9] 28 (0, 0)) := by rw [← hwdz49]; exact h6
            replace ho : Own wdz49 w.heap.size (.slice A9 L9 c9) (kmI (kmQ P n m k u v t) qs rs qs[a] a (b)) := by rw [← hwdz49]; exact ho.drew
            clear hwdz49
            refine y_yield 0 (some 90) (.pointer (some ⟨w.heap.size, 4, none⟩)) rfl (by kernel_rfl) (by kernel_rfl) (by kernel_rfl) (fun _ _ _ h => h) rfl rfl ⟨hB, h2, h3⟩ (fun w' h' => exec_fieldAddr 28 _ 4 rfl _ (by kernel_rfl)) ?_
            go_frame
            refine y_yield 1 (some 91) (.slice (some ⟨bA, oA, none⟩) qs.length c) rfl (by kernel_rfl) (by kernel_rfl) (by kernel_rfl) (fun _ _ _ h => h) rfl rfl ⟨hB, h2, h3⟩ (fun w' h' => exec_load_one 26 _ rfl w.heap.size 4 rfl (.slice (some ⟨bA, oA, none⟩) qs.length c) _ Try.underlying26 rfl (h'.2.1.at_ 4)) ?_
            go_frame
            refine y_yield 2 (some 92) (.int .i64 a) rfl (by kernel_rfl) (by kernel_rfl) (by kernel_rfl) (fun _ _ _ h => h) rfl rfl ⟨hB, h2, h3⟩ (fun w' h' => exec_move _ rfl (.int .i64 a) rfl) ?_
            go_frame
            refine y_yield 3 (some 93) (.pointer (some ⟨bA, oA + a * 27, none⟩)) rfl (by kernel_rfl) (by kernel_rfl) (by kernel_rfl) (fun _ _ _ h => h) rfl rfl ⟨hB, h2, h3⟩ (fun w' h' => exec_index_slice _ 53 _ _ rfl bA oA qs.length c a 27 rfl rfl Try.underlying26 (by kernel_rfl) (by omega)) ?_
            go_frame
            refine y_yield 4 (some 94) (.agg (u8s (qs[a]))) rfl (by kernel_rfl) (by kernel_rfl) (by kernel_rfl) (fun _ _ _ h => h) rfl rfl ⟨hB, h2, h3⟩ (fun w' h' => exec_load_cells 53 _ rfl bA (oA + a * 27) rfl (qs[a]) _ 27 (Rd.c27m (hR.keep h'.1) hlt) Try.underlying53 rfl (by kernel_rfl) (hq.len)) ?_
            go_frame
            refine y_yield 5 (some 95) (.pointer (some ⟨Wz2.heap.size, 4, none⟩)) rfl (by kernel_rfl) (by kernel_rfl) (by kernel_rfl) (fun _ _ _ h => h) rfl rfl ⟨hB, h2, h3⟩ (fun w' h' => exec_fieldAddr 28 _ 4 rfl _ (by kernel_rfl)) ?_
            go_frame
            refine y_yield 6 (some 96) (.slice (some ⟨bB, oB, none⟩) rs.length d) rfl (by kernel_rfl) (by kernel_rfl) (by kernel_rfl) (fun _ _ _ h => h) rfl rfl ⟨hB, h2, h3⟩ (fun w' h' => exec_load_one 26 _ rfl Wz2.heap.size 4 rfl (.slice (some ⟨bB, oB, none⟩) rs.length d) _ Try.underlying26 rfl (h'.2.2.at_ 4)) ?_
            go_frame
            refine y_yield 7 (some 97) (.int .i64 b) rfl (by kernel_rfl) (by kernel_rfl) (by kernel_rfl) (fun _ _ _ h => h) rfl rfl ⟨hB, h2, h3⟩ (fun w' h' => exec_move _ rfl (.int .i64 b) rfl) ?_
            go_frame
            refine y_yield 8 (some 98) (.pointer (some ⟨bB, oB + b * 27, none⟩)) rfl (by kernel_rfl) (by kernel_rfl) (by kernel_rfl) (fun _ _ _ h => h) rfl rfl ⟨hB, h2, h3⟩ (fun w' h' => exec_index_slice _ 53 _ _ rfl bB oB rs.length d b 27 rfl rfl Try.underlying26 (by kernel_rfl) (by omega)) ?_
            go_frame
            refine y_yield 9 (some 99) (.agg (u8s (rs[b]))) rfl (by kernel_rfl) (by kernel_rfl) (by kernel_rfl) (fun _ _ _ h => h) rfl rfl ⟨hB, h2, h3⟩ (fun w' h' => exec_load_cells 53 _ rfl bB (oB + b * 27) rfl (rs[b]) _ 27 (Rd.c27m (hS.keep h'.1) hlt2) Try.underlying53 rfl (by kernel_rfl) (hr.len)) ?_
            go_frame
            refine y_two 10 11 (by kernel_rfl) rfl rfl rfl rfl (fun K' hK' => ?_) (fun K' hK' => ?_)
            · have lz50 := hB.size
              have lz51 := h2.lt
              have lz52 := h3.lt
              have lz53 := h4.lt
              have lz54 := h6.lt
              have naz59 := ho.away_new
              refine wp_new (some 9) rfl (alX_impl_Product rfl) (fun Wz55 nnz56 => ?_)
              have bz57 := nnz56.below (Below.refl _ _) (Nat.le_refl _)
              replace hB := below_after hB bz57
              replace h2 := h2.after bz57
              replace h3 := h3.after bz57
              replace h4 := h4.after bz57
              replace h6 := h6.after bz57
              replace ho := ho.below bz57
              have hz58 : At Wz55 wdz49.heap.size (.cells (u8s (List.replicate 27 0)) 53 (0, 0)) := nnz56.at_
              refine hK' _ _ ⟨hB, h2, h3⟩ (fun _ => trivial) ?_
              clear hK' K' nnz56 bz57
              go_frame
              refine y_oper 11 (by kernel_rfl) rfl rfl (fun K' hK' => ?_)
              have lz60 := hB.size
              have lz61 := h2.lt
              have lz62 := h3.lt
              have lz63 := h4.lt
              have lz64 := h6.lt
              have lz65 := hz58.lt
              have naz70 := ho.away_new
              refine wp_new (some 10) rfl (alX_impl_Product rfl) (fun Wz66 nnz67 => ?_)
              have bz68 := nnz67.below (Below.refl _ _) (Nat.le_refl _)
              replace hB := below_after hB bz68
              replace h2 := h2.after bz68
              replace h3 := h3.after bz68
              replace h4 := h4.after bz68
              replace h6 := h6.after bz68
              replace ho := ho.below bz68
              replace hz58 := hz58.after bz68
              have hz69 : At Wz66 Wz55.heap.size (.cells (u8s (List.replicate 27 0)) 53 (0, 0)) := nnz67.at_
              refine hK' _ _ ⟨hB, h2, h3⟩ (fun _ => trivial) ?_
              clear hK' K' nnz67 bz68
              go_frame
              refine y_oper 12 (by kernel_rfl) rfl rfl (fun K' hK' => ?_)
              refine wp_store_bytes 53 _ _ rfl rfl wdz49.heap.size rfl (qs[a]) rfl _ _ hz58 27 (by kernel_rfl) hq.len (by simp) (fun Wz71 pz72 => ?_)
              replace hB := pz72.below hB (by omega)
              replace h2 := pz72.other h2 (by omega)
              replace h3 := pz72.other h3 (by omega)
              replace h4 := pz72.other h4 (by omega)
              replace h6 := pz72.other h6 (by omega)
              replace ho := ho.put pz72 naz59
              replace hz69 := pz72.other hz69 (by omega)
              replace hz58 : At Wz71 wdz49.heap.size (.cells (u8s (qs[a])) 53 (0, 0)) := pz72.at_
              refine hK' _ _ ⟨hB, h2, h3⟩ (fun _ => trivial) ?_
              clear hK' K' pz72
              refine y_oper 13 (by kernel_rfl) rfl rfl (fun K' hK' => ?_)
              refine wp_store_bytes 53 _ _ rfl rfl Wz55.heap.size rfl (rs[b]) rfl _ _ hz69 27 (by kernel_rfl) hr.len (by simp) (fun Wz73 pz74 => ?_)
              replace hB := pz74.below hB (by omega)
              replace h2 := pz74.other h2 (by omega)
              replace h3 := pz74.other h3 (by omega)
              replace h4 := pz74.other h4 (by omega)
              replace h6 := pz74.other h6 (by omega)
              replace ho := ho.put pz74 naz70
              replace hz58 := pz74.other hz58 (by omega)
              replace hz69 : At Wz73 Wz55.heap.size (.cells (u8s (rs[b])) 53 (0, 0)) := pz74.at_
              refine hK' _ _ ⟨hB, h2, h3⟩ (fun _ => trivial) ?_
              clear hK' K' pz74
              refine y_done (by kernel_rfl) ?_ _
              go_wp2_with fail
              go_meet
              exact ⟨_, _, rfl, rfl, by omega, by omega, by omega, by omega, by omega, by omega, by omega, by omega, naz59, naz70, hz58, hz69, hB, h2, h3, h4, h6, ho⟩
            · have lz75 := hB.size
              have lz76 := h2.lt
              have lz77 := h3.lt
              have lz78 := h4.lt
              have lz79 := h6.lt
              have naz84 := ho.away_new
              refine wp_new (some 10) rfl (alX_impl_Product rfl) (fun Wz80 nnz81 => ?_)
              have bz82 := nnz81.below (Below.refl _ _) (Nat.le_refl _)
              replace hB := below_after hB bz82
              replace h2 := h2.after bz82
              replace h3 := h3.after bz82
              replace h4 := h4.after bz82
              replace h6 := h6.after bz82
              replace ho := ho.below bz82
              have hz83 : At Wz80 wdz49.heap.size (.cells (u8s (List.replicate 27 0)) 53 (0, 0)) := nnz81.at_
              refine hK' _ _ ⟨hB, h2, h3⟩ (fun _ => trivial) ?_
              clear hK' K' nnz81 bz82
              go_frame
              refine y_oper 10 (by kernel_rfl) rfl rfl (fun K' hK' => ?_)
              have lz85 := hB.size
              have lz86 := h2.lt
              have lz87 := h3.lt
              have lz88 := h4.lt
              have lz89 := h6.lt
              have lz90 := hz83.lt
              have naz95 := ho.away_new
              refine wp_new (some 9) rfl (alX_impl_Product rfl) (fun Wz91 nnz92 => ?_)
              have bz93 := nnz92.below (Below.refl _ _) (Nat.le_refl _)
              replace hB := below_after hB bz93
              replace h2 := h2.after bz93
              replace h3 := h3.after bz93
              replace h4 := h4.after bz93
              replace h6 := h6.after bz93
              replace ho := ho.below bz93
              replace hz83 := hz83.after bz93
              have hz94 : At Wz91 Wz80.heap.size (.cells (u8s (List.replicate 27 0)) 53 (0, 0)) := nnz92.at_
              refine hK' _ _ ⟨hB, h2, h3⟩ (fun _ => trivial) ?_
              clear hK' K' nnz92 bz93
              go_frame
              refine y_oper 12 (by kernel_rfl) rfl rfl (fun K' hK' => ?_)
              refine wp_store_bytes 53 _ _ rfl rfl Wz80.heap.size rfl (qs[a]) rfl _ _ hz94 27 (by kernel_rfl) hq.len (by simp) (fun Wz96 pz97 => ?_)
              replace hB := pz97.below hB (by omega)
              replace h2 := pz97.other h2 (by omega)
              replace h3 := pz97.other h3 (by omega)
              replace h4 := pz97.other h4 (by omega)
              replace h6 := pz97.other h6 (by omega)
              replace ho := ho.put pz97 naz95
              replace hz83 := pz97.other hz83 (by omega)
              replace hz94 : At Wz96 Wz80.heap.size (.cells (u8s (qs[a])) 53 (0, 0)) := pz97.at_
              refine hK' _ _ ⟨hB, h2, h3⟩ (fun _ => trivial) ?_
              clear hK' K' pz97
              refine y_oper 13 (by kernel_rfl) rfl rfl (fun K' hK' => ?_)
              refine wp_store_bytes 53 _ _ rfl rfl wdz49.heap.size rfl (rs[b]) rfl _ _ hz83 27 (by kernel_rfl) hr.len (by simp) (fun Wz98 pz99 => ?_)
              replace hB := pz99.below hB (by omega)
              replace h2 := pz99.other h2 (by omega)
              replace h3 := pz99.other h3 (by omega)
              replace h4 := pz99.other h4 (by omega)
              replace h6 := pz99.other h6 (by omega)
              replace ho := ho.put pz99 naz84
              replace hz94 := pz99.other hz94 (by omega)
              replace hz83 : At Wz98 wdz49.heap.size (.cells (u8s (rs[b])) 53 (0, 0)) := pz99.at_
              refine hK' _ _ ⟨hB, h2, h3⟩ (fun _ => trivial) ?_
              clear hK' K' pz99
              refine y_done (by kernel_rfl) ?_ _
              go_wp2_with fail
              go_meet
              exact ⟨_, _, rfl, rfl, by omega, by omega, by omega, by omega, by omega, by omega, by omega, by omega, naz95, naz84, hz94, hz83, hB, h2, h3, h4, h6, ho⟩
          case rest =>
          clear hB h2 h3 h4 h6 ho
          obtain ⟨B1, B2, rfl, rfl, g0, g0', g1, g1', g2, g2', g3, g3', na1, na2, hb1, hb2, hB, h2, h3, h4, h6, ho⟩ := hcut
          obtain ⟨wc, rfl⟩ := cut_worldM hB
          go_upto_region 15 with (fail)
          refine wp_region_y (zs := [39]) (S := fun w' => Below w.heap.size w w' ∧ At w' w.heap.size (.cells #[.int .i64 (P : Nat), .int .i64 (n : Nat), .int .i64 (m : Nat), .int .i64 (k : Nat), .slice (some ⟨bA, oA, none⟩) qs.length c] 28 (0, 0)) ∧ At w' B1 (.cells (u8s (qs[a])) 53 (0, 0)) ∧ At w' B2 (.cells (u8s (rs[b])) 53 (0, 0)) ∧ At w' Wz2.heap.size (.cells #[.int .i64 (P : Nat), .int .i64 (u : Nat), .int .i64 (v : Nat), .int .i64 (t : Nat), .slice (some ⟨bB, oB, none⟩) rs.length d] 28 (0, 0))) (S2 := fun w' => At w' Wz31.heap.size (.cells #[.int .i64 (P : Nat), .int .i64 (N1 : Nat), .int .i64 (N2 : Nat), .int .i64 (N3 : Nat), .slice A9 L9 c9] 28 (0, 0))) (by kernel_rfl) ?_
          change wpAnyY _ _ _ _ _ _ _ _ _ _ (World.drew _)
          generalize hwdz100 : World.drew _ = wdz100
          replace hB : Below w.heap.size w wdz100 := by rw [← hwdz100]; exact hB.drew
          replace h2 : At wdz100 w.heap.size (.cells #[.int .i64 (P : Nat), .int .i64 (n : Nat), .int .i64 (m : Nat), .int .i64 (k : Nat), .slice (some ⟨bA, oA, none⟩) qs.length c] 28 (0, 0)) := by rw [← hwdz100]; exact h2
          replace h3 : At wdz100 Wz2.heap.size (.cells #[.int .i64 (P : Nat), .int .i64 (u : Nat), .int .i64 (v : Nat), .int .i64 (t : Nat), .slice (some ⟨bB, oB, none⟩) rs.length d] 28 (0, 0)) := by rw [← hwdz100]; exact h3
          replace h4 : At wdz100 Wz8.heap.size (.cells #[.int .i64 0, .int .i64 0, .int .i64 0, .int .i64 0, .slice none 0 0] 28 (0, 0)) := by rw [← hwdz100]; exact h4
          replace h6 : At wdz100 Wz31.heap.size (.cells #[.int .i64 (P : Nat), .int .i64 (N1 : Nat), .int .i64 (N2 : Nat), .int .i64 (N3 : Nat), .slice A9 L9 c9] 28 (0, 0)) := by rw [← hwdz100]; exact h6
          replace ho : Own wdz100 w.heap.size (.slice A9 L9 c9) (kmI (kmQ P n m k u v t) qs rs qs[a] a (b)) := by rw [← hwdz100]; exact ho.drew
          replace hb1 : At wdz100 B1 (.cells (u8s (qs[a])) 53 (0, 0)) := by rw [← hwdz100]; exact hb1
          replace hb2 : At wdz100 B2 (.cells (u8s (rs[b])) 53 (0, 0)) := by rw [← hwdz100]; exact hb2
          clear hwdz100
          refine y_yield 0 (some 100) (.pointer (some ⟨Wz31.heap.size, 4, none⟩)) rfl (by kernel_rfl) (by kernel_rfl) (by kernel_rfl) (fun _ _ _ h => h) rfl rfl ⟨hB, h2, hb1, hb2, h3⟩ (fun w' h' => exec_fieldAddr 28 _ 4 rfl _ (by kernel_rfl)) ?_
          go_frame
          refine y_yield3 1 (some 101) (.slice A9 L9 c9) rfl 40 (by kernel_rfl) (by kernel_rfl) (by kernel_rfl) (by kernel_rfl) (by kernel_rfl) (fun _ _ _ h => h) rfl rfl ⟨hB, h2, hb1, hb2, h3⟩ h6 (fun w' h' h2' => exec_load_one 26 _ rfl Wz31.heap.size 4 rfl (.slice A9 L9 c9) _ Try.underlying26 rfl (h2'.at_ 4)) ?_
          go_frame
          refine y_yield 2 (some 102) (.pointer (some ⟨w.heap.size, 0, none⟩)) rfl (by kernel_rfl) (by kernel_rfl) (by kernel_rfl) (fun _ _ _ h => h) rfl rfl ⟨hB, h2, hb1, hb2, h3⟩ (fun w' h' => exec_fieldAddr 28 _ 0 rfl _ (by kernel_rfl)) ?_
          go_frame
          refine y_yield 3 (some 103) (.int .i64 (P : Nat)) rfl (by kernel_rfl) (by kernel_rfl) (by kernel_rfl) (fun _ _ _ h => h) rfl rfl ⟨hB, h2, hb1, hb2, h3⟩ (fun w' h' => exec_load_one 2 _ rfl w.heap.size 0 rfl (.int .i64 (P : Nat)) _ Try.underlying2 rfl (h'.2.1.at_ 0)) ?_
          go_frame
          refine y_yield 4 (some 104) (.pointer (some ⟨B1, 0, none⟩)) rfl (by kernel_rfl) (by kernel_rfl) (by kernel_rfl) (fun _ _ _ h => h) rfl rfl ⟨hB, h2, hb1, hb2, h3⟩ (fun w' h' => exec_fieldAddr 53 _ 0 rfl _ (by kernel_rfl)) ?_
          go_frame
          refine y_yield 5 (some 105) (.agg (u8s (segm qs[a] 0 9))) rfl (by kernel_rfl) (by kernel_rfl) (by kernel_rfl) (fun _ _ _ h => h) rfl rfl ⟨hB, h2, hb1, hb2, h3⟩ (fun w' h' => exec_load_seg 51 _ rfl B1 (0) rfl _ (qs[a]) _ 9 h'.2.2.1 Try.underlying51 rfl (by kernel_rfl) (by rw [hq.len]; omega) (segm qs[a] 0 9) rfl) ?_
          go_frame
          refine y_yield 6 (some 106) (.pointer (some ⟨w.heap.size, 1, none⟩)) rfl (by kernel_rfl) (by kernel_rfl) (by kernel_rfl) (fun _ _ _ h => h) rfl rfl ⟨hB, h2, hb1, hb2, h3⟩ (fun w' h' => exec_fieldAddr 28 _ 1 rfl _ (by kernel_rfl)) ?_
          go_frame
          refine y_yield 7 (some 107) (.int .i64 (n : Nat)) rfl (by kernel_rfl) (by kernel_rfl) (by kernel_rfl) (fun _ _ _ h => h) rfl rfl ⟨hB, h2, hb1, hb2, h3⟩ (fun w' h' => exec_load_one 2 _ rfl w.heap.size 1 rfl (.int .i64 (n : Nat)) _ Try.underlying2 rfl (h'.2.1.at_ 1)) ?_
          go_frame
          refine y_yield 8 (some 108) (.pointer (some ⟨B2, 0, none⟩)) rfl (by kernel_rfl) (by kernel_rfl) (by kernel_rfl) (fun _ _ _ h => h) rfl rfl ⟨hB, h2, hb1, hb2, h3⟩ (fun w' h' => exec_fieldAddr 53 _ 0 rfl _ (by kernel_rfl)) ?_
          go_frame
          refine y_yield 9 (some 109) (.agg (u8s (segm rs[b] 0 9))) rfl (by kernel_rfl) (by kernel_rfl) (by kernel_rfl) (fun _ _ _ h => h) rfl rfl ⟨hB, h2, hb1, hb2, h3⟩ (fun w' h' => exec_load_seg 51 _ rfl B2 (0) rfl _ (rs[b]) _ 9 h'.2.2.2.1 Try.underlying51 rfl (by kernel_rfl) (by rw [hr.len]; omega) (segm rs[b] 0 9) rfl) ?_
          go_frame
          refine y_yield 10 (some 110) (.pointer (some ⟨Wz2.heap.size, 1, none⟩)) rfl (by kernel_rfl) (by kernel_rfl) (by kernel_rfl) (fun _ _ _ h => h) rfl rfl ⟨hB, h2, hb1, hb2, h3⟩ (fun w' h' => exec_fieldAddr 28 _ 1 rfl _ (by kernel_rfl)) ?_
          go_frame
          refine y_yield 11 (some 111) (.int .i64 (u : Nat)) rfl (by kernel_rfl) (by kernel_rfl) (by kernel_rfl) (fun _ _ _ h => h) rfl rfl ⟨hB, h2, hb1, hb2, h3⟩ (fun w' h' => exec_load_one 2 _ rfl Wz2.heap.size 1 rfl (.int .i64 (u : Nat)) _ Try.underlying2 rfl (h'.2.2.2.2.at_ 1)) ?_
          go_frame
          refine y_yield 13 (some 113) (.pointer (some ⟨w.heap.size, 0, none⟩)) rfl (by kernel_rfl) (by kernel_rfl) (by kernel_rfl) (fun _ _ _ h => h) rfl rfl ⟨hB, h2, hb1, hb2, h3⟩ (fun w' h' => exec_fieldAddr 28 _ 0 rfl _ (by kernel_rfl)) ?_
          go_frame
          refine y_yield 14 (some 114) (.int .i64 (P : Nat)) rfl (by kernel_rfl) (by kernel_rfl) (by kernel_rfl) (fun _ _ _ h => h) rfl rfl ⟨hB, h2, hb1, hb2, h3⟩ (fun w' h' => exec_load_one 2 _ rfl w.heap.size 0 rfl (.int .i64 (P : Nat)) _ Try.underlying2 rfl (h'.2.1.at_ 0)) ?_
          go_frame
          refine y_yield 15 (some 115) (.pointer (some ⟨B1, 9, none⟩)) rfl (by kernel_rfl) (by kernel_rfl) (by kernel_rfl) (fun _ _ _ h => h) rfl rfl ⟨hB, h2, hb1, hb2, h3⟩ (fun w' h' => exec_fieldAddr 53 _ 1 rfl _ (by kernel_rfl)) ?_
          go_frame
          refine y_yield 16 (some 116) (.agg (u8s (segm qs[a] 9 9))) rfl (by kernel_rfl) (by kernel_rfl) (by kernel_rfl) (fun _ _ _ h => h) rfl rfl ⟨hB, h2, hb1, hb2, h3⟩ (fun w' h' => exec_load_seg 51 _ rfl B1 (9) rfl _ (qs[a]) _ 9 h'.2.2.1 Try.underlying51 rfl (by kernel_rfl) (by rw [hq.len]; omega) (segm qs[a] 9 9) rfl) ?_
          go_frame
          refine y_yield 17 (some 117) (.pointer (some ⟨w.heap.size, 2, none⟩)) rfl (by kernel_rfl) (by kernel_rfl) (by kernel_rfl) (fun _ _ _ h => h) rfl rfl ⟨hB, h2, hb1, hb2, h3⟩ (fun w' h' => exec_fieldAddr 28 _ 2 rfl _ (by kernel_rfl)) ?_
          go_frame
          refine y_yield 18 (some 118) (.int .i64 (m : Nat)) rfl (by kernel_rfl) (by kernel_rfl) (by kernel_rfl) (fun _ _ _ h => h) rfl rfl ⟨hB, h2, hb1, hb2, h3⟩ (fun w' h' => exec_load_one 2 _ rfl w.heap.size 2 rfl (.int .i64 (m : Nat)) _ Try.underlying2 rfl (h'.2.1.at_ 2)) ?_
          go_frame
          refine y_yield 19 (some 119) (.pointer (some ⟨B2, 9, none⟩)) rfl (by kernel_rfl) (by kernel_rfl) (by kernel_rfl) (fun _ _ _ h => h) rfl rfl ⟨hB, h2, hb1, hb2, h3⟩ (fun w' h' => exec_fieldAddr 53 _ 1 rfl _ (by kernel_rfl)) ?_
          go_frame
          refine y_yield 20 (some 120) (.agg (u8s (segm rs[b] 9 9))) rfl (by kernel_rfl) (by kernel_rfl) (by kernel_rfl) (fun _ _ _ h => h) rfl rfl ⟨hB, h2, hb1, hb2, h3⟩ (fun w' h' => exec_load_seg 51 _ rfl B2 (9) rfl _ (rs[b]) _ 9 h'.2.2.2.1 Try.underlying51 rfl (by kernel_rfl) (by rw [hr.len]; omega) (segm rs[b] 9 9) rfl) ?_
          go_frame
          refine y_yield 21 (some 121) (.pointer (some ⟨Wz2.heap.size, 2, none⟩)) rfl (by kernel_rfl) (by kernel_rfl) (by kernel_rfl) (fun _ _ _ h => h) rfl rfl ⟨hB, h2, hb1, hb2, h3⟩ (fun w' h' => exec_fieldAddr 28 _ 2 rfl _ (by kernel_rfl)) ?_
          go_frame
          refine y_yield 22 (some 122) (.int .i64 (v : Nat)) rfl (by kernel_rfl) (by kernel_rfl) (by kernel_rfl) (fun _ _ _ h => h) rfl rfl ⟨hB, h2, hb1, hb2, h3⟩ (fun w' h' => exec_load_one 2 _ rfl Wz2.heap.size 2 rfl (.int .i64 (v : Nat)) _ Try.underlying2 rfl (h'.2.2.2.2.at_ 2)) ?_
          go_frame
          refine y_yield 24 (some 124) (.pointer (some ⟨w.heap.size, 0, none⟩)) rfl (by kernel_rfl) (by kernel_rfl) (by kernel_rfl) (fun _ _ _ h => h) rfl rfl ⟨hB, h2, hb1, hb2, h3⟩ (fun w' h' => exec_fieldAddr 28 _ 0 rfl _ (by kernel_rfl)) ?_
          go_frame
          refine y_yield 25 (some 125) (.int .i64 (P : Nat)) rfl (by kernel_rfl) (by kernel_rfl) (by kernel_rfl) (fun _ _ _ h => h) rfl rfl ⟨hB, h2, hb1, hb2, h3⟩ (fun w' h' => exec_load_one 2 _ rfl w.heap.size 0 rfl (.int .i64 (P : Nat)) _ Try.underlying2 rfl (h'.2.1.at_ 0)) ?_
          go_frame
          refine y_yield 26 (some 126) (.pointer (some ⟨B1, 18, none⟩)) rfl (by kernel_rfl) (by kernel_rfl) (by kernel_rfl) (fun _ _ _ h => h) rfl rfl ⟨hB, h2, hb1, hb2, h3⟩ (fun w' h' => exec_fieldAddr 53 _ 2 rfl _ (by kernel_rfl)) ?_
          go_frame
          refine y_yield 27 (some 127) (.agg (u8s (segm qs[a] 18 9))) rfl (by kernel_rfl) (by kernel_rfl) (by kernel_rfl) (fun _ _ _ h => h) rfl rfl ⟨hB, h2, hb1, hb2, h3⟩ (fun w' h' => exec_load_seg 51 _ rfl B1 (18) rfl _ (qs[a]) _ 9 h'.2.2.1 Try.underlying51 rfl (by kernel_rfl) (by rw [hq.len]; omega) (segm qs[a] 18 9) rfl) ?_
          go_frame
          refine y_yield 28 (some 128) (.pointer (some ⟨w.heap.size, 3, none⟩)) rfl (by kernel_rfl) (by kernel_rfl) (by kernel_rfl) (fun _ _ _ h => h) rfl rfl ⟨hB, h2, hb1, hb2, h3⟩ (fun w' h' => exec_fieldAddr 28 _ 3 rfl _ (by kernel_rfl)) ?_
          go_frame
          refine y_yield 29 (some 129) (.int .i64 (k : Nat)) rfl (by kernel_rfl) (by kernel_rfl) (by kernel_rfl) (fun _ _ _ h => h) rfl rfl ⟨hB, h2, hb1, hb2, h3⟩ (fun w' h' => exec_load_one 2 _ rfl w.heap.size 3 rfl (.int .i64 (k : Nat)) _ Try.underlying2 rfl (h'.2.1.at_ 3)) ?_
          go_frame
          refine y_yield 30 (some 130) (.pointer (some ⟨B2, 18, none⟩)) rfl (by kernel_rfl) (by kernel_rfl) (by kernel_rfl) (fun _ _ _ h => h) rfl rfl ⟨hB, h2, hb1, hb2, h3⟩ (fun w' h' => exec_fieldAddr 53 _ 2 rfl _ (by kernel_rfl)) ?_
          go_frame
          refine y_yield 31 (some 131) (.agg (u8s (segm rs[b] 18 9))) rfl (by kernel_rfl) (by kernel_rfl) (by kernel_rfl) (fun _ _ _ h => h) rfl rfl ⟨hB, h2, hb1, hb2, h3⟩ (fun w' h' => exec_load_seg 51 _ rfl B2 (18) rfl _ (rs[b]) _ 9 h'.2.2.2.1 Try.underlying51 rfl (by kernel_rfl) (by rw [hr.len]; omega) (segm rs[b] 18 9) rfl) ?_
          go_frame
          refine y_yield 32 (some 132) (.pointer (some ⟨Wz2.heap.size, 3, none⟩)) rfl (by kernel_rfl) (by kernel_rfl) (by kernel_rfl) (fun _ _ _ h => h) rfl rfl ⟨hB, h2, hb1, hb2, h3⟩ (fun w' h' => exec_fieldAddr 28 _ 3 rfl _ (by kernel_rfl)) ?_
          go_frame
          refine y_yield 33 (some 133) (.int .i64 (t : Nat)) rfl (by kernel_rfl) (by kernel_rfl) (by kernel_rfl) (fun _ _ _ h => h) rfl rfl ⟨hB, h2, hb1, hb2, h3⟩ (fun w' h' => exec_load_one 2 _ rfl Wz2.heap.size 3 rfl (.int .i64 (t : Nat)) _ Try.underlying2 rfl (h'.2.2.2.2.at_ 3)) ?_
          go_frame
          refine y_oper 12 (by kernel_rfl) rfl rfl (fun K' hK' => ?_)
          have lz103 := hB.size
          have lz104 := h2.lt
          have lz105 := h3.lt
          have lz106 := h4.lt
          have lz107 := h6.lt
          have lz108 := hb1.lt
          have lz109 := hb2.lt
          refine wp_call5m (some 112) rfl 24 _ _ _ _ _ _ rfl (fun args w => by kernel_rfl) _ _ _ _ _ rfl rfl rfl rfl rfl _ (l09Form_c P n u (segm qs[a] 0 9) (segm rs[b] 0 9) (segm_bytes hq (by omega)) (segm_bytes hr (by omega)) _ hP bn bu Hc1.out) (fun e Wz101 h => ?_)
          obtain ⟨rfl, bz102⟩ := h
          replace hB := below_after hB bz102
          replace h2 := h2.after bz102
          replace h3 := h3.after bz102
          replace h4 := h4.after bz102
          replace h6 := h6.after bz102
          replace ho := ho.below bz102
          replace hb1 := hb1.after bz102
          replace hb2 := hb2.after bz102
          clear bz102
          refine ⟨_, rfl, ?_⟩
          refine hK' _ _ ⟨hB, h2, hb1, hb2, h3⟩ (fun _ => h6) ?_
          clear hK' K'
          go_frame
          refine y_oper 23 (by kernel_rfl) rfl rfl (fun K' hK' => ?_)
          have lz112 := hB.size
          have lz113 := h2.lt
          have lz114 := h3.lt
          have lz115 := h4.lt
          have lz116 := h6.lt
          have lz117 := hb1.lt
          have lz118 := hb2.lt
          refine wp_call5m (some 123) rfl 24 _ _ _ _ _ _ rfl (fun args w => by kernel_rfl) _ _ _ _ _ rfl rfl rfl rfl rfl _ (l09Form_c P m v (segm qs[a] 9 9) (segm rs[b] 9 9) (segm_bytes hq (by omega)) (segm_bytes hr (by omega)) _ hP bm bv Hc2.out) (fun e Wz110 h => ?_)
          obtain ⟨rfl, bz111⟩ := h
          replace hB := below_after hB bz111
          replace h2 := h2.after bz111
          replace h3 := h3.after bz111
          replace h4 := h4.after bz111
          replace h6 := h6.after bz111
          replace ho := ho.below bz111
          replace hb1 := hb1.after bz111
          replace hb2 := hb2.after bz111
          clear bz111
          refine ⟨_, rfl, ?_⟩
          refine hK' _ _ ⟨hB, h2, hb1, hb2, h3⟩ (fun _ => h6) ?_
          clear hK' K'
          go_frame
          refine y_oper 34 (by kernel_rfl) rfl rfl (fun K' hK' => ?_)
          have lz121 := hB.size
          have lz122 := h2.lt
          have lz123 := h3.lt
          have lz124 := h4.lt
          have lz125 := h6.lt
          have lz126 := hb1.lt
          have lz127 := hb2.lt
          refine wp_call5m (some 134) rfl 24 _ _ _ _ _ _ rfl (fun args w => by kernel_rfl) _ _ _ _ _ rfl rfl rfl rfl rfl _ (l09Form_c P k t (segm qs[a] 18 9) (segm rs[b] 18 9) (segm_bytes hq (by omega)) (segm_bytes hr (by omega)) _ hP bk bt Hc3.out) (fun e Wz119 h => ?_)
          obtain ⟨rfl, bz120⟩ := h
          replace hB := below_after hB bz120
          replace h2 := h2.after bz120
          replace h3 := h3.after bz120
          replace h4 := h4.after bz120
          replace h6 := h6.after bz120
          replace ho := ho.below bz120
          replace hb1 := hb1.after bz120
          replace hb2 := hb2.after bz120
          clear bz120
          refine ⟨_, rfl, ?_⟩
          refine hK' _ _ ⟨hB, h2, hb1, hb2, h3⟩ (fun _ => h6) ?_
          clear hK' K'
          go_frame
          refine y_yield 35 (some 135) (.agg (u8s (kmQ P n m k u v t qs[a] rs[b]))) rfl (by kernel_rfl) (by kernel_rfl) (by kernel_rfl) (fun _ _ _ h => h) rfl rfl ⟨hB, h2, hb1, hb2, h3⟩ (fun w' h' => exec_prodC _ _ _ rfl (mulF P 1 n 1 u (segm qs[a] 0 9) (segm rs[b] 0 9)) (mulF P 1 m 1 v (segm qs[a] 9 9) (segm rs[b] 9 9)) (mulF P 1 k 1 t (segm qs[a] 18 9) (segm rs[b] 18 9)) rfl rfl rfl (mulF_len _ _ _ _ _ _ _) (mulF_len _ _ _ _ _ _ _) (mulF_len _ _ _ _ _ _ _)) ?_
          go_frame
          refine y_oper 36 (by kernel_rfl) rfl rfl (fun K' hK' => ?_)
          have lz128 := hB.size
          have lz129 := h2.lt
          have lz130 := h3.lt
          have lz131 := h4.lt
          have lz132 := h6.lt
          have lz133 := hb1.lt
          have lz134 := hb2.lt
          refine wp_slice1 (some 136) rfl 26 53 _ rfl (kmQ P n m k u v t qs[a] rs[b]) rfl Try.underlying26 infoProd (kmQ_len _ _ _ _ _ _ _ _ _) (fun Wz135 nnz136 => ?_)
          have bz137 := nnz136.below (Below.refl _ _) (Nat.le_refl _)
          replace hB := below_after hB bz137
          replace h2 := h2.after bz137
          replace h3 := h3.after bz137
          replace h4 := h4.after bz137
          replace h6 := h6.after bz137
          replace ho := ho.below bz137
          replace hb1 := hb1.after bz137
          replace hb2 := hb2.after bz137
          have hqz138 : At Wz135 Wz119.heap.size (.cells (u8s (kmQ P n m k u v t qs[a] rs[b])) 53 (0, 0)) := nnz136.at_
          refine hK' _ _ ⟨hB, h2, hb1, hb2, h3⟩ (fun _ => h6) ?_
          clear hK' K' nnz136 bz137
          go_frame
          refine y_oper 37 (by kernel_rfl) rfl rfl (fun K' hK' => ?_)
          have lz142 := hB.size
          have lz143 := h2.lt
          have lz144 := h3.lt
          have lz145 := h4.lt
          have lz146 := h6.lt
          have lz147 := hb1.lt
          have lz148 := hb2.lt
          have lz149 := hqz138.lt
          refine wp_appP (some 137) rfl _ _ rfl (.slice A9 L9 c9) (kmI (kmQ P n m k u v t) qs rs qs[a] a (b)) (kmQ P n m k u v t qs[a] rs[b]) rfl ho Wz119.heap.size rfl hqz138 (kmQ_len _ _ _ _ _ _ _ _ _) (by rw [HL9.out]; omega) (by omega) (fun v8 Wz139 noz141 grz140 => ?_)
          rw [HT.out] at noz141
          obtain ⟨A8, c8, rfl⟩ := Own.rdN2 noz141 (n := L9 + 1) HAS.out
          replace hB := below_grown hB grz140 ho (by omega)
          replace h2 := h2.grown grz140 (ho.off h2 (by decide))
          replace h3 := h3.grown grz140 (ho.off h3 (by decide))
          replace h4 := h4.grown grz140 (ho.off h4 (by decide))
          replace h6 := h6.grown grz140 (ho.off h6 (by decide))
          replace hb1 := hb1.grown grz140 na1
          replace hb2 := hb2.grown grz140 na2
          replace ho := noz141
          refine hK' _ _ ⟨hB, h2, hb1, hb2, h3⟩ (fun _ => h6) ?_
          clear hK' K' grz140 hqz138
          go_frame
          refine y_yield 38 (some 138) (.pointer (some ⟨Wz31.heap.size, 4, none⟩)) rfl (by kernel_rfl) (by kernel_rfl) (by kernel_rfl) (fun _ _ _ h => h) rfl rfl ⟨hB, h2, hb1, hb2, h3⟩ (fun w' h' => exec_fieldAddr 28 _ 4 rfl _ (by kernel_rfl)) ?_
          go_frame
          refine y_oper 39 (by kernel_rfl) rfl rfl (fun K' hK' => ?_)
          refine wp_store_one 26 _ _ rfl rfl Wz31.heap.size 4 rfl (.slice A8 (L9 + 1) c8) rfl rfl rfl _ _ h6 (by kernel_rfl) (by simp) (fun Wz150 pz151 => ?_)
          replace hB := pz151.below hB (by omega)
          replace h2 := pz151.other h2 (by omega)
          replace h3 := pz151.other h3 (by omega)
          replace h4 := pz151.other h4 (by omega)
          replace ho := ho.put pz151 (ho.off h6 (by decide))
          replace hb1 := pz151.other hb1 (by omega)
          replace hb2 := pz151.other hb2 (by omega)
          replace h6 : At Wz150 Wz31.heap.size (.cells #[.int .i64 (P : Nat), .int .i64 (N1 : Nat), .int .i64 (N2 : Nat), .int .i64 (N3 : Nat), .slice A8 (L9 + 1) c8] 28 (0, 0)) := pz151.at_
          refine hK' _ _ ⟨hB, h2, hb1, hb2, h3⟩ (fun h => absurd (by decide) h) ?_
          clear hK' K' pz151
          refine y_done (by kernel_rfl) ?_ _
          go_upto_region 13 with (fail)
          refine wp_region_lit ?_
          refine ls_ex (some 88) (.int .i64 b) rfl rfl (exec_move _ rfl (.int .i64 b) rfl) ?_
          go_frame
          refine ls_ex (some 89) (.int .i64 (b + 1)) rfl rfl (exec_add _ _ _ _ rfl b 1 (b + 1) rfl rfl (IntWalk.i64_in _ (by omega))) ?_
          go_frame
          refine ls_ex (some 8) (.int .i64 (b + 1)) rfl rfl (exec_assign _ rfl (.int .i64 (b + 1)) rfl) ?_
          go_frame
          refine wpList_nil ?_
          go_wp2_with fail
          go_roundw
          case rel => exact ⟨b + 1, _, by omega, by go_num, hB, h2, h3, h4, h6, ho⟩
          case measure => simp [intOf]; omega
        · obtain ⟨L9, hL9⟩ : ∃ z9, (kmI (kmQ P n m k u v t) qs rs qs[a] a (b)).length = z9 := ⟨_, rfl⟩
          obtain ⟨A9, c9, rfl⟩ := Own.rdN2 ho hL9
          clear hL9
          have HF : Hid (kmI (kmQ P n m k u v t) qs rs qs[a] a (b) = kmO (kmQ P n m k u v t) qs rs (a + 1)) := Lib.hid (by rw [show b = rs.length by omega]; exact kmI_all hlt)
          rw [HF.out] at ho
          go_upto_region 12 with (fail)
          refine wp_region_lit ?_
          refine ls_ex (some 83) (.int .i64 b) rfl rfl (exec_move _ rfl (.int .i64 b) rfl) ?_
          go_frame
          refine ls_ex (some 84) (.pointer (some ⟨Wz2.heap.size, 4, none⟩)) rfl rfl (exec_fieldAddr 28 _ 4 rfl _ (by kernel_rfl)) ?_
          go_frame
          refine ls_ex (some 85) (.slice B rs.length d) rfl rfl (exec_load_one 26 _ rfl Wz2.heap.size 4 rfl (.slice B rs.length d) _ Try.underlying26 rfl (h3.at_ 4)) ?_
          go_frame
          refine ls_ex (some 86) (.int .i64 rs.length) rfl rfl (exec_len _ 26 53 rfl B rs.length d rfl Try.underlying26) ?_
          go_frame
          refine ls_ex (some 87) (.bool false) rfl rfl (exec_lss _ _ _ _ rfl b rs.length rfl rfl false (decide_eq_false (by omega))) ?_
          go_frame
          refine wpList_nil ?_
          go_upto_region 10 with (fail)
          refine wp_region_lit ?_
          refine ls_ex (some 81) (.int .i64 a) rfl rfl (exec_move _ rfl (.int .i64 a) rfl) ?_
          go_frame
          refine ls_ex (some 82) (.int .i64 (a + 1)) rfl rfl (exec_add _ _ _ _ rfl a 1 (a + 1) rfl rfl (IntWalk.i64_in _ (by omega))) ?_
          go_frame
          refine ls_ex (some 7) (.int .i64 (a + 1)) rfl rfl (exec_assign _ rfl (.int .i64 (a + 1)) rfl) ?_
          go_frame
          refine wpList_nil ?_
          go_wp2_with fail
          go_roundw
          case rel => exact ⟨a + 1, _, by omega, by go_num, hB, h2, h3, h4, h6, ho⟩
          case measure => simp [intOf]; omega
    · obtain ⟨L9, hL9⟩ : ∃ z9, (kmO (kmQ P n m k u v t) qs rs (a)).length = z9 := ⟨_, rfl⟩
      obtain ⟨A9, c9, rfl⟩ := Own.rdN2 ho hL9
      clear hL9
      rw [show a = qs.length by omega] at ho
      go_upto_region 9 with (fail)
      refine wp_region_lit ?_
      refine ls_ex (some 76) (.int .i64 a) rfl rfl (exec_move _ rfl (.int .i64 a) rfl) ?_
      go_frame
      refine ls_ex (some 77) (.pointer (some ⟨w.heap.size, 4, none⟩)) rfl rfl (exec_fieldAddr 28 _ 4 rfl _ (by kernel_rfl)) ?_
      go_frame
      refine ls_ex (some 78) (.slice A qs.length c) rfl rfl (exec_load_one 26 _ rfl w.heap.size 4 rfl (.slice A qs.length c) _ Try.underlying26 rfl (h2.at_ 4)) ?_
      go_frame
      refine ls_ex (some 79) (.int .i64 qs.length) rfl rfl (exec_len _ 26 53 rfl A qs.length c rfl Try.underlying26) ?_
      go_frame
      refine ls_ex (some 80) (.bool false) rfl rfl (exec_lss _ _ _ _ rfl a qs.length rfl rfl false (decide_eq_false (by omega))) ?_
      go_frame
      refine wpList_nil ?_
      go_upto_region 16 with (fail)
      refine wp_region_lit ?_
      refine ls_ex (some 139) (.agg #[.int .i64 (P : Nat), .int .i64 (N1 : Nat), .int .i64 (N2 : Nat), .int .i64 (N3 : Nat), .slice A9 L9 c9]) rfl rfl (exec_load_all 28 _ rfl Wz31.heap.size rfl _ _ _ h6 Try.underlying28 rfl 5 (by kernel_rfl) rfl) ?_
      go_frame
      refine ls_op rfl (fun K' hK' => ?_)
      refine wp_store_all 28 _ _ rfl rfl Wz8.heap.size rfl #[.int .i64 (P : Nat), .int .i64 (N1 : Nat), .int .i64 (N2 : Nat), .int .i64 (N3 : Nat), .slice A9 L9 c9] rfl _ _ h4 5 (by kernel_rfl) rfl rfl (one5 _ _ _ _ _ _ _) (fun Wz152 pz153 => ?_)
      replace hB := pz153.below hB (by omega)
      replace h2 := pz153.other h2 (by omega)
      replace h3 := pz153.other h3 (by omega)
      replace h6 := pz153.other h6 (by omega)
      replace ho := ho.put pz153 (ho.off h4 (by decide))
      replace h4 : At Wz152 Wz8.heap.size (.cells #[.int .i64 (P : Nat), .int .i64 (N1 : Nat), .int .i64 (N2 : Nat), .int .i64 (N3 : Nat), .slice A9 L9 c9] 28 (0, 0)) := pz153.at_
      refine hK' _ _ ?_
      clear hK' K' pz153
      refine ls_ex (some 5) (.int .i64 0) rfl rfl (exec_assign _ rfl (.int .i64 0) rfl) ?_
      go_frame
      refine wpList_nil ?_
      go_wp2_with fail
      refine bodyPost_ret (results_at2 rfl _ _ Wz8.heap.size _ _ _ rfl _ rfl h4 Try.underlying28 rfl 5 (by kernel_rfl) rfl) rfl ?_
      unfold ResH hZ hL
      rw [HC.out]
      exact ⟨_, rfl, ho.mono (by omega), hB⟩
end Go.Proofs.Ytopdfblfhdooaaa
