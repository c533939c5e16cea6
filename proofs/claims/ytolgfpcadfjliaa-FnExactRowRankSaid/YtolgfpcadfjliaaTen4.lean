/-
  impl.IsTensor. (Made by mkten4.py.)
-/
import Derived.Test.YtolgfpcadfjliaaSx
import Derived.Test.YtolgfpcadfjliaaTen3
namespace Go.Proofs.Ytolgfpcadfjliaa
open Go.RowKit
set_option maxRecDepth 100000
theorem al_impl_box {o : Oper} {a : Act} {w : World} (ho : o.op = .alloc 52) : (execOp a.eval o).run Try.prog w = .ok (.value (.pointer (some ⟨w.heap.size, 0, none⟩))) (w.alloc (.cells #[.int .i64 0, .int .i64 0, .int .i64 0] 52 (0, 0))) := by
  unfold execOp
  rw [ho]
  kernel_rfl
set_option maxHeartbeats 1600000 in
theorem implIsTensor_a (p i j k : Int) (A : Option Addr) (c : Nat) (xs : List Int) (w : World) (hp : primeB p = false) :
    Calls Try.prog 30 #[.agg #[.int .i64 p, .int .i64 i, .int .i64 j, .int .i64 k, .slice A xs.length c]] w fun e w' => e = .returned (.bool (tenB p i j k xs)) ∧ Below w.heap.size w w' := by
  have hB := Below.refl w.heap.size w
  have Hno := Lib.hid (tenB_p (i := i) (j := j) (k := k) (xs := xs) hp)
  have Hp := Lib.hid hp
  clear hp
  go_enter Try.func30, Try.ntmps30
  go_upto_region 0 with (fail)
  refine wp_region_lit ?_
  refine ls_op rfl (fun K' hK' => ?_)
  have lz1 := hB.size
  refine wp_new (some 1) rfl (exec_box 29 _ rfl (#[.int .i64 p, .int .i64 i, .int .i64 j, .int .i64 k, .slice A xs.length c]) rfl) (fun Wz2 nnz3 => ?_)
  have bz4 := nnz3.below (Below.refl _ _) (Nat.le_refl _)
  replace hB := below_after hB bz4
  have hz5 : At Wz2 w.heap.size (.cells #[.int .i64 p, .int .i64 i, .int .i64 j, .int .i64 k, .slice A xs.length c] 29 (0, 0)) := nnz3.at_
  refine hK' _ _ ?_
  clear hK' K' nnz3 bz4
  go_frame
  refine ls_ex (some 2) (.bool false) rfl rfl (exec_assign _ rfl (.bool false) rfl) ?_
  go_frame
  refine wpList_nil ?_
  go_upto_region 1 with (fail)
  refine wp_region_lit ?_
  refine ls_ex (some 4) (.agg #[.int .i64 p, .int .i64 i, .int .i64 j, .int .i64 k, .slice A xs.length c]) rfl rfl (exec_load_all 29 _ rfl w.heap.size rfl _ _ _ hz5 Try.underlying29 rfl 5 (by kernel_rfl) rfl) ?_
  go_frame
  refine ls_op rfl (fun K' hK' => ?_)
  have lz8 := hB.size
  have lz9 := hz5.lt
  refine wp_call1 (some 5) rfl 32 _ _ rfl (fun args w => by kernel_rfl) _ rfl _ (boxOf_c p i j k _ _) (fun e Wz6 h => ?_)
  obtain ⟨rfl, bz7⟩ := h
  replace hB := below_after hB bz7
  replace hz5 := hz5.after bz7
  clear bz7
  refine ⟨_, rfl, ?_⟩
  refine hK' _ _ ?_
  clear hK' K'
  go_frame
  refine ls_op rfl (fun K' hK' => ?_)
  have lz10 := hB.size
  have lz11 := hz5.lt
  refine wp_new (some 3) rfl (al_impl_box rfl) (fun Wz12 nnz13 => ?_)
  have bz14 := nnz13.below (Below.refl _ _) (Nat.le_refl _)
  replace hB := below_after hB bz14
  replace hz5 := hz5.after bz14
  have hz15 : At Wz12 Wz6.heap.size (.cells #[.int .i64 0, .int .i64 0, .int .i64 0] 52 (0, 0)) := nnz13.at_
  refine hK' _ _ ?_
  clear hK' K' nnz13 bz14
  go_frame
  refine ls_op rfl (fun K' hK' => ?_)
  refine wp_store_all 52 _ _ rfl rfl Wz6.heap.size rfl #[.int .i64 i, .int .i64 j, .int .i64 k] rfl _ _ hz15 3 (by kernel_rfl) rfl rfl (by intro x hx; simp at hx; rcases hx with rfl | rfl | rfl <;> rfl) (fun Wz16 pz17 => ?_)
  replace hB := pz17.below hB (by omega)
  replace hz5 := pz17.other hz5 (by omega)
  replace hz15 : At Wz16 Wz6.heap.size (.cells #[.int .i64 i, .int .i64 j, .int .i64 k] 52 (0, 0)) := pz17.at_
  refine hK' _ _ ?_
  clear hK' K' pz17
  refine wpList_nil ?_
  go_upto_region 2 with (fail)
  refine wp_region_lit ?_
  refine ls_ex (some 6) (.pointer (some ⟨w.heap.size, 0, none⟩)) rfl rfl (exec_fieldAddr 29 _ 0 rfl _ (by kernel_rfl)) ?_
  go_frame
  refine ls_ex (some 7) (.int .i64 p) rfl rfl (exec_load_one 2 _ rfl w.heap.size 0 rfl (.int .i64 p) _ Try.underlying2 rfl (hz5.at_ 0)) ?_
  go_frame
  refine ls_op rfl (fun K' hK' => ?_)
  have lz20 := hB.size
  have lz21 := hz5.lt
  have lz22 := hz15.lt
  refine wp_call1 (some 8) rfl 45 _ _ rfl (fun args w => by kernel_rfl) _ rfl _ (isPrime_c p _) (fun e Wz18 h => ?_)
  obtain ⟨rfl, rfl⟩ := h
  rw [Hp.out]
  refine ⟨_, rfl, ?_⟩
  refine hK' _ _ ?_
  clear hK' K'
  go_frame
  refine ls_ex (some 9) (.bool true) rfl rfl (exec_not _ _ rfl false rfl) ?_
  go_frame
  refine ls_ex (some 10) (.bool true) rfl rfl (exec_move _ rfl (.bool true) rfl) ?_
  go_frame
  refine ls_skip_g (some 11) rfl rfl ?_
  go_frame
  refine ls_skip_g (some 12) rfl rfl ?_
  go_frame
  refine ls_skip_g (some 13) rfl rfl ?_
  go_frame
  refine ls_ex (some 14) (.bool true) rfl rfl (exec_pick _ _ _ rfl true rfl (.bool true) rfl) ?_
  go_frame
  refine wpList_nil ?_
  go_upto_region 3 with (fail)
  refine wp_region_lit ?_
  refine ls_ex (some 2) (.bool false) rfl rfl (exec_assign _ rfl (.bool false) rfl) ?_
  go_frame
  refine wpList_nil ?_
  go_wp2_with fail
  go_ret
  exact ⟨by rw [Hno.out]; rfl, hB⟩
set_option maxHeartbeats 1600000 in
theorem implIsTensor_b (p i j k : Int) (A : Option Addr) (c : Nat) (xs : List Int) (w : World) (hp : primeB p = true) (hs : (sideB i && sideB j && sideB k) = false) :
    Calls Try.prog 30 #[.agg #[.int .i64 p, .int .i64 i, .int .i64 j, .int .i64 k, .slice A xs.length c]] w fun e w' => e = .returned (.bool (tenB p i j k xs)) ∧ Below w.heap.size w w' := by
  have hB := Below.refl w.heap.size w
  have Hno : Hid (tenB p i j k xs = false) := Lib.hid (by simp only [tenB]; rw [Bool.and_assoc (primeB p && sideB i), Bool.and_assoc (primeB p), ← Bool.and_assoc (sideB i), hs]; simp)
  have Hp := Lib.hid hp
  have Hs := Lib.hid hs
  clear hp hs
  go_enter Try.func30, Try.ntmps30
  go_upto_region 0 with (fail)
  refine wp_region_lit ?_
  refine ls_op rfl (fun K' hK' => ?_)
  have lz1 := hB.size
  refine wp_new (some 1) rfl (exec_box 29 _ rfl (#[.int .i64 p, .int .i64 i, .int .i64 j, .int .i64 k, .slice A xs.length c]) rfl) (fun Wz2 nnz3 => ?_)
  have bz4 := nnz3.below (Below.refl _ _) (Nat.le_refl _)
  replace hB := below_after hB bz4
  have hz5 : At Wz2 w.heap.size (.cells #[.int .i64 p, .int .i64 i, .int .i64 j, .int .i64 k, .slice A xs.length c] 29 (0, 0)) := nnz3.at_
  refine hK' _ _ ?_
  clear hK' K' nnz3 bz4
  go_frame
  refine ls_ex (some 2) (.bool false) rfl rfl (exec_assign _ rfl (.bool false) rfl) ?_
  go_frame
  refine wpList_nil ?_
  go_upto_region 1 with (fail)
  refine wp_region_lit ?_
  refine ls_ex (some 4) (.agg #[.int .i64 p, .int .i64 i, .int .i64 j, .int .i64 k, .slice A xs.length c]) rfl rfl (exec_load_all 29 _ rfl w.heap.size rfl _ _ _ hz5 Try.underlying29 rfl 5 (by kernel_rfl) rfl) ?_
  go_frame
  refine ls_op rfl (fun K' hK' => ?_)
  have lz8 := hB.size
  have lz9 := hz5.lt
  refine wp_call1 (some 5) rfl 32 _ _ rfl (fun args w => by kernel_rfl) _ rfl _ (boxOf_c p i j k _ _) (fun e Wz6 h => ?_)
  obtain ⟨rfl, bz7⟩ := h
  replace hB := below_after hB bz7
  replace hz5 := hz5.after bz7
  clear bz7
  refine ⟨_, rfl, ?_⟩
  refine hK' _ _ ?_
  clear hK' K'
  go_frame
  refine ls_op rfl (fun K' hK' => ?_)
  have lz10 := hB.size
  have lz11 := hz5.lt
  refine wp_new (some 3) rfl (al_impl_box rfl) (fun Wz12 nnz13 => ?_)
  have bz14 := nnz13.below (Below.refl _ _) (Nat.le_refl _)
  replace hB := below_after hB bz14
  replace hz5 := hz5.after bz14
  have hz15 : At Wz12 Wz6.heap.size (.cells #[.int .i64 0, .int .i64 0, .int .i64 0] 52 (0, 0)) := nnz13.at_
  refine hK' _ _ ?_
  clear hK' K' nnz13 bz14
  go_frame
  refine ls_op rfl (fun K' hK' => ?_)
  refine wp_store_all 52 _ _ rfl rfl Wz6.heap.size rfl #[.int .i64 i, .int .i64 j, .int .i64 k] rfl _ _ hz15 3 (by kernel_rfl) rfl rfl (by intro x hx; simp at hx; rcases hx with rfl | rfl | rfl <;> rfl) (fun Wz16 pz17 => ?_)
  replace hB := pz17.below hB (by omega)
  replace hz5 := pz17.other hz5 (by omega)
  replace hz15 : At Wz16 Wz6.heap.size (.cells #[.int .i64 i, .int .i64 j, .int .i64 k] 52 (0, 0)) := pz17.at_
  refine hK' _ _ ?_
  clear hK' K' pz17
  refine wpList_nil ?_
  go_upto_region 2 with (fail)
  refine wp_region_lit ?_
  refine ls_ex (some 6) (.pointer (some ⟨w.heap.size, 0, none⟩)) rfl rfl (exec_fieldAddr 29 _ 0 rfl _ (by kernel_rfl)) ?_
  go_frame
  refine ls_ex (some 7) (.int .i64 p) rfl rfl (exec_load_one 2 _ rfl w.heap.size 0 rfl (.int .i64 p) _ Try.underlying2 rfl (hz5.at_ 0)) ?_
  go_frame
  refine ls_op rfl (fun K' hK' => ?_)
  have lz20 := hB.size
  have lz21 := hz5.lt
  have lz22 := hz15.lt
  refine wp_call1 (some 8) rfl 45 _ _ rfl (fun args w => by kernel_rfl) _ rfl _ (isPrime_c p _) (fun e Wz18 h => ?_)
  obtain ⟨rfl, rfl⟩ := h
  rw [Hp.out]
  refine ⟨_, rfl, ?_⟩
  refine hK' _ _ ?_
  clear hK' K'
  go_frame
  refine ls_ex (some 9) (.bool false) rfl rfl (exec_not _ _ rfl true rfl) ?_
  go_frame
  refine ls_ex (some 10) (.bool false) rfl rfl (exec_move _ rfl (.bool false) rfl) ?_
  go_frame
  refine ls_ex_g (some 11) (.agg #[.int .i64 i, .int .i64 j, .int .i64 k]) rfl rfl (exec_load_all 52 _ rfl Wz6.heap.size rfl _ _ _ hz15 Try.underlying52 rfl 3 (by kernel_rfl) rfl) ?_
  go_frame
  refine ls_op_g rfl (fun K' hK' => ?_)
  have lz25 := hB.size
  have lz26 := hz5.lt
  have lz27 := hz15.lt
  refine wp_call1 (some 12) rfl 51 _ _ rfl (fun args w => by kernel_rfl) _ rfl _ (isAllowed_c i j k _) (fun e Wz23 h => ?_)
  obtain ⟨rfl, bz24⟩ := h
  replace hB := below_after hB bz24
  replace hz5 := hz5.after bz24
  replace hz15 := hz15.after bz24
  rw [Hs.out]
  clear bz24
  refine ⟨_, rfl, ?_⟩
  refine hK' _ _ ?_
  clear hK' K'
  go_frame
  refine ls_ex_g (some 13) (.bool true) rfl rfl (exec_not _ _ rfl false rfl) ?_
  go_frame
  refine ls_ex (some 14) (.bool true) rfl rfl (exec_pick _ _ _ rfl false rfl (.bool true) rfl) ?_
  go_frame
  refine wpList_nil ?_
  go_upto_region 3 with (fail)
  refine wp_region_lit ?_
  refine ls_ex (some 2) (.bool false) rfl rfl (exec_assign _ rfl (.bool false) rfl) ?_
  go_frame
  refine wpList_nil ?_
  go_wp2_with fail
  go_ret
  exact ⟨by rw [Hno.out]; rfl, hB⟩
set_option maxHeartbeats 1600000 in
theorem implIsTensor_d (p i j k : Int) (A : Option Addr) (c : Nat) (xs : List Int) (w : World) (hR : RdI w A xs) (hn : xs.length ≤ 1048576) (hp : primeB p = true) (hi : sideB i = true) (hj : sideB j = true) (hk : sideB k = true) :
    Calls Try.prog 30 #[.agg #[.int .i64 p, .int .i64 i, .int .i64 j, .int .i64 k, .slice A xs.length c]] w fun e w' => e = .returned (.bool (tenB p i j k xs)) ∧ Below w.heap.size w w' := by
  have hB := Below.refl w.heap.size w
  have Hno : Hid (tenB p i j k xs = listB p (i * j * k) xs) := Lib.hid (by unfold tenB listB; rw [hp, hi, hj, hk]; simp)
  have Hp := Lib.hid hp
  have Hs : Hid ((sideB i && sideB j && sideB k) = true) := Lib.hid (by rw [hi, hj, hk]; rfl)
  clear hp
  go_enter Try.func30, Try.ntmps30
  go_upto_region 0 with (fail)
  refine wp_region_lit ?_
  refine ls_op rfl (fun K' hK' => ?_)
  have lz1 := hB.size
  refine wp_new (some 1) rfl (exec_box 29 _ rfl (#[.int .i64 p, .int .i64 i, .int .i64 j, .int .i64 k, .slice A xs.length c]) rfl) (fun Wz2 nnz3 => ?_)
  have bz4 := nnz3.below (Below.refl _ _) (Nat.le_refl _)
  replace hB := below_after hB bz4
  have hz5 : At Wz2 w.heap.size (.cells #[.int .i64 p, .int .i64 i, .int .i64 j, .int .i64 k, .slice A xs.length c] 29 (0, 0)) := nnz3.at_
  refine hK' _ _ ?_
  clear hK' K' nnz3 bz4
  go_frame
  refine ls_ex (some 2) (.bool false) rfl rfl (exec_assign _ rfl (.bool false) rfl) ?_
  go_frame
  refine wpList_nil ?_
  go_upto_region 1 with (fail)
  refine wp_region_lit ?_
  refine ls_ex (some 4) (.agg #[.int .i64 p, .int .i64 i, .int .i64 j, .int .i64 k, .slice A xs.length c]) rfl rfl (exec_load_all 29 _ rfl w.heap.size rfl _ _ _ hz5 Try.underlying29 rfl 5 (by kernel_rfl) rfl) ?_
  go_frame
  refine ls_op rfl (fun K' hK' => ?_)
  have lz8 := hB.size
  have lz9 := hz5.lt
  refine wp_call1 (some 5) rfl 32 _ _ rfl (fun args w => by kernel_rfl) _ rfl _ (boxOf_c p i j k _ _) (fun e Wz6 h => ?_)
  obtain ⟨rfl, bz7⟩ := h
  replace hB := below_after hB bz7
  replace hz5 := hz5.after bz7
  clear bz7
  refine ⟨_, rfl, ?_⟩
  refine hK' _ _ ?_
  clear hK' K'
  go_frame
  refine ls_op rfl (fun K' hK' => ?_)
  have lz10 := hB.size
  have lz11 := hz5.lt
  refine wp_new (some 3) rfl (al_impl_box rfl) (fun Wz12 nnz13 => ?_)
  have bz14 := nnz13.below (Below.refl _ _) (Nat.le_refl _)
  replace hB := below_after hB bz14
  replace hz5 := hz5.after bz14
  have hz15 : At Wz12 Wz6.heap.size (.cells #[.int .i64 0, .int .i64 0, .int .i64 0] 52 (0, 0)) := nnz13.at_
  refine hK' _ _ ?_
  clear hK' K' nnz13 bz14
  go_frame
  refine ls_op rfl (fun K' hK' => ?_)
  refine wp_store_all 52 _ _ rfl rfl Wz6.heap.size rfl #[.int .i64 i, .int .i64 j, .int .i64 k] rfl _ _ hz15 3 (by kernel_rfl) rfl rfl (by intro x hx; simp at hx; rcases hx with rfl | rfl | rfl <;> rfl) (fun Wz16 pz17 => ?_)
  replace hB := pz17.below hB (by omega)
  replace hz5 := pz17.other hz5 (by omega)
  replace hz15 : At Wz16 Wz6.heap.size (.cells #[.int .i64 i, .int .i64 j, .int .i64 k] 52 (0, 0)) := pz17.at_
  refine hK' _ _ ?_
  clear hK' K' pz17
  refine wpList_nil ?_
  go_upto_region 2 with (fail)
  refine wp_region_lit ?_
  refine ls_ex (some 6) (.pointer (some ⟨w.heap.size, 0, none⟩)) rfl rfl (exec_fieldAddr 29 _ 0 rfl _ (by kernel_rfl)) ?_
  go_frame
  refine ls_ex (some 7) (.int .i64 p) rfl rfl (exec_load_one 2 _ rfl w.heap.size 0 rfl (.int .i64 p) _ Try.underlying2 rfl (hz5.at_ 0)) ?_
  go_frame
  refine ls_op rfl (fun K' hK' => ?_)
  have lz20 := hB.size
  have lz21 := hz5.lt
  have lz22 := hz15.lt
  refine wp_call1 (some 8) rfl 45 _ _ rfl (fun args w => by kernel_rfl) _ rfl _ (isPrime_c p _) (fun e Wz18 h => ?_)
  obtain ⟨rfl, rfl⟩ := h
  rw [Hp.out]
  refine ⟨_, rfl, ?_⟩
  refine hK' _ _ ?_
  clear hK' K'
  go_frame
  refine ls_ex (some 9) (.bool false) rfl rfl (exec_not _ _ rfl true rfl) ?_
  go_frame
  refine ls_ex (some 10) (.bool false) rfl rfl (exec_move _ rfl (.bool false) rfl) ?_
  go_frame
  refine ls_ex_g (some 11) (.agg #[.int .i64 i, .int .i64 j, .int .i64 k]) rfl rfl (exec_load_all 52 _ rfl Wz6.heap.size rfl _ _ _ hz15 Try.underlying52 rfl 3 (by kernel_rfl) rfl) ?_
  go_frame
  refine ls_op_g rfl (fun K' hK' => ?_)
  have lz25 := hB.size
  have lz26 := hz5.lt
  have lz27 := hz15.lt
  refine wp_call1 (some 12) rfl 51 _ _ rfl (fun args w => by kernel_rfl) _ rfl _ (isAllowed_c i j k _) (fun e Wz23 h => ?_)
  obtain ⟨rfl, bz24⟩ := h
  replace hB := below_after hB bz24
  replace hz5 := hz5.after bz24
  replace hz15 := hz15.after bz24
  rw [Hs.out]
  clear bz24
  refine ⟨_, rfl, ?_⟩
  refine hK' _ _ ?_
  clear hK' K'
  go_frame
  refine ls_ex_g (some 13) (.bool false) rfl rfl (exec_not _ _ rfl true rfl) ?_
  go_frame
  refine ls_ex (some 14) (.bool false) rfl rfl (exec_pick _ _ _ rfl false rfl (.bool false) rfl) ?_
  go_frame
  refine wpList_nil ?_
  go_upto_region 4 with (fail)
  refine wp_region_y (zs := []) (S := fun w' => Below w.heap.size w w' ∧ At w' w.heap.size (.cells #[.int .i64 p, .int .i64 i, .int .i64 j, .int .i64 k, .slice A xs.length c] 29 (0, 0)) ∧ At w' Wz6.heap.size (.cells #[.int .i64 i, .int .i64 j, .int .i64 k] 52 (0, 0))) (S2 := fun w' => True) (by kernel_rfl) ?_
  change wpAnyY _ _ _ _ _ _ _ _ _ _ (World.drew _)
  generalize hwdz28 : World.drew _ = wdz28
  replace hB : Below w.heap.size w wdz28 := by rw [← hwdz28]; exact hB.drew
  replace hz5 : At wdz28 w.heap.size (.cells #[.int .i64 p, .int .i64 i, .int .i64 j, .int .i64 k, .slice A xs.length c] 29 (0, 0)) := by rw [← hwdz28]; exact hz5
  replace hz15 : At wdz28 Wz6.heap.size (.cells #[.int .i64 i, .int .i64 j, .int .i64 k] 52 (0, 0)) := by rw [← hwdz28]; exact hz15
  clear hwdz28
  refine y_yield 0 (some 15) (.pointer (some ⟨w.heap.size, 0, none⟩)) rfl (by kernel_rfl) (by kernel_rfl) (by kernel_rfl) (fun _ _ _ h => h) rfl rfl ⟨hB, hz5, hz15⟩ (fun w' h' => exec_fieldAddr 29 _ 0 rfl _ (by kernel_rfl)) ?_
  go_frame
  refine y_yield 1 (some 16) (.int .i64 p) rfl (by kernel_rfl) (by kernel_rfl) (by kernel_rfl) (fun _ _ _ h => h) rfl rfl ⟨hB, hz5, hz15⟩ (fun w' h' => exec_load_one 2 _ rfl w.heap.size 0 rfl (.int .i64 p) _ Try.underlying2 rfl (h'.2.1.at_ 0)) ?_
  go_frame
  refine y_yield 2 (some 17) (.agg #[.int .i64 i, .int .i64 j, .int .i64 k]) rfl (by kernel_rfl) (by kernel_rfl) (by kernel_rfl) (fun _ _ _ h => h) rfl rfl ⟨hB, hz5, hz15⟩ (fun w' h' => exec_load_all 52 _ rfl Wz6.heap.size rfl _ _ _ h'.2.2 Try.underlying52 rfl 3 (by kernel_rfl) rfl) ?_
  go_frame
  refine y_yield 4 (some 19) (.pointer (some ⟨w.heap.size, 4, none⟩)) rfl (by kernel_rfl) (by kernel_rfl) (by kernel_rfl) (fun _ _ _ h => h) rfl rfl ⟨hB, hz5, hz15⟩ (fun w' h' => exec_fieldAddr 29 _ 4 rfl _ (by kernel_rfl)) ?_
  go_frame
  refine y_yield 5 (some 20) (.slice A xs.length c) rfl (by kernel_rfl) (by kernel_rfl) (by kernel_rfl) (fun _ _ _ h => h) rfl rfl ⟨hB, hz5, hz15⟩ (fun w' h' => exec_load_one 22 _ rfl w.heap.size 4 rfl (.slice A xs.length c) _ Try.underlying22 rfl (h'.2.1.at_ 4)) ?_
  go_frame
  refine y_oper 3 (by kernel_rfl) rfl rfl (fun K' hK' => ?_)
  have lz31 := hB.size
  have lz32 := hz5.lt
  have lz33 := hz15.lt
  refine wp_call1 (some 18) rfl 52 _ _ rfl (fun args w => by kernel_rfl) _ rfl _ (boxPlaces_c i j k _ hi hj hk) (fun e Wz29 h => ?_)
  obtain ⟨rfl, bz30⟩ := h
  replace hB := below_after hB bz30
  replace hz5 := hz5.after bz30
  replace hz15 := hz15.after bz30
  clear bz30
  refine ⟨_, rfl, ?_⟩
  refine hK' _ _ ⟨hB, hz5, hz15⟩ (fun _ => trivial) ?_
  clear hK' K'
  go_frame
  refine y_oper 6 (by kernel_rfl) rfl rfl (fun K' hK' => ?_)
  have lz36 := hB.size
  have lz37 := hz5.lt
  have lz38 := hz15.lt
  refine wp_call3 (some 21) rfl 38 _ _ _ _ rfl (fun args w => by kernel_rfl) _ _ _ rfl rfl rfl _ (isList_c A c p (i * j * k) xs _ (hR.keep hB) hn) (fun e Wz34 h => ?_)
  obtain ⟨rfl, bz35⟩ := h
  replace hB := below_after hB bz35
  replace hz5 := hz5.after bz35
  replace hz15 := hz15.after bz35
  clear bz35
  refine ⟨_, rfl, ?_⟩
  refine hK' _ _ ⟨hB, hz5, hz15⟩ (fun _ => trivial) ?_
  clear hK' K'
  go_frame
  refine y_oper 7 (by kernel_rfl) rfl rfl (fun K' hK' => ?_)
  refine wp_exec (some 2) rfl (.bool (listB p (i * j * k) xs)) (exec_assign _ rfl (.bool (listB p (i * j * k) xs)) rfl) ?_
  refine hK' _ _ ⟨hB, hz5, hz15⟩ (fun _ => trivial) ?_
  clear hK' K'
  go_frame
  refine y_done (by kernel_rfl) ?_ _
  go_wp2_with fail
  go_ret
  exact ⟨by rw [Hno.out]; rfl, hB⟩
theorem implIsTensor_c (p i j k : Int) (A : Option Addr) (c : Nat) (xs : List Int) (w : World) (hR : RdI w A xs) (hn : xs.length ≤ 1048576) :
    Calls Try.prog 30 #[.agg #[.int .i64 p, .int .i64 i, .int .i64 j, .int .i64 k, .slice A xs.length c]] w fun e w' => e = .returned (.bool (tenB p i j k xs)) ∧ Below w.heap.size w w' := by
  cases hp : primeB p with
  | false => exact implIsTensor_a p i j k A c xs w hp
  | true =>
    cases hs : (sideB i && sideB j && sideB k) with
    | false => exact implIsTensor_b p i j k A c xs w hp hs
    | true =>
      simp only [Bool.and_eq_true] at hs
      exact implIsTensor_d p i j k A c xs w hR hn hp hs.1.1 hs.1.2 hs.2
end Go.Proofs.Ytolgfpcadfjliaa
