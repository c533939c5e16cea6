/-
  spec.l10Small, impl.areSearched; AllPairs of both sides. (Made by mkap.py.)
-/
import Derived.Test.YtppenoincihoeaaAll
namespace Go.Proofs.Ytppenoincihoeaa
open Go.RowKit
set_option maxRecDepth 100000
attribute [local irreducible] wpList
/-- Sizes whose pairs are all looked at. -/
def smB (n m k : Int) : Bool := sizesB 2 n m k && decide (n * m * k ≤ 4)
def apCode (n m k : Int) : Int := if smB n m k = true then 0 else 2
def apL (n m k : Int) : List (List Nat) := if smB n m k = true then allP (n * m).toNat (m * k).toNat else []
theorem sizesB_two (n m k : Int) : sizesB 2 n m k = (sizeB n && sizeB m && sizeB k) := by
  unfold sizesB
  rw [show primeB 2 = true from rfl, Bool.true_and]
theorem sizesB_b {p n m k : Int} (h : sizesB p n m k = true) : (1 ≤ n ∧ n ≤ 3) ∧ (1 ≤ m ∧ m ≤ 3) ∧ (1 ≤ k ∧ k ≤ 3) := by
  obtain ⟨_, h1, h2, h3⟩ := sizesB_parts h
  simp only [sizeB, Bool.and_eq_true, decide_eq_true_eq] at h1 h2 h3
  exact ⟨h1, h2, h3⟩
theorem mul27 {P k : Int} (hP : 1 ≤ P ∧ P ≤ 9) (hk : 1 ≤ k ∧ k ≤ 3) : 1 ≤ P * k ∧ P * k ≤ 27 := by
  obtain rfl | rfl | rfl : k = 1 ∨ k = 2 ∨ k = 3 := by omega
  all_goals omega
theorem smB_PQ {n m k : Int} (h : smB n m k = true) : ∃ P Q : Nat, n * m = (P : Int) ∧ m * k = (Q : Int) ∧ (1 ≤ P ∧ P ≤ 4) ∧ (1 ≤ Q ∧ Q ≤ 4) ∧ sizeB n = true ∧ sizeB m = true ∧ sizeB k = true := by
  unfold smB at h
  rw [Bool.and_eq_true, decide_eq_true_eq] at h
  obtain ⟨h1, h2⟩ := h
  obtain ⟨hn, hm, hk⟩ := sizesB_b h1
  obtain ⟨_, s1, s2, s3⟩ := sizesB_parts h1
  refine ⟨(n * m).toNat, (m * k).toNat, ?_, ?_, ?_, ?_, s1, s2, s3⟩
  all_goals
    obtain rfl | rfl | rfl : n = 1 ∨ n = 2 ∨ n = 3 := by omega
    all_goals
      obtain rfl | rfl | rfl : m = 1 ∨ m = 2 ∨ m = 3 := by omega
      all_goals omega
theorem allP_bytes (P Q : Nat) : ∀ r ∈ allP P Q, Bytes 18 r := fun r hr => by
  simp only [allP, allO, List.mem_flatMap, List.mem_map] at hr
  obtain ⟨a, _, b, _, rfl⟩ := hr
  exact catR_bytes (fmI_bytes _ _ _) (fmI_bytes _ _ _)
theorem ap_bytes {n m k : Int} : ∀ r ∈ apL n m k, Bytes 18 r := by
  unfold apL
  split
  · exact allP_bytes _ _
  · intro r hr
    simp at hr
theorem ap_len {n m k : Int} : (apL n m k).length ≤ 1048576 := by
  rcases Bool.eq_false_or_eq_true (smB n m k) with hs | hs
  · obtain ⟨P, Q, hPe, hQe, hP, hQ, _⟩ := smB_PQ hs
    unfold apL
    rw [hs, hPe, hQe, if_pos rfl]
    unfold allP
    rw [allO_len]
    have h1 := pow1_b hP rfl
    have h2 := pow1_b hQ rfl
    have h3 : (2 ^ P - 1) * (2 ^ Q - 1) ≤ 15 * 15 := Nat.mul_le_mul h1.2 h2.2
    simp only [Int.toNat_natCast]
    omega
  · unfold apL
    rw [hs]
    simp
theorem exec_build_szA {o : Oper} {a : Act} {w : World} (x y z : Operand) (ho : o.op = .build 77 #[(0, x), (1, y), (2, z)]) (n m k : Int) (hx : a.eval x = .int .i64 n) (hy : a.eval y = .int .i64 m) (hz : a.eval z = .int .i64 k) :
    (execOp a.eval o).run Try.prog w = .ok (.value (.agg #[.int .i64 n, .int .i64 m, .int .i64 k])) w := by
  have hb : Try.prog.built 77 [(0, .int .i64 n), (1, .int .i64 m), (2, .int .i64 k)] = some #[.int .i64 n, .int .i64 m, .int .i64 k] := by kernel_rfl
  unfold execOp
  have := run_build (P := Try.prog) w 77 #[(0, .int .i64 n), (1, .int .i64 m), (2, .int .i64 k)] _ hb
  simp [ho, hx, hy, hz, this]
theorem al_impl_sizes {o : Oper} {a : Act} {w : World} (ho : o.op = .alloc 77) : (execOp a.eval o).run Try.prog w = .ok (.value (.pointer (some ⟨w.heap.size, 0, none⟩))) (w.alloc (.cells #[.int .i64 0, .int .i64 0, .int .i64 0] 77 (0, 0))) := by
  unfold execOp
  rw [ho]
  kernel_rfl
set_option maxHeartbeats 4000000 in
theorem l10Small_false (n m k : Int) (w : World) (hs : sizesB 2 n m k = false) :
    Calls Try.prog 49 #[.int .i64 n, .int .i64 m, .int .i64 k] w (fun e w' => e = .returned (.bool (smB n m k)) ∧ Below w.heap.size w w') := by
  have hB := Below.refl w.heap.size w
  have HS := Lib.hid hs
  have HV : Hid (smB n m k = false) := Lib.hid (by unfold smB; rw [hs]; rfl)
  clear hs
  go_enter Try.func49, Try.ntmps49
  go_upto_region 0 with (fail)
  refine wp_region_lit ?_
  refine ls_ex (some 6) (.bool false) rfl rfl (exec_assign _ rfl (.bool false) rfl) ?_
  go_frame
  refine wpList_nil ?_
  go_upto_region 1 with (fail)
  refine wp_region_lit ?_
  refine ls_ex (some 7) (.int .i64 n) rfl rfl (exec_move _ rfl (.int .i64 n) rfl) ?_
  go_frame
  refine ls_ex (some 8) (.int .i64 m) rfl rfl (exec_move _ rfl (.int .i64 m) rfl) ?_
  go_frame
  refine ls_ex (some 9) (.int .i64 k) rfl rfl (exec_move _ rfl (.int .i64 k) rfl) ?_
  go_frame
  refine ls_op rfl (fun K' hK' => ?_)
  have lz3 := hB.size
  refine wp_call4 (some 10) rfl 53 _ _ _ _ _ rfl (fun args w => by kernel_rfl) _ _ _ _ rfl rfl rfl rfl _ (l01Sizes_c 2 n m k _) (fun e Wz1 h => ?_)
  obtain ⟨rfl, rfl⟩ := h
  rw [HS.out]
  refine ⟨_, rfl, ?_⟩
  refine hK' _ _ ?_
  clear hK' K'
  go_frame
  refine ls_ex (some 11) (.bool false) rfl rfl (exec_move _ rfl (.bool false) rfl) ?_
  go_frame
  refine ls_skip_g (some 12) rfl rfl ?_
  go_frame
  refine ls_skip_g (some 13) rfl rfl ?_
  go_frame
  refine ls_skip_g (some 14) rfl rfl ?_
  go_frame
  refine ls_skip_g (some 15) rfl rfl ?_
  go_frame
  refine ls_skip_g (some 16) rfl rfl ?_
  go_frame
  refine ls_skip_g (some 17) rfl rfl ?_
  go_frame
  refine ls_ex (some 18) (.bool false) rfl rfl (exec_pick _ _ _ rfl false rfl (.bool false) rfl) ?_
  go_frame
  refine ls_ex (some 6) (.bool false) rfl rfl (exec_assign _ rfl (.bool false) rfl) ?_
  go_frame
  refine wpList_nil ?_
  go_wp2_with fail
  go_ret
  exact ⟨by rw [HV.out]; rfl, hB⟩
set_option maxHeartbeats 4000000 in
theorem l10Small_true (n m k : Int) (w : World) (hs : sizesB 2 n m k = true) :
    Calls Try.prog 49 #[.int .i64 n, .int .i64 m, .int .i64 k] w (fun e w' => e = .returned (.bool (smB n m k)) ∧ Below w.heap.size w w') := by
  have hB := Below.refl w.heap.size w
  have HS := Lib.hid hs
  obtain ⟨hn, hm, hk⟩ := sizesB_b hs
  have hb1 := mul_bounds hn.1 hn.2 hm.1 hm.2
  obtain ⟨P, hP⟩ : ∃ z9 : Int, n * m = z9 := ⟨_, rfl⟩
  rw [hP] at hb1
  have hb2 := mul27 hb1 hk
  obtain ⟨T, hT⟩ : ∃ z9 : Int, P * k = z9 := ⟨_, rfl⟩
  rw [hT] at hb2
  have HP : Hid (IntKind.i64.wrap (n * m) = P) := Lib.hid (by rw [hP]; exact IntWalk.i64_in _ (by omega))
  have HT : Hid (IntKind.i64.wrap (P * k) = T) := Lib.hid (by rw [hT]; exact IntWalk.i64_in _ (by omega))
  have HV : Hid (smB n m k = decide (T ≤ 4)) := Lib.hid (by unfold smB; rw [hs, hP, hT]; simp)
  clear hP hT hs
  go_enter Try.func49, Try.ntmps49
  go_upto_region 0 with (fail)
  refine wp_region_lit ?_
  refine ls_ex (some 6) (.bool false) rfl rfl (exec_assign _ rfl (.bool false) rfl) ?_
  go_frame
  refine wpList_nil ?_
  go_upto_region 1 with (fail)
  refine wp_region_lit ?_
  refine ls_ex (some 7) (.int .i64 n) rfl rfl (exec_move _ rfl (.int .i64 n) rfl) ?_
  go_frame
  refine ls_ex (some 8) (.int .i64 m) rfl rfl (exec_move _ rfl (.int .i64 m) rfl) ?_
  go_frame
  refine ls_ex (some 9) (.int .i64 k) rfl rfl (exec_move _ rfl (.int .i64 k) rfl) ?_
  go_frame
  refine ls_op rfl (fun K' hK' => ?_)
  have lz3 := hB.size
  refine wp_call4 (some 10) rfl 53 _ _ _ _ _ rfl (fun args w => by kernel_rfl) _ _ _ _ rfl rfl rfl rfl _ (l01Sizes_c 2 n m k _) (fun e Wz1 h => ?_)
  obtain ⟨rfl, rfl⟩ := h
  rw [HS.out]
  refine ⟨_, rfl, ?_⟩
  refine hK' _ _ ?_
  clear hK' K'
  go_frame
  refine ls_ex (some 11) (.bool true) rfl rfl (exec_move _ rfl (.bool true) rfl) ?_
  go_frame
  refine ls_ex_g (some 12) (.int .i64 n) rfl rfl (exec_move _ rfl (.int .i64 n) rfl) ?_
  go_frame
  refine ls_ex_g (some 13) (.int .i64 m) rfl rfl (exec_move _ rfl (.int .i64 m) rfl) ?_
  go_frame
  refine ls_ex_g (some 14) (.int .i64 P) rfl rfl (exec_mul _ _ _ _ rfl n m P rfl rfl HP.out) ?_
  go_frame
  refine ls_ex_g (some 15) (.int .i64 k) rfl rfl (exec_move _ rfl (.int .i64 k) rfl) ?_
  go_frame
  refine ls_ex_g (some 16) (.int .i64 T) rfl rfl (exec_mul _ _ _ _ rfl P k T rfl rfl HT.out) ?_
  go_frame
  refine ls_ex_g (some 17) (.bool (decide (T ≤ 4))) rfl rfl (exec_leq _ _ _ _ rfl T 4 rfl rfl _ rfl) ?_
  go_frame
  refine ls_ex (some 18) (.bool (decide (T ≤ 4))) rfl rfl (exec_pick _ _ _ rfl true rfl (.bool (decide (T ≤ 4))) rfl) ?_
  go_frame
  refine ls_ex (some 6) (.bool (decide (T ≤ 4))) rfl rfl (exec_assign _ rfl (.bool (decide (T ≤ 4))) rfl) ?_
  go_frame
  refine wpList_nil ?_
  go_wp2_with fail
  go_ret
  exact ⟨by rw [HV.out]; rfl, hB⟩
theorem l10Small_c (n m k : Int) (w : World) : Calls Try.prog 49 #[.int .i64 n, .int .i64 m, .int .i64 k] w (fun e w' => e = .returned (.bool (smB n m k)) ∧ Below w.heap.size w w') := by
  rcases Bool.eq_false_or_eq_true (sizesB 2 n m k) with hs | hs
  · exact l10Small_true n m k w hs
  · exact l10Small_false n m k w hs
set_option maxHeartbeats 4000000 in
theorem areSearched_false (n m k : Int) (w : World) (hs : sizesB 2 n m k = false) :
    Calls Try.prog 51 #[.agg #[.int .i64 n, .int .i64 m, .int .i64 k]] w (fun e w' => e = .returned (.bool (smB n m k)) ∧ Below w.heap.size w w') := by
  have hB := Below.refl w.heap.size w
  have HS := Lib.hid hs
  have HA : Hid ((sizeB n && sizeB m && sizeB k) = false) := Lib.hid (by rw [← sizesB_two n m k]; exact hs)
  have HV : Hid (smB n m k = false) := Lib.hid (by unfold smB; rw [hs]; rfl)
  clear hs
  go_enter Try.func51, Try.ntmps51
  go_upto_region 0 with (fail)
  refine wp_region_lit ?_
  refine ls_op rfl (fun K' hK' => ?_)
  have lz1 := hB.size
  refine wp_new (some 1) rfl (exec_box 77 _ rfl (#[.int .i64 n, .int .i64 m, .int .i64 k]) rfl) (fun Wz2 nnz3 => ?_)
  have bz4 := nnz3.below (Below.refl _ _) (Nat.le_refl _)
  replace hB := below_after hB bz4
  have hz5 : At Wz2 w.heap.size (.cells #[.int .i64 n, .int .i64 m, .int .i64 k] 77 (0, 0)) := nnz3.at_
  refine hK' _ _ ?_
  clear hK' K' nnz3 bz4
  go_frame
  refine ls_ex (some 2) (.bool false) rfl rfl (exec_assign _ rfl (.bool false) rfl) ?_
  go_frame
  refine wpList_nil ?_
  go_upto_region 1 with (fail)
  refine wp_region_lit ?_
  refine ls_ex (some 3) (.agg #[.int .i64 n, .int .i64 m, .int .i64 k]) rfl rfl (exec_load_all 77 _ rfl w.heap.size rfl _ _ _ hz5 Try.underlying77 rfl 3 (by kernel_rfl) rfl) ?_
  go_frame
  refine ls_op rfl (fun K' hK' => ?_)
  have lz8 := hB.size
  have lz9 := hz5.lt
  refine wp_call1 (some 4) rfl 60 _ _ rfl (fun args w => by kernel_rfl) _ rfl _ (areAllowed_c n m k _) (fun e Wz6 h => ?_)
  obtain ⟨rfl, bz7⟩ := h
  replace hB := below_after hB bz7
  replace hz5 := hz5.after bz7
  rw [HA.out]
  clear bz7
  refine ⟨_, rfl, ?_⟩
  refine hK' _ _ ?_
  clear hK' K'
  go_frame
  refine ls_ex (some 5) (.bool false) rfl rfl (exec_move _ rfl (.bool false) rfl) ?_
  go_frame
  refine ls_skip_g (some 6) rfl rfl ?_
  go_frame
  refine ls_skip_g (some 7) rfl rfl ?_
  go_frame
  refine ls_skip_g (some 8) rfl rfl ?_
  go_frame
  refine ls_skip_g (some 9) rfl rfl ?_
  go_frame
  refine ls_skip_g (some 10) rfl rfl ?_
  go_frame
  refine ls_skip_g (some 11) rfl rfl ?_
  go_frame
  refine ls_skip_g (some 12) rfl rfl ?_
  go_frame
  refine ls_skip_g (some 13) rfl rfl ?_
  go_frame
  refine ls_skip_g (some 14) rfl rfl ?_
  go_frame
  refine ls_ex (some 15) (.bool false) rfl rfl (exec_pick _ _ _ rfl false rfl (.bool false) rfl) ?_
  go_frame
  refine ls_ex (some 2) (.bool false) rfl rfl (exec_assign _ rfl (.bool false) rfl) ?_
  go_frame
  refine wpList_nil ?_
  go_wp2_with fail
  go_ret
  exact ⟨by rw [HV.out]; rfl, hB⟩
set_option maxHeartbeats 4000000 in
theorem areSearched_true (n m k : Int) (w : World) (hs : sizesB 2 n m k = true) :
    Calls Try.prog 51 #[.agg #[.int .i64 n, .int .i64 m, .int .i64 k]] w (fun e w' => e = .returned (.bool (smB n m k)) ∧ Below w.heap.size w w') := by
  have hB := Below.refl w.heap.size w
  have HS := Lib.hid hs
  have HA : Hid ((sizeB n && sizeB m && sizeB k) = true) := Lib.hid (by rw [← sizesB_two n m k]; exact hs)
  obtain ⟨hn, hm, hk⟩ := sizesB_b hs
  have hb1 := mul_bounds hn.1 hn.2 hm.1 hm.2
  obtain ⟨P, hP⟩ : ∃ z9 : Int, n * m = z9 := ⟨_, rfl⟩
  rw [hP] at hb1
  have hb2 := mul27 hb1 hk
  obtain ⟨T, hT⟩ : ∃ z9 : Int, P * k = z9 := ⟨_, rfl⟩
  rw [hT] at hb2
  have HP : Hid (IntKind.i64.wrap (n * m) = P) := Lib.hid (by rw [hP]; exact IntWalk.i64_in _ (by omega))
  have HT : Hid (IntKind.i64.wrap (P * k) = T) := Lib.hid (by rw [hT]; exact IntWalk.i64_in _ (by omega))
  have HV : Hid (smB n m k = decide (T ≤ 4)) := Lib.hid (by unfold smB; rw [hs, hP, hT]; simp)
  clear hP hT hs
  go_enter Try.func51, Try.ntmps51
  go_upto_region 0 with (fail)
  refine wp_region_lit ?_
  refine ls_op rfl (fun K' hK' => ?_)
  have lz1 := hB.size
  refine wp_new (some 1) rfl (exec_box 77 _ rfl (#[.int .i64 n, .int .i64 m, .int .i64 k]) rfl) (fun Wz2 nnz3 => ?_)
  have bz4 := nnz3.below (Below.refl _ _) (Nat.le_refl _)
  replace hB := below_after hB bz4
  have hz5 : At Wz2 w.heap.size (.cells #[.int .i64 n, .int .i64 m, .int .i64 k] 77 (0, 0)) := nnz3.at_
  refine hK' _ _ ?_
  clear hK' K' nnz3 bz4
  go_frame
  refine ls_ex (some 2) (.bool false) rfl rfl (exec_assign _ rfl (.bool false) rfl) ?_
  go_frame
  refine wpList_nil ?_
  go_upto_region 1 with (fail)
  refine wp_region_lit ?_
  refine ls_ex (some 3) (.agg #[.int .i64 n, .int .i64 m, .int .i64 k]) rfl rfl (exec_load_all 77 _ rfl w.heap.size rfl _ _ _ hz5 Try.underlying77 rfl 3 (by kernel_rfl) rfl) ?_
  go_frame
  refine ls_op rfl (fun K' hK' => ?_)
  have lz8 := hB.size
  have lz9 := hz5.lt
  refine wp_call1 (some 4) rfl 60 _ _ rfl (fun args w => by kernel_rfl) _ rfl _ (areAllowed_c n m k _) (fun e Wz6 h => ?_)
  obtain ⟨rfl, bz7⟩ := h
  replace hB := below_after hB bz7
  replace hz5 := hz5.after bz7
  rw [HA.out]
  clear bz7
  refine ⟨_, rfl, ?_⟩
  refine hK' _ _ ?_
  clear hK' K'
  go_frame
  refine ls_ex (some 5) (.bool true) rfl rfl (exec_move _ rfl (.bool true) rfl) ?_
  go_frame
  refine ls_ex_g (some 6) (.pointer (some ⟨w.heap.size, 0, none⟩)) rfl rfl (exec_index_arr _ 2 _ _ rfl w.heap.size 0 3 0 1 rfl rfl Try.underlying77 (by kernel_rfl) (by omega)) ?_
  go_frame
  refine ls_ex_g (some 7) (.int .i64 n) rfl rfl (exec_load_one 2 _ rfl w.heap.size 0 rfl (.int .i64 n) _ Try.underlying2 rfl (hz5.at_ 0)) ?_
  go_frame
  refine ls_ex_g (some 8) (.pointer (some ⟨w.heap.size, 1, none⟩)) rfl rfl (exec_index_arr _ 2 _ _ rfl w.heap.size 0 3 1 1 rfl rfl Try.underlying77 (by kernel_rfl) (by omega)) ?_
  go_frame
  refine ls_ex_g (some 9) (.int .i64 m) rfl rfl (exec_load_one 2 _ rfl w.heap.size 1 rfl (.int .i64 m) _ Try.underlying2 rfl (hz5.at_ 1)) ?_
  go_frame
  refine ls_ex_g (some 10) (.int .i64 P) rfl rfl (exec_mul _ _ _ _ rfl n m P rfl rfl HP.out) ?_
  go_frame
  refine ls_ex_g (some 11) (.pointer (some ⟨w.heap.size, 2, none⟩)) rfl rfl (exec_index_arr _ 2 _ _ rfl w.heap.size 0 3 2 1 rfl rfl Try.underlying77 (by kernel_rfl) (by omega)) ?_
  go_frame
  refine ls_ex_g (some 12) (.int .i64 k) rfl rfl (exec_load_one 2 _ rfl w.heap.size 2 rfl (.int .i64 k) _ Try.underlying2 rfl (hz5.at_ 2)) ?_
  go_frame
  refine ls_ex_g (some 13) (.int .i64 T) rfl rfl (exec_mul _ _ _ _ rfl P k T rfl rfl HT.out) ?_
  go_frame
  refine ls_ex_g (some 14) (.bool (decide (T ≤ 4))) rfl rfl (exec_leq _ _ _ _ rfl T 4 rfl rfl _ rfl) ?_
  go_frame
  refine ls_ex (some 15) (.bool (decide (T ≤ 4))) rfl rfl (exec_pick _ _ _ rfl true rfl (.bool (decide (T ≤ 4))) rfl) ?_
  go_frame
  refine ls_ex (some 2) (.bool (decide (T ≤ 4))) rfl rfl (exec_assign _ rfl (.bool (decide (T ≤ 4))) rfl) ?_
  go_frame
  refine wpList_nil ?_
  go_wp2_with fail
  go_ret
  exact ⟨by rw [HV.out]; rfl, hB⟩
theorem areSearched_c (n m k : Int) (w : World) : Calls Try.prog 51 #[.agg #[.int .i64 n, .int .i64 m, .int .i64 k]] w (fun e w' => e = .returned (.bool (smB n m k)) ∧ Below w.heap.size w w') := by
  rcases Bool.eq_false_or_eq_true (sizesB 2 n m k) with hs | hs
  · exact areSearched_true n m k w hs
  · exact areSearched_false n m k w hs
set_option maxHeartbeats 4000000 in
theorem specAllPairs_false (n m k : Int) (w : World) (hs : smB n m k = false) :
    Calls Try.prog 21 #[.int .i64 n, .int .i64 m, .int .i64 k] w (ResR w (apL n m k) (apCode n m k)) := by
  have hB := Below.refl w.heap.size w
  have HC : Hid (apCode n m k = 2) := Lib.hid (by unfold apCode; rw [hs]; rfl)
  have HS := Lib.hid hs
  have HLst : Hid (apL n m k = []) := Lib.hid (by unfold apL; rw [hs]; rfl)
  clear hs
  go_enter Try.func21, Try.ntmps21
  go_upto_region 0 with (fail)
  refine wp_region_lit ?_
  refine ls_ex (some 6) (.slice none 0 0) rfl rfl (exec_assign _ rfl (.slice none 0 0) rfl) ?_
  go_frame
  refine ls_ex (some 7) (.int .i64 0) rfl rfl (exec_assign _ rfl (.int .i64 0) rfl) ?_
  go_frame
  refine wpList_nil ?_
  go_upto_region 1 with (fail)
  refine wp_region_lit ?_
  refine ls_ex (some 8) (.int .i64 n) rfl rfl (exec_move _ rfl (.int .i64 n) rfl) ?_
  go_frame
  refine ls_ex (some 9) (.int .i64 m) rfl rfl (exec_move _ rfl (.int .i64 m) rfl) ?_
  go_frame
  refine ls_ex (some 10) (.int .i64 k) rfl rfl (exec_move _ rfl (.int .i64 k) rfl) ?_
  go_frame
  refine ls_op rfl (fun K' hK' => ?_)
  have lz3 := hB.size
  refine wp_call3 (some 11) rfl 49 _ _ _ _ rfl (fun args w => by kernel_rfl) _ _ _ rfl rfl rfl _ (l10Small_c n m k _) (fun e Wz1 h => ?_)
  obtain ⟨rfl, bz2⟩ := h
  replace hB := below_after hB bz2
  rw [HS.out]
  clear bz2
  refine ⟨_, rfl, ?_⟩
  refine hK' _ _ ?_
  clear hK' K'
  go_frame
  refine ls_ex (some 12) (.bool true) rfl rfl (exec_not _ _ rfl false rfl) ?_
  go_frame
  refine wpList_nil ?_
  go_upto_region 2 with (fail)
  refine wp_region_lit ?_
  refine ls_ex (some 6) (.slice none 0 0) rfl rfl (exec_assign _ rfl (.slice none 0 0) rfl) ?_
  go_frame
  refine ls_ex (some 7) (.int .i64 2) rfl rfl (exec_assign _ rfl (.int .i64 2) rfl) ?_
  go_frame
  refine wpList_nil ?_
  go_wp2_with fail
  go_ret2
  unfold ResR
  rw [HC.out, HLst.out]
  exact ⟨_, rfl, OwnR.nil _ _, hB⟩
set_option maxHeartbeats 4000000 in
theorem specAllPairs_true (n m k : Int) (w : World) (hs : smB n m k = true) :
    Calls Try.prog 21 #[.int .i64 n, .int .i64 m, .int .i64 k] w (ResR w (apL n m k) (apCode n m k)) := by
  have hB := Below.refl w.heap.size w
  have HC : Hid (apCode n m k = 0) := Lib.hid (by unfold apCode; rw [hs]; rfl)
  have HS := Lib.hid hs
  obtain ⟨P, Q, hPe, hQe, hP, hQ, hn9, hm9, hk9⟩ := smB_PQ hs
  obtain ⟨L, hL⟩ : ∃ z9, (allP P Q).length = z9 := ⟨_, rfl⟩
  have HL := Lib.hid hL
  have HLst : Hid (apL n m k = allP P Q) := Lib.hid (by unfold apL; rw [hs, hPe, hQe]; rfl)
  clear hs hL
  go_enter Try.func21, Try.ntmps21
  go_upto_region 0 with (fail)
  refine wp_region_lit ?_
  refine ls_ex (some 6) (.slice none 0 0) rfl rfl (exec_assign _ rfl (.slice none 0 0) rfl) ?_
  go_frame
  refine ls_ex (some 7) (.int .i64 0) rfl rfl (exec_assign _ rfl (.int .i64 0) rfl) ?_
  go_frame
  refine wpList_nil ?_
  go_upto_region 1 with (fail)
  refine wp_region_lit ?_
  refine ls_ex (some 8) (.int .i64 n) rfl rfl (exec_move _ rfl (.int .i64 n) rfl) ?_
  go_frame
  refine ls_ex (some 9) (.int .i64 m) rfl rfl (exec_move _ rfl (.int .i64 m) rfl) ?_
  go_frame
  refine ls_ex (some 10) (.int .i64 k) rfl rfl (exec_move _ rfl (.int .i64 k) rfl) ?_
  go_frame
  refine ls_op rfl (fun K' hK' => ?_)
  have lz3 := hB.size
  refine wp_call3 (some 11) rfl 49 _ _ _ _ rfl (fun args w => by kernel_rfl) _ _ _ rfl rfl rfl _ (l10Small_c n m k _) (fun e Wz1 h => ?_)
  obtain ⟨rfl, bz2⟩ := h
  replace hB := below_after hB bz2
  rw [HS.out]
  clear bz2
  refine ⟨_, rfl, ?_⟩
  refine hK' _ _ ?_
  clear hK' K'
  go_frame
  refine ls_ex (some 12) (.bool false) rfl rfl (exec_not _ _ rfl true rfl) ?_
  go_frame
  refine wpList_nil ?_
  go_upto_region 3 with (fail)
  refine wp_region_lit ?_
  refine ls_ex (some 13) (.int .i64 n) rfl rfl (exec_move _ rfl (.int .i64 n) rfl) ?_
  go_frame
  refine ls_ex (some 14) (.int .i64 m) rfl rfl (exec_move _ rfl (.int .i64 m) rfl) ?_
  go_frame
  refine ls_ex (some 15) (.int .i64 k) rfl rfl (exec_move _ rfl (.int .i64 k) rfl) ?_
  go_frame
  refine ls_op rfl (fun K' hK' => ?_)
  have lz6 := hB.size
  have lo9 := hB.size
  refine wp_call3 (some 16) rfl 50 _ _ _ _ rfl (fun args w => by kernel_rfl) _ _ _ rfl rfl rfl _ (l10All_c n m k P Q hP hQ hPe hQe _) (fun e Wz4 h => ?_)
  obtain ⟨v9, rfl, ho, bz5⟩ := h
  replace hB := below_after hB bz5
  obtain ⟨A9, c9, rfl⟩ := OwnR.rdN ho (n := L) HL.out
  clear bz5
  refine ⟨_, rfl, ?_⟩
  refine hK' _ _ ?_
  clear hK' K'
  go_frame
  refine ls_ex (some 6) (.slice A9 L c9) rfl rfl (exec_assign _ rfl (.slice A9 L c9) rfl) ?_
  go_frame
  refine ls_ex (some 7) (.int .i64 0) rfl rfl (exec_assign _ rfl (.int .i64 0) rfl) ?_
  go_frame
  refine wpList_nil ?_
  go_wp2_with fail
  go_ret2
  unfold ResR
  rw [HC.out, HLst.out]
  exact ⟨_, rfl, ho.mono (by omega), hB⟩
theorem specAllPairs_c (n m k : Int) (w : World) : Calls Try.prog 21 #[.int .i64 n, .int .i64 m, .int .i64 k] w (ResR w (apL n m k) (apCode n m k)) := by
  rcases Bool.eq_false_or_eq_true (smB n m k) with hs | hs
  · exact specAllPairs_true n m k w hs
  · exact specAllPairs_false n m k w hs
set_option maxHeartbeats 4000000 in
theorem implAllPairs_false (n m k : Int) (w : World) (hs : smB n m k = false) :
    Calls Try.prog 22 #[.int .i64 n, .int .i64 m, .int .i64 k] w (ResR w (apL n m k) (apCode n m k)) := by
  have hB := Below.refl w.heap.size w
  have HC : Hid (apCode n m k = 2) := Lib.hid (by unfold apCode; rw [hs]; rfl)
  have HS := Lib.hid hs
  have HLst : Hid (apL n m k = []) := Lib.hid (by unfold apL; rw [hs]; rfl)
  clear hs
  go_enter Try.func22, Try.ntmps22
  go_upto_region 0 with (fail)
  refine wp_region_lit ?_
  refine ls_ex (some 6) (.slice none 0 0) rfl rfl (exec_assign _ rfl (.slice none 0 0) rfl) ?_
  go_frame
  refine ls_ex (some 7) (.int .i64 0) rfl rfl (exec_assign _ rfl (.int .i64 0) rfl) ?_
  go_frame
  refine wpList_nil ?_
  go_upto_region 1 with (fail)
  refine wp_region_lit ?_
  refine ls_ex (some 9) (.int .i64 n) rfl rfl (exec_move _ rfl (.int .i64 n) rfl) ?_
  go_frame
  refine ls_ex (some 10) (.int .i64 m) rfl rfl (exec_move _ rfl (.int .i64 m) rfl) ?_
  go_frame
  refine ls_ex (some 11) (.int .i64 k) rfl rfl (exec_move _ rfl (.int .i64 k) rfl) ?_
  go_frame
  refine ls_ex (some 12) (.agg #[.int .i64 n, .int .i64 m, .int .i64 k]) rfl rfl (exec_build_szA _ _ _ rfl n m k rfl rfl rfl) ?_
  go_frame
  refine ls_op rfl (fun K' hK' => ?_)
  have lz1 := hB.size
  refine wp_new (some 8) rfl (al_impl_sizes rfl) (fun Wz2 nnz3 => ?_)
  have bz4 := nnz3.below (Below.refl _ _) (Nat.le_refl _)
  replace hB := below_after hB bz4
  have hz5 : At Wz2 w.heap.size (.cells #[.int .i64 0, .int .i64 0, .int .i64 0] 77 (0, 0)) := nnz3.at_
  refine hK' _ _ ?_
  clear hK' K' nnz3 bz4
  go_frame
  refine ls_op rfl (fun K' hK' => ?_)
  refine wp_store_all 77 _ _ rfl rfl w.heap.size rfl #[.int .i64 n, .int .i64 m, .int .i64 k] rfl _ _ hz5 3 (by kernel_rfl) rfl rfl (by intro x hx; simp at hx; rcases hx with rfl | rfl | rfl <;> rfl) (fun Wz6 pz7 => ?_)
  replace hB := pz7.below hB (by omega)
  replace hz5 : At Wz6 w.heap.size (.cells #[.int .i64 n, .int .i64 m, .int .i64 k] 77 (0, 0)) := pz7.at_
  refine hK' _ _ ?_
  clear hK' K' pz7
  refine wpList_nil ?_
  go_upto_region 2 with (fail)
  refine wp_region_lit ?_
  refine ls_ex (some 13) (.agg #[.int .i64 n, .int .i64 m, .int .i64 k]) rfl rfl (exec_load_all 77 _ rfl w.heap.size rfl _ _ _ hz5 Try.underlying77 rfl 3 (by kernel_rfl) rfl) ?_
  go_frame
  refine ls_op rfl (fun K' hK' => ?_)
  have lz10 := hB.size
  have lz11 := hz5.lt
  refine wp_call1 (some 14) rfl 51 _ _ rfl (fun args w => by kernel_rfl) _ rfl _ (areSearched_c n m k _) (fun e Wz8 h => ?_)
  obtain ⟨rfl, bz9⟩ := h
  replace hB := below_after hB bz9
  replace hz5 := hz5.after bz9
  rw [HS.out]
  clear bz9
  refine ⟨_, rfl, ?_⟩
  refine hK' _ _ ?_
  clear hK' K'
  go_frame
  refine ls_ex (some 15) (.bool true) rfl rfl (exec_not _ _ rfl false rfl) ?_
  go_frame
  refine wpList_nil ?_
  go_upto_region 3 with (fail)
  refine wp_region_lit ?_
  refine ls_ex (some 6) (.slice none 0 0) rfl rfl (exec_assign _ rfl (.slice none 0 0) rfl) ?_
  go_frame
  refine ls_ex (some 7) (.int .i64 2) rfl rfl (exec_assign _ rfl (.int .i64 2) rfl) ?_
  go_frame
  refine wpList_nil ?_
  go_wp2_with fail
  go_ret2
  unfold ResR
  rw [HC.out, HLst.out]
  exact ⟨_, rfl, OwnR.nil _ _, hB⟩
set_option maxHeartbeats 4000000 in
theorem implAllPairs_true (n m k : Int) (w : World) (hs : smB n m k = true) :
    Calls Try.prog 22 #[.int .i64 n, .int .i64 m, .int .i64 k] w (ResR w (apL n m k) (apCode n m k)) := by
  have hB := Below.refl w.heap.size w
  have HC : Hid (apCode n m k = 0) := Lib.hid (by unfold apCode; rw [hs]; rfl)
  have HS := Lib.hid hs
  obtain ⟨P, Q, hPe, hQe, hP, hQ, hn9, hm9, hk9⟩ := smB_PQ hs
  obtain ⟨L, hL⟩ : ∃ z9, (allP P Q).length = z9 := ⟨_, rfl⟩
  have HL := Lib.hid hL
  have HLst : Hid (apL n m k = allP P Q) := Lib.hid (by unfold apL; rw [hs, hPe, hQe]; rfl)
  clear hs hL
  go_enter Try.func22, Try.ntmps22
  go_upto_region 0 with (fail)
  refine wp_region_lit ?_
  refine ls_ex (some 6) (.slice none 0 0) rfl rfl (exec_assign _ rfl (.slice none 0 0) rfl) ?_
  go_frame
  refine ls_ex (some 7) (.int .i64 0) rfl rfl (exec_assign _ rfl (.int .i64 0) rfl) ?_
  go_frame
  refine wpList_nil ?_
  go_upto_region 1 with (fail)
  refine wp_region_lit ?_
  refine ls_ex (some 9) (.int .i64 n) rfl rfl (exec_move _ rfl (.int .i64 n) rfl) ?_
  go_frame
  refine ls_ex (some 10) (.int .i64 m) rfl rfl (exec_move _ rfl (.int .i64 m) rfl) ?_
  go_frame
  refine ls_ex (some 11) (.int .i64 k) rfl rfl (exec_move _ rfl (.int .i64 k) rfl) ?_
  go_frame
  refine ls_ex (some 12) (.agg #[.int .i64 n, .int .i64 m, .int .i64 k]) rfl rfl (exec_build_szA _ _ _ rfl n m k rfl rfl rfl) ?_
  go_frame
  refine ls_op rfl (fun K' hK' => ?_)
  have lz1 := hB.size
  refine wp_new (some 8) rfl (al_impl_sizes rfl) (fun Wz2 nnz3 => ?_)
  have bz4 := nnz3.below (Below.refl _ _) (Nat.le_refl _)
  replace hB := below_after hB bz4
  have hz5 : At Wz2 w.heap.size (.cells #[.int .i64 0, .int .i64 0, .int .i64 0] 77 (0, 0)) := nnz3.at_
  refine hK' _ _ ?_
  clear hK' K' nnz3 bz4
  go_frame
  refine ls_op rfl (fun K' hK' => ?_)
  refine wp_store_all 77 _ _ rfl rfl w.heap.size rfl #[.int .i64 n, .int .i64 m, .int .i64 k] rfl _ _ hz5 3 (by kernel_rfl) rfl rfl (by intro x hx; simp at hx; rcases hx with rfl | rfl | rfl <;> rfl) (fun Wz6 pz7 => ?_)
  replace hB := pz7.below hB (by omega)
  replace hz5 : At Wz6 w.heap.size (.cells #[.int .i64 n, .int .i64 m, .int .i64 k] 77 (0, 0)) := pz7.at_
  refine hK' _ _ ?_
  clear hK' K' pz7
  refine wpList_nil ?_
  go_upto_region 2 with (fail)
  refine wp_region_lit ?_
  refine ls_ex (some 13) (.agg #[.int .i64 n, .int .i64 m, .int .i64 k]) rfl rfl (exec_load_all 77 _ rfl w.heap.size rfl _ _ _ hz5 Try.underlying77 rfl 3 (by kernel_rfl) rfl) ?_
  go_frame
  refine ls_op rfl (fun K' hK' => ?_)
  have lz10 := hB.size
  have lz11 := hz5.lt
  refine wp_call1 (some 14) rfl 51 _ _ rfl (fun args w => by kernel_rfl) _ rfl _ (areSearched_c n m k _) (fun e Wz8 h => ?_)
  obtain ⟨rfl, bz9⟩ := h
  replace hB := below_after hB bz9
  replace hz5 := hz5.after bz9
  rw [HS.out]
  clear bz9
  refine ⟨_, rfl, ?_⟩
  refine hK' _ _ ?_
  clear hK' K'
  go_frame
  refine ls_ex (some 15) (.bool false) rfl rfl (exec_not _ _ rfl true rfl) ?_
  go_frame
  refine wpList_nil ?_
  go_upto_region 4 with (fail)
  refine wp_region_lit ?_
  refine ls_ex (some 16) (.agg #[.int .i64 n, .int .i64 m, .int .i64 k]) rfl rfl (exec_load_all 77 _ rfl w.heap.size rfl _ _ _ hz5 Try.underlying77 rfl 3 (by kernel_rfl) rfl) ?_
  go_frame
  refine ls_op rfl (fun K' hK' => ?_)
  have lz14 := hB.size
  have lz15 := hz5.lt
  have lo9 := hB.size
  refine wp_call1 (some 17) rfl 52 _ _ rfl (fun args w => by kernel_rfl) _ rfl _ (allPairs_c n m k P Q hP hQ hPe hQe hn9 hm9 hk9 _) (fun e Wz12 h => ?_)
  obtain ⟨v9, rfl, ho, bz13⟩ := h
  replace hB := below_after hB bz13
  replace hz5 := hz5.after bz13
  obtain ⟨A9, c9, rfl⟩ := OwnR.rdN ho (n := L) HL.out
  clear bz13
  refine ⟨_, rfl, ?_⟩
  refine hK' _ _ ?_
  clear hK' K'
  go_frame
  refine ls_ex (some 6) (.slice A9 L c9) rfl rfl (exec_assign _ rfl (.slice A9 L c9) rfl) ?_
  go_frame
  refine ls_ex (some 7) (.int .i64 0) rfl rfl (exec_assign _ rfl (.int .i64 0) rfl) ?_
  go_frame
  refine wpList_nil ?_
  go_wp2_with fail
  go_ret2
  unfold ResR
  rw [HC.out, HLst.out]
  exact ⟨_, rfl, ho.mono (by omega), hB⟩
theorem implAllPairs_c (n m k : Int) (w : World) : Calls Try.prog 22 #[.int .i64 n, .int .i64 m, .int .i64 k] w (ResR w (apL n m k) (apCode n m k)) := by
  rcases Bool.eq_false_or_eq_true (smB n m k) with hs | hs
  · exact implAllPairs_true n m k w hs
  · exact implAllPairs_false n m k w hs
end Go.Proofs.Ytppenoincihoeaa
