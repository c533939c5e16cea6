/-
  IsExponentAtMost and GreaterSize of both sides. (Made by mkcs2.py.)
-/
import Derived.Test.YtphccbilldfdpaaCs1
namespace Go.Proofs.Ytphccbilldfdpaa
open Go.RowKit
set_option maxRecDepth 100000
attribute [local irreducible] wpList
def eaB (i j : Int) (qs : List (List Nat)) : Bool := (decide (0 ≤ i) && decide (i ≤ 24)) && (decide (1 ≤ j) && decide (j ≤ 8)) && decide (0 < qs.length)
def eaCode (p n m k : Int) (qs : List (List Nat)) (i j : Int) : Int := sqCode p n m k qs (eaB i j qs)
def eaR (p n m k : Int) (qs : List (List Nat)) (i j : Int) : Bool := if eaCode p n m k qs i j = 0 then decide (powI qs.length j.toNat ≤ powI n i.toNat) else false
theorem sqCode_ne (p n m k : Int) (qs : List (List Nat)) : sqCode p n m k qs false ≠ 0 := by
  unfold sqCode
  split <;> simp
theorem sqCode_no {p n m k : Int} {qs : List (List Nat)} (h : sqCode p n m k qs true ≠ 0) (b : Bool) : sqCode p n m k qs b = sqCode p n m k qs true := by
  unfold sqCode at h ⊢
  split
  · rename_i hs
    rw [if_pos hs] at h
    cases hq : sqB n m k
    · simp
    · rw [hq] at h; simp at h
  · rfl
theorem sq_facts {p n m k : Int} {qs : List (List Nat)} {b : Bool} (h : sqCode p n m k qs b = 0) : schemeB p n m k qs = true ∧ 2 ≤ n ∧ n ≤ 3 ∧ m = n ∧ k = n ∧ b = true := by
  unfold sqCode at h
  split at h
  · rename_i hs
    split at h
    · rename_i hq
      simp only [sqB, Bool.and_eq_true, decide_eq_true_eq, beq_iff_eq] at hq
      have hn := (sizesB_parts (schemeB_sizes hs)).2.1
      simp only [sizeB, Bool.and_eq_true, decide_eq_true_eq] at hn
      exact ⟨hs, hq.1.1, hn.2, hq.1.2.1, hq.1.2.2, hq.2⟩
    · exact absurd h (by decide)
  · exact absurd h (by decide)
/-- The least l from a on, of f numbers, for which n^l is at least s. -/
def gsF (n s : Int) : Nat → Nat → Option Nat
  | 0, _ => none
  | f + 1, a => if s ≤ powI n a then some a else gsF n s f (a + 1)
def gsCode (p n m k : Int) (qs : List (List Nat)) (s : Int) : Int := if sqCode p n m k qs (decide (1 ≤ s) && decide (s ≤ 1000000)) = 0 then (if (gsF n s 9 0).isSome then 0 else 4) else sqCode p n m k qs (decide (1 ≤ s) && decide (s ≤ 1000000))
def gsR (p n m k : Int) (qs : List (List Nat)) (s : Int) : Int := if sqCode p n m k qs (decide (1 ≤ s) && decide (s ≤ 1000000)) = 0 then (match gsF n s 9 0 with | some l => powI n l | none => 0) else 0
theorem gsF_step {n s : Int} {a : Nat} (h : a < 9) : gsF n s (9 - a) a = if s ≤ powI n a then some a else gsF n s (9 - (a + 1)) (a + 1) := by
  rw [show 9 - a = (9 - (a + 1)) + 1 by omega]
  rfl
theorem gs_found {p n m k s : Int} {qs : List (List Nat)} {a : Nat} (h0 : sqCode p n m k qs (decide (1 ≤ s) && decide (s ≤ 1000000)) = 0) (ha : a < 9) (hg : gsF n s (9 - a) a = gsF n s 9 0) (hle : s ≤ powI n a) : gsCode p n m k qs s = 0 ∧ gsR p n m k qs s = powI n a := by
  rw [gsF_step ha, if_pos hle] at hg
  unfold gsCode gsR
  rw [if_pos h0, if_pos h0, ← hg]
  exact ⟨rfl, rfl⟩
theorem gs_next {n s : Int} {a : Nat} (ha : a < 9) (hg : gsF n s (9 - a) a = gsF n s 9 0) (hle : ¬ s ≤ powI n a) : gsF n s (9 - (a + 1)) (a + 1) = gsF n s 9 0 := by
  rw [gsF_step ha, if_neg hle] at hg
  exact hg
theorem gs_none {p n m k s : Int} {qs : List (List Nat)} {a : Nat} (h0 : sqCode p n m k qs (decide (1 ≤ s) && decide (s ≤ 1000000)) = 0) (hg : gsF n s (9 - a) a = gsF n s 9 0) (ha : ¬ a < 9) : gsCode p n m k qs s = 4 ∧ gsR p n m k qs s = 0 := by
  rw [show 9 - a = 0 by omega] at hg
  have hg2 : none = gsF n s 9 0 := hg
  unfold gsCode gsR
  rw [if_pos h0, if_pos h0, ← hg2]
  exact ⟨rfl, rfl⟩
set_option maxHeartbeats 4000000 in
theorem implEa_1 (p n m k : Int) (A : Option Addr) (c : Nat) (qs : List (List Nat)) (i j : Int) (w : World) (hR : Rd w A qs) (hlen : qs.length ≤ 1048576) (hi : (decide (0 ≤ i) && decide (i ≤ 24)) = false) :
    Calls Try.prog 15 #[.agg #[.int .i64 p, .int .i64 n, .int .i64 m, .int .i64 k, .slice A qs.length c], .int .i64 i, .int .i64 j] w (fun e w' => e = .returned (.tuple #[.bool (eaR p n m k qs i j), .int .i64 (eaCode p n m k qs i j)]) ∧ Below w.heap.size w w') := by
  have hB := Below.refl w.heap.size w
  have Hi : Hid ((decide (0 ≤ i) && decide (i ≤ 24)) = false) := Lib.hid hi
  have heb : eaB i j qs = false := by unfold eaB; rw [hi]; rfl
  have hne := sqCode_ne p n m k qs
  have Hc : Hid (eaCode p n m k qs i j = sqCode p n m k qs false) := Lib.hid (by unfold eaCode; rw [heb])
  have Hr : Hid (eaR p n m k qs i j = false) := Lib.hid (by unfold eaR; rw [Hc.out, if_neg hne])
  have Hne : Hid ((sqCode p n m k qs false != 0) = true) := Lib.hid (by simpa using hne)
  clear heb hne hi
  go_enter Try.func15, Try.ntmps15
  go_upto_region 0 with (fail)
  refine wp_region_lit ?_
  refine ls_op rfl (fun K' hK' => ?_)
  have lz1 := hB.size
  refine wp_new (some 3) rfl (exec_box 30 _ rfl (#[.int .i64 p, .int .i64 n, .int .i64 m, .int .i64 k, .slice A qs.length c]) rfl) (fun Wz2 nnz3 => ?_)
  have bz4 := nnz3.below (Below.refl _ _) (Nat.le_refl _)
  replace hB := below_after hB bz4
  have hz5 : At Wz2 w.heap.size (.cells #[.int .i64 p, .int .i64 n, .int .i64 m, .int .i64 k, .slice A qs.length c] 30 (0, 0)) := nnz3.at_
  refine hK' _ _ ?_
  clear hK' K' nnz3 bz4
  go_frame
  refine ls_ex (some 6) (.bool false) rfl rfl (exec_assign _ rfl (.bool false) rfl) ?_
  go_frame
  refine ls_ex (some 7) (.int .i64 0) rfl rfl (exec_assign _ rfl (.int .i64 0) rfl) ?_
  go_frame
  refine wpList_nil ?_
  go_upto_region 1 with (fail)
  refine wp_region_lit ?_
  refine ls_ex (some 10) (.int .i64 i) rfl rfl (exec_move _ rfl (.int .i64 i) rfl) ?_
  go_frame
  refine ls_op rfl (fun K' hK' => ?_)
  have lz8 := hB.size
  have lz9 := hz5.lt
  refine wp_call3 (some 11) rfl 31 _ _ _ _ rfl (fun args w => by kernel_rfl) _ _ _ rfl rfl rfl _ (isBetween_c 0 i 24 _) (fun e Wz6 h => ?_)
  obtain ⟨rfl, rfl⟩ := h
  rw [Hi.out]
  refine ⟨_, rfl, ?_⟩
  refine hK' _ _ ?_
  clear hK' K'
  go_frame
  refine ls_ex (some 12) (.bool false) rfl rfl (exec_move _ rfl (.bool false) rfl) ?_
  go_frame
  refine ls_skip_g (some 13) rfl rfl ?_
  go_frame
  refine ls_skip_g (some 14) rfl rfl ?_
  go_frame
  refine ls_ex (some 15) (.bool false) rfl rfl (exec_pick _ _ _ rfl false rfl (.bool false) rfl) ?_
  go_frame
  refine ls_ex (some 16) (.bool false) rfl rfl (exec_move _ rfl (.bool false) rfl) ?_
  go_frame
  refine ls_skip_g (some 17) rfl rfl ?_
  go_frame
  refine ls_skip_g (some 18) rfl rfl ?_
  go_frame
  refine ls_skip_g (some 19) rfl rfl ?_
  go_frame
  refine ls_skip_g (some 20) rfl rfl ?_
  go_frame
  refine ls_ex (some 21) (.bool false) rfl rfl (exec_pick _ _ _ rfl false rfl (.bool false) rfl) ?_
  go_frame
  refine ls_ex (some 8) (.bool false) rfl rfl (exec_assign _ rfl (.bool false) rfl) ?_
  go_frame
  refine wpList_nil ?_
  go_upto_region 2 with (fail)
  refine wp_region_lit ?_
  refine ls_ex (some 22) (.agg #[.int .i64 p, .int .i64 n, .int .i64 m, .int .i64 k, .slice A qs.length c]) rfl rfl (exec_load_all 30 _ rfl w.heap.size rfl _ _ _ hz5 Try.underlying30 rfl 5 (by kernel_rfl) rfl) ?_
  go_frame
  refine ls_ex (some 23) (.bool false) rfl rfl (exec_move _ rfl (.bool false) rfl) ?_
  go_frame
  refine ls_op rfl (fun K' hK' => ?_)
  have lz12 := hB.size
  have lz13 := hz5.lt
  refine wp_call2 (some 24) rfl 22 _ _ _ rfl (fun args w => by kernel_rfl) _ _ rfl rfl _ (checkRepeated_c p n m k A c qs false _ (hR.keep hB) hlen) (fun e Wz10 h => ?_)
  obtain ⟨rfl, bz11⟩ := h
  replace hB := below_after hB bz11
  replace hz5 := hz5.after bz11
  clear bz11
  refine ⟨_, rfl, ?_⟩
  refine hK' _ _ ?_
  clear hK' K'
  go_frame
  refine ls_ex (some 9) (.int .i64 (sqCode p n m k qs false)) rfl rfl (exec_assign _ rfl (.int .i64 (sqCode p n m k qs false)) rfl) ?_
  go_frame
  refine wpList_nil ?_
  go_upto_region 3 with (fail)
  refine wp_region_lit ?_
  refine ls_ex (some 25) (.int .i64 (sqCode p n m k qs false)) rfl rfl (exec_move _ rfl (.int .i64 (sqCode p n m k qs false)) rfl) ?_
  go_frame
  refine ls_ex (some 26) (.bool true) rfl rfl (exec_neq _ _ _ _ rfl ((sqCode p n m k qs false)) 0 rfl rfl true Hne.out) ?_
  go_frame
  refine wpList_nil ?_
  go_upto_region 4 with (fail)
  refine wp_region_lit ?_
  refine ls_ex (some 27) (.int .i64 (sqCode p n m k qs false)) rfl rfl (exec_move _ rfl (.int .i64 (sqCode p n m k qs false)) rfl) ?_
  go_frame
  refine ls_ex (some 6) (.bool false) rfl rfl (exec_assign _ rfl (.bool false) rfl) ?_
  go_frame
  refine ls_ex (some 7) (.int .i64 (sqCode p n m k qs false)) rfl rfl (exec_assign _ rfl (.int .i64 (sqCode p n m k qs false)) rfl) ?_
  go_frame
  refine wpList_nil ?_
  go_wp2_with fail
  go_ret2
  exact ⟨by rw [Hr.out, Hc.out]; rfl, hB⟩
set_option maxHeartbeats 4000000 in
theorem implEa_2 (p n m k : Int) (A : Option Addr) (c : Nat) (qs : List (List Nat)) (i j : Int) (w : World) (hR : Rd w A qs) (hlen : qs.length ≤ 1048576) (hi : (decide (0 ≤ i) && decide (i ≤ 24)) = true) (hj : (decide (1 ≤ j) && decide (j ≤ 8)) = false) :
    Calls Try.prog 15 #[.agg #[.int .i64 p, .int .i64 n, .int .i64 m, .int .i64 k, .slice A qs.length c], .int .i64 i, .int .i64 j] w (fun e w' => e = .returned (.tuple #[.bool (eaR p n m k qs i j), .int .i64 (eaCode p n m k qs i j)]) ∧ Below w.heap.size w w') := by
  have hB := Below.refl w.heap.size w
  have Hi : Hid ((decide (0 ≤ i) && decide (i ≤ 24)) = true) := Lib.hid hi
  have Hj : Hid ((decide (1 ≤ j) && decide (j ≤ 8)) = false) := Lib.hid hj
  have heb : eaB i j qs = false := by unfold eaB; rw [hi, hj]; rfl
  have hne := sqCode_ne p n m k qs
  have Hc : Hid (eaCode p n m k qs i j = sqCode p n m k qs false) := Lib.hid (by unfold eaCode; rw [heb])
  have Hr : Hid (eaR p n m k qs i j = false) := Lib.hid (by unfold eaR; rw [Hc.out, if_neg hne])
  have Hne : Hid ((sqCode p n m k qs false != 0) = true) := Lib.hid (by simpa using hne)
  clear heb hne hi hj
  go_enter Try.func15, Try.ntmps15
  go_upto_region 0 with (fail)
  refine wp_region_lit ?_
  refine ls_op rfl (fun K' hK' => ?_)
  have lz1 := hB.size
  refine wp_new (some 3) rfl (exec_box 30 _ rfl (#[.int .i64 p, .int .i64 n, .int .i64 m, .int .i64 k, .slice A qs.length c]) rfl) (fun Wz2 nnz3 => ?_)
  have bz4 := nnz3.below (Below.refl _ _) (Nat.le_refl _)
  replace hB := below_after hB bz4
  have hz5 : At Wz2 w.heap.size (.cells #[.int .i64 p, .int .i64 n, .int .i64 m, .int .i64 k, .slice A qs.length c] 30 (0, 0)) := nnz3.at_
  refine hK' _ _ ?_
  clear hK' K' nnz3 bz4
  go_frame
  refine ls_ex (some 6) (.bool false) rfl rfl (exec_assign _ rfl (.bool false) rfl) ?_
  go_frame
  refine ls_ex (some 7) (.int .i64 0) rfl rfl (exec_assign _ rfl (.int .i64 0) rfl) ?_
  go_frame
  refine wpList_nil ?_
  go_upto_region 1 with (fail)
  refine wp_region_lit ?_
  refine ls_ex (some 10) (.int .i64 i) rfl rfl (exec_move _ rfl (.int .i64 i) rfl) ?_
  go_frame
  refine ls_op rfl (fun K' hK' => ?_)
  have lz8 := hB.size
  have lz9 := hz5.lt
  refine wp_call3 (some 11) rfl 31 _ _ _ _ rfl (fun args w => by kernel_rfl) _ _ _ rfl rfl rfl _ (isBetween_c 0 i 24 _) (fun e Wz6 h => ?_)
  obtain ⟨rfl, rfl⟩ := h
  rw [Hi.out]
  refine ⟨_, rfl, ?_⟩
  refine hK' _ _ ?_
  clear hK' K'
  go_frame
  refine ls_ex (some 12) (.bool true) rfl rfl (exec_move _ rfl (.bool true) rfl) ?_
  go_frame
  refine ls_ex_g (some 13) (.int .i64 j) rfl rfl (exec_move _ rfl (.int .i64 j) rfl) ?_
  go_frame
  refine ls_op_g rfl (fun K' hK' => ?_)
  have lz12 := hB.size
  have lz13 := hz5.lt
  refine wp_call3 (some 14) rfl 31 _ _ _ _ rfl (fun args w => by kernel_rfl) _ _ _ rfl rfl rfl _ (isBetween_c 1 j 8 _) (fun e Wz10 h => ?_)
  obtain ⟨rfl, rfl⟩ := h
  rw [Hj.out]
  refine ⟨_, rfl, ?_⟩
  refine hK' _ _ ?_
  clear hK' K'
  go_frame
  refine ls_ex (some 15) (.bool false) rfl rfl (exec_pick _ _ _ rfl true rfl (.bool false) rfl) ?_
  go_frame
  refine ls_ex (some 16) (.bool false) rfl rfl (exec_move _ rfl (.bool false) rfl) ?_
  go_frame
  refine ls_skip_g (some 17) rfl rfl ?_
  go_frame
  refine ls_skip_g (some 18) rfl rfl ?_
  go_frame
  refine ls_skip_g (some 19) rfl rfl ?_
  go_frame
  refine ls_skip_g (some 20) rfl rfl ?_
  go_frame
  refine ls_ex (some 21) (.bool false) rfl rfl (exec_pick _ _ _ rfl false rfl (.bool false) rfl) ?_
  go_frame
  refine ls_ex (some 8) (.bool false) rfl rfl (exec_assign _ rfl (.bool false) rfl) ?_
  go_frame
  refine wpList_nil ?_
  go_upto_region 2 with (fail)
  refine wp_region_lit ?_
  refine ls_ex (some 22) (.agg #[.int .i64 p, .int .i64 n, .int .i64 m, .int .i64 k, .slice A qs.length c]) rfl rfl (exec_load_all 30 _ rfl w.heap.size rfl _ _ _ hz5 Try.underlying30 rfl 5 (by kernel_rfl) rfl) ?_
  go_frame
  refine ls_ex (some 23) (.bool false) rfl rfl (exec_move _ rfl (.bool false) rfl) ?_
  go_frame
  refine ls_op rfl (fun K' hK' => ?_)
  have lz16 := hB.size
  have lz17 := hz5.lt
  refine wp_call2 (some 24) rfl 22 _ _ _ rfl (fun args w => by kernel_rfl) _ _ rfl rfl _ (checkRepeated_c p n m k A c qs false _ (hR.keep hB) hlen) (fun e Wz14 h => ?_)
  obtain ⟨rfl, bz15⟩ := h
  replace hB := below_after hB bz15
  replace hz5 := hz5.after bz15
  clear bz15
  refine ⟨_, rfl, ?_⟩
  refine hK' _ _ ?_
  clear hK' K'
  go_frame
  refine ls_ex (some 9) (.int .i64 (sqCode p n m k qs false)) rfl rfl (exec_assign _ rfl (.int .i64 (sqCode p n m k qs false)) rfl) ?_
  go_frame
  refine wpList_nil ?_
  go_upto_region 3 with (fail)
  refine wp_region_lit ?_
  refine ls_ex (some 25) (.int .i64 (sqCode p n m k qs false)) rfl rfl (exec_move _ rfl (.int .i64 (sqCode p n m k qs false)) rfl) ?_
  go_frame
  refine ls_ex (some 26) (.bool true) rfl rfl (exec_neq _ _ _ _ rfl ((sqCode p n m k qs false)) 0 rfl rfl true Hne.out) ?_
  go_frame
  refine wpList_nil ?_
  go_upto_region 4 with (fail)
  refine wp_region_lit ?_
  refine ls_ex (some 27) (.int .i64 (sqCode p n m k qs false)) rfl rfl (exec_move _ rfl (.int .i64 (sqCode p n m k qs false)) rfl) ?_
  go_frame
  refine ls_ex (some 6) (.bool false) rfl rfl (exec_assign _ rfl (.bool false) rfl) ?_
  go_frame
  refine ls_ex (some 7) (.int .i64 (sqCode p n m k qs false)) rfl rfl (exec_assign _ rfl (.int .i64 (sqCode p n m k qs false)) rfl) ?_
  go_frame
  refine wpList_nil ?_
  go_wp2_with fail
  go_ret2
  exact ⟨by rw [Hr.out, Hc.out]; rfl, hB⟩
set_option maxHeartbeats 4000000 in
theorem implEa_3 (p n m k : Int) (A : Option Addr) (c : Nat) (qs : List (List Nat)) (i j : Int) (w : World) (hR : Rd w A qs) (hlen : qs.length ≤ 1048576) (hi : (decide (0 ≤ i) && decide (i ≤ 24)) = true) (hj : (decide (1 ≤ j) && decide (j ≤ 8)) = true) (hl : qs.length ≤ 0) :
    Calls Try.prog 15 #[.agg #[.int .i64 p, .int .i64 n, .int .i64 m, .int .i64 k, .slice A qs.length c], .int .i64 i, .int .i64 j] w (fun e w' => e = .returned (.tuple #[.bool (eaR p n m k qs i j), .int .i64 (eaCode p n m k qs i j)]) ∧ Below w.heap.size w w') := by
  have hB := Below.refl w.heap.size w
  have Hi : Hid ((decide (0 ≤ i) && decide (i ≤ 24)) = true) := Lib.hid hi
  have Hj : Hid ((decide (1 ≤ j) && decide (j ≤ 8)) = true) := Lib.hid hj
  have heb : eaB i j qs = false := by unfold eaB; rw [hi, hj]; simp only [Bool.true_and, decide_eq_false_iff_not]; omega
  have hne := sqCode_ne p n m k qs
  have Hc : Hid (eaCode p n m k qs i j = sqCode p n m k qs false) := Lib.hid (by unfold eaCode; rw [heb])
  have Hr : Hid (eaR p n m k qs i j = false) := Lib.hid (by unfold eaR; rw [Hc.out, if_neg hne])
  have Hne : Hid ((sqCode p n m k qs false != 0) = true) := Lib.hid (by simpa using hne)
  clear heb hne hi hj
  go_enter Try.func15, Try.ntmps15
  go_upto_region 0 with (fail)
  refine wp_region_lit ?_
  refine ls_op rfl (fun K' hK' => ?_)
  have lz1 := hB.size
  refine wp_new (some 3) rfl (exec_box 30 _ rfl (#[.int .i64 p, .int .i64 n, .int .i64 m, .int .i64 k, .slice A qs.length c]) rfl) (fun Wz2 nnz3 => ?_)
  have bz4 := nnz3.below (Below.refl _ _) (Nat.le_refl _)
  replace hB := below_after hB bz4
  have hz5 : At Wz2 w.heap.size (.cells #[.int .i64 p, .int .i64 n, .int .i64 m, .int .i64 k, .slice A qs.length c] 30 (0, 0)) := nnz3.at_
  refine hK' _ _ ?_
  clear hK' K' nnz3 bz4
  go_frame
  refine ls_ex (some 6) (.bool false) rfl rfl (exec_assign _ rfl (.bool false) rfl) ?_
  go_frame
  refine ls_ex (some 7) (.int .i64 0) rfl rfl (exec_assign _ rfl (.int .i64 0) rfl) ?_
  go_frame
  refine wpList_nil ?_
  go_upto_region 1 with (fail)
  refine wp_region_lit ?_
  refine ls_ex (some 10) (.int .i64 i) rfl rfl (exec_move _ rfl (.int .i64 i) rfl) ?_
  go_frame
  refine ls_op rfl (fun K' hK' => ?_)
  have lz8 := hB.size
  have lz9 := hz5.lt
  refine wp_call3 (some 11) rfl 31 _ _ _ _ rfl (fun args w => by kernel_rfl) _ _ _ rfl rfl rfl _ (isBetween_c 0 i 24 _) (fun e Wz6 h => ?_)
  obtain ⟨rfl, rfl⟩ := h
  rw [Hi.out]
  refine ⟨_, rfl, ?_⟩
  refine hK' _ _ ?_
  clear hK' K'
  go_frame
  refine ls_ex (some 12) (.bool true) rfl rfl (exec_move _ rfl (.bool true) rfl) ?_
  go_frame
  refine ls_ex_g (some 13) (.int .i64 j) rfl rfl (exec_move _ rfl (.int .i64 j) rfl) ?_
  go_frame
  refine ls_op_g rfl (fun K' hK' => ?_)
  have lz12 := hB.size
  have lz13 := hz5.lt
  refine wp_call3 (some 14) rfl 31 _ _ _ _ rfl (fun args w => by kernel_rfl) _ _ _ rfl rfl rfl _ (isBetween_c 1 j 8 _) (fun e Wz10 h => ?_)
  obtain ⟨rfl, rfl⟩ := h
  rw [Hj.out]
  refine ⟨_, rfl, ?_⟩
  refine hK' _ _ ?_
  clear hK' K'
  go_frame
  refine ls_ex (some 15) (.bool true) rfl rfl (exec_pick _ _ _ rfl true rfl (.bool true) rfl) ?_
  go_frame
  refine ls_ex (some 16) (.bool true) rfl rfl (exec_move _ rfl (.bool true) rfl) ?_
  go_frame
  refine ls_ex_g (some 17) (.pointer (some ⟨w.heap.size, 4, none⟩)) rfl rfl (exec_fieldAddr 30 _ 4 rfl _ (by kernel_rfl)) ?_
  go_frame
  refine ls_ex_g (some 18) (.slice A qs.length c) rfl rfl (exec_load_one 28 _ rfl w.heap.size 4 rfl (.slice A qs.length c) _ Try.underlying28 rfl (hz5.at_ 4)) ?_
  go_frame
  refine ls_ex_g (some 19) (.int .i64 qs.length) rfl rfl (exec_len _ 28 68 rfl A qs.length c rfl Try.underlying28) ?_
  go_frame
  refine ls_ex_g (some 20) (.bool false) rfl rfl (exec_gtr _ _ _ _ rfl qs.length 0 rfl rfl false (decide_eq_false (by omega))) ?_
  go_frame
  refine ls_ex (some 21) (.bool false) rfl rfl (exec_pick _ _ _ rfl true rfl (.bool false) rfl) ?_
  go_frame
  refine ls_ex (some 8) (.bool false) rfl rfl (exec_assign _ rfl (.bool false) rfl) ?_
  go_frame
  refine wpList_nil ?_
  go_upto_region 2 with (fail)
  refine wp_region_lit ?_
  refine ls_ex (some 22) (.agg #[.int .i64 p, .int .i64 n, .int .i64 m, .int .i64 k, .slice A qs.length c]) rfl rfl (exec_load_all 30 _ rfl w.heap.size rfl _ _ _ hz5 Try.underlying30 rfl 5 (by kernel_rfl) rfl) ?_
  go_frame
  refine ls_ex (some 23) (.bool false) rfl rfl (exec_move _ rfl (.bool false) rfl) ?_
  go_frame
  refine ls_op rfl (fun K' hK' => ?_)
  have lz16 := hB.size
  have lz17 := hz5.lt
  refine wp_call2 (some 24) rfl 22 _ _ _ rfl (fun args w => by kernel_rfl) _ _ rfl rfl _ (checkRepeated_c p n m k A c qs false _ (hR.keep hB) hlen) (fun e Wz14 h => ?_)
  obtain ⟨rfl, bz15⟩ := h
  replace hB := below_after hB bz15
  replace hz5 := hz5.after bz15
  clear bz15
  refine ⟨_, rfl, ?_⟩
  refine hK' _ _ ?_
  clear hK' K'
  go_frame
  refine ls_ex (some 9) (.int .i64 (sqCode p n m k qs false)) rfl rfl (exec_assign _ rfl (.int .i64 (sqCode p n m k qs false)) rfl) ?_
  go_frame
  refine wpList_nil ?_
  go_upto_region 3 with (fail)
  refine wp_region_lit ?_
  refine ls_ex (some 25) (.int .i64 (sqCode p n m k qs false)) rfl rfl (exec_move _ rfl (.int .i64 (sqCode p n m k qs false)) rfl) ?_
  go_frame
  refine ls_ex (some 26) (.bool true) rfl rfl (exec_neq _ _ _ _ rfl ((sqCode p n m k qs false)) 0 rfl rfl true Hne.out) ?_
  go_frame
  refine wpList_nil ?_
  go_upto_region 4 with (fail)
  refine wp_region_lit ?_
  refine ls_ex (some 27) (.int .i64 (sqCode p n m k qs false)) rfl rfl (exec_move _ rfl (.int .i64 (sqCode p n m k qs false)) rfl) ?_
  go_frame
  refine ls_ex (some 6) (.bool false) rfl rfl (exec_assign _ rfl (.bool false) rfl) ?_
  go_frame
  refine ls_ex (some 7) (.int .i64 (sqCode p n m k qs false)) rfl rfl (exec_assign _ rfl (.int .i64 (sqCode p n m k qs false)) rfl) ?_
  go_frame
  refine wpList_nil ?_
  go_wp2_with fail
  go_ret2
  exact ⟨by rw [Hr.out, Hc.out]; rfl, hB⟩
set_option maxHeartbeats 4000000 in
theorem implEa_4 (p n m k : Int) (A : Option Addr) (c : Nat) (qs : List (List Nat)) (i j : Int) (w : World) (hR : Rd w A qs) (hlen : qs.length ≤ 1048576) (hi : (decide (0 ≤ i) && decide (i ≤ 24)) = true) (hj : (decide (1 ≤ j) && decide (j ≤ 8)) = true) (hl : 0 < qs.length) (hne : sqCode p n m k qs true ≠ 0) :
    Calls Try.prog 15 #[.agg #[.int .i64 p, .int .i64 n, .int .i64 m, .int .i64 k, .slice A qs.length c], .int .i64 i, .int .i64 j] w (fun e w' => e = .returned (.tuple #[.bool (eaR p n m k qs i j), .int .i64 (eaCode p n m k qs i j)]) ∧ Below w.heap.size w w') := by
  have hB := Below.refl w.heap.size w
  have Hi : Hid ((decide (0 ≤ i) && decide (i ≤ 24)) = true) := Lib.hid hi
  have Hj : Hid ((decide (1 ≤ j) && decide (j ≤ 8)) = true) := Lib.hid hj
  have heb : eaB i j qs = true := by unfold eaB; rw [hi, hj]; simp only [Bool.true_and, decide_eq_true_eq]; omega
  have Hc : Hid (eaCode p n m k qs i j = sqCode p n m k qs true) := Lib.hid (by unfold eaCode; rw [heb])
  have Hr : Hid (eaR p n m k qs i j = false) := Lib.hid (by unfold eaR; rw [Hc.out, if_neg hne])
  have Hne : Hid ((sqCode p n m k qs true != 0) = true) := Lib.hid (by simpa using hne)
  clear heb hne hi hj
  go_enter Try.func15, Try.ntmps15
  go_upto_region 0 with (fail)
  refine wp_region_lit ?_
  refine ls_op rfl (fun K' hK' => ?_)
  have lz1 := hB.size
  refine wp_new (some 3) rfl (exec_box 30 _ rfl (#[.int .i64 p, .int .i64 n, .int .i64 m, .int .i64 k, .slice A qs.length c]) rfl) (fun Wz2 nnz3 => ?_)
  have bz4 := nnz3.below (Below.refl _ _) (Nat.le_refl _)
  replace hB := below_after hB bz4
  have hz5 : At Wz2 w.heap.size (.cells #[.int .i64 p, .int .i64 n, .int .i64 m, .int .i64 k, .slice A qs.length c] 30 (0, 0)) := nnz3.at_
  refine hK' _ _ ?_
  clear hK' K' nnz3 bz4
  go_frame
  refine ls_ex (some 6) (.bool false) rfl rfl (exec_assign _ rfl (.bool false) rfl) ?_
  go_frame
  refine ls_ex (some 7) (.int .i64 0) rfl rfl (exec_assign _ rfl (.int .i64 0) rfl) ?_
  go_frame
  refine wpList_nil ?_
  go_upto_region 1 with (fail)
  refine wp_region_lit ?_
  refine ls_ex (some 10) (.int .i64 i) rfl rfl (exec_move _ rfl (.int .i64 i) rfl) ?_
  go_frame
  refine ls_op rfl (fun K' hK' => ?_)
  have lz8 := hB.size
  have lz9 := hz5.lt
  refine wp_call3 (some 11) rfl 31 _ _ _ _ rfl (fun args w => by kernel_rfl) _ _ _ rfl rfl rfl _ (isBetween_c 0 i 24 _) (fun e Wz6 h => ?_)
  obtain ⟨rfl, rfl⟩ := h
  rw [Hi.out]
  refine ⟨_, rfl, ?_⟩
  refine hK' _ _ ?_
  clear hK' K'
  go_frame
  refine ls_ex (some 12) (.bool true) rfl rfl (exec_move _ rfl (.bool true) rfl) ?_
  go_frame
  refine ls_ex_g (some 13) (.int .i64 j) rfl rfl (exec_move _ rfl (.int .i64 j) rfl) ?_
  go_frame
  refine ls_op_g rfl (fun K' hK' => ?_)
  have lz12 := hB.size
  have lz13 := hz5.lt
  refine wp_call3 (some 14) rfl 31 _ _ _ _ rfl (fun args w => by kernel_rfl) _ _ _ rfl rfl rfl _ (isBetween_c 1 j 8 _) (fun e Wz10 h => ?_)
  obtain ⟨rfl, rfl⟩ := h
  rw [Hj.out]
  refine ⟨_, rfl, ?_⟩
  refine hK' _ _ ?_
  clear hK' K'
  go_frame
  refine ls_ex (some 15) (.bool true) rfl rfl (exec_pick _ _ _ rfl true rfl (.bool true) rfl) ?_
  go_frame
  refine ls_ex (some 16) (.bool true) rfl rfl (exec_move _ rfl (.bool true) rfl) ?_
  go_frame
  refine ls_ex_g (some 17) (.pointer (some ⟨w.heap.size, 4, none⟩)) rfl rfl (exec_fieldAddr 30 _ 4 rfl _ (by kernel_rfl)) ?_
  go_frame
  refine ls_ex_g (some 18) (.slice A qs.length c) rfl rfl (exec_load_one 28 _ rfl w.heap.size 4 rfl (.slice A qs.length c) _ Try.underlying28 rfl (hz5.at_ 4)) ?_
  go_frame
  refine ls_ex_g (some 19) (.int .i64 qs.length) rfl rfl (exec_len _ 28 68 rfl A qs.length c rfl Try.underlying28) ?_
  go_frame
  refine ls_ex_g (some 20) (.bool true) rfl rfl (exec_gtr _ _ _ _ rfl qs.length 0 rfl rfl true (decide_eq_true (by omega))) ?_
  go_frame
  refine ls_ex (some 21) (.bool true) rfl rfl (exec_pick _ _ _ rfl true rfl (.bool true) rfl) ?_
  go_frame
  refine ls_ex (some 8) (.bool true) rfl rfl (exec_assign _ rfl (.bool true) rfl) ?_
  go_frame
  refine wpList_nil ?_
  go_upto_region 2 with (fail)
  refine wp_region_lit ?_
  refine ls_ex (some 22) (.agg #[.int .i64 p, .int .i64 n, .int .i64 m, .int .i64 k, .slice A qs.length c]) rfl rfl (exec_load_all 30 _ rfl w.heap.size rfl _ _ _ hz5 Try.underlying30 rfl 5 (by kernel_rfl) rfl) ?_
  go_frame
  refine ls_ex (some 23) (.bool true) rfl rfl (exec_move _ rfl (.bool true) rfl) ?_
  go_frame
  refine ls_op rfl (fun K' hK' => ?_)
  have lz16 := hB.size
  have lz17 := hz5.lt
  refine wp_call2 (some 24) rfl 22 _ _ _ rfl (fun args w => by kernel_rfl) _ _ rfl rfl _ (checkRepeated_c p n m k A c qs true _ (hR.keep hB) hlen) (fun e Wz14 h => ?_)
  obtain ⟨rfl, bz15⟩ := h
  replace hB := below_after hB bz15
  replace hz5 := hz5.after bz15
  clear bz15
  refine ⟨_, rfl, ?_⟩
  refine hK' _ _ ?_
  clear hK' K'
  go_frame
  refine ls_ex (some 9) (.int .i64 (sqCode p n m k qs true)) rfl rfl (exec_assign _ rfl (.int .i64 (sqCode p n m k qs true)) rfl) ?_
  go_frame
  refine wpList_nil ?_
  go_upto_region 3 with (fail)
  refine wp_region_lit ?_
  refine ls_ex (some 25) (.int .i64 (sqCode p n m k qs true)) rfl rfl (exec_move _ rfl (.int .i64 (sqCode p n m k qs true)) rfl) ?_
  go_frame
  refine ls_ex (some 26) (.bool true) rfl rfl (exec_neq _ _ _ _ rfl ((sqCode p n m k qs true)) 0 rfl rfl true Hne.out) ?_
  go_frame
  refine wpList_nil ?_
  go_upto_region 4 with (fail)
  refine wp_region_lit ?_
  refine ls_ex (some 27) (.int .i64 (sqCode p n m k qs true)) rfl rfl (exec_move _ rfl (.int .i64 (sqCode p n m k qs true)) rfl) ?_
  go_frame
  refine ls_ex (some 6) (.bool false) rfl rfl (exec_assign _ rfl (.bool false) rfl) ?_
  go_frame
  refine ls_ex (some 7) (.int .i64 (sqCode p n m k qs true)) rfl rfl (exec_assign _ rfl (.int .i64 (sqCode p n m k qs true)) rfl) ?_
  go_frame
  refine wpList_nil ?_
  go_wp2_with fail
  go_ret2
  exact ⟨by rw [Hr.out, Hc.out]; rfl, hB⟩
set_option maxHeartbeats 4000000 in
theorem implEa_5 (p n m k : Int) (A : Option Addr) (c : Nat) (qs : List (List Nat)) (I J : Nat) (w : World) (hR : Rd w A qs) (hlen : qs.length ≤ 1048576) (hi : (decide (0 ≤ (I : Int)) && decide ((I : Int) ≤ 24)) = true) (hj : (decide (1 ≤ (J : Int)) && decide ((J : Int) ≤ 8)) = true) (hl : 0 < qs.length) (h0 : sqCode p n m k qs true = 0) :
    Calls Try.prog 15 #[.agg #[.int .i64 p, .int .i64 n, .int .i64 m, .int .i64 k, .slice A qs.length c], .int .i64 I, .int .i64 J] w (fun e w' => e = .returned (.tuple #[.bool (eaR p n m k qs I J), .int .i64 (eaCode p n m k qs I J)]) ∧ Below w.heap.size w w') := by
  have hB := Below.refl w.heap.size w
  have Hi : Hid ((decide (0 ≤ (I : Int)) && decide ((I : Int) ≤ 24)) = true) := Lib.hid hi
  have Hj : Hid ((decide (1 ≤ (J : Int)) && decide ((J : Int) ≤ 8)) = true) := Lib.hid hj
  have hf := sq_facts h0
  have h30 := schemeB_len hf.1
  have hi2 : I ≤ 24 := by simp only [Bool.and_eq_true, decide_eq_true_eq] at hi; omega
  have hj2 : J ≤ 8 := by simp only [Bool.and_eq_true, decide_eq_true_eq] at hj; omega
  have HP1 := Lib.hid (fun a (h : a ≤ J) => powI_in (show (1 : Int) ≤ qs.length by omega) (show (qs.length : Int) ≤ 30 by omega) 8 (by decide) (show a ≤ 8 by omega))
  have HP2 := Lib.hid (fun a (h : a ≤ I) => powI_in (show (1 : Int) ≤ n by omega) hf.2.2.1 24 (by decide) (show a ≤ 24 by omega))
  have heb : eaB I J qs = true := by unfold eaB; rw [hi, hj]; simp only [Bool.true_and, decide_eq_true_eq]; omega
  have Hc : Hid (eaCode p n m k qs I J = 0) := Lib.hid (by unfold eaCode; rw [heb, h0])
  have Hr : Hid (eaR p n m k qs I J = decide (powI qs.length J ≤ powI n I)) := Lib.hid (by unfold eaR; rw [Hc.out, if_pos rfl]; rfl)
  have Hne : Hid ((sqCode p n m k qs true != 0) = false) := Lib.hid (by simpa using h0)
  clear heb h0 hi hj hf
  go_enter Try.func15, Try.ntmps15
  go_upto_region 0 with (fail)
  refine wp_region_lit ?_
  refine ls_op rfl (fun K' hK' => ?_)
  have lz1 := hB.size
  refine wp_new (some 3) rfl (exec_box 30 _ rfl (#[.int .i64 p, .int .i64 n, .int .i64 m, .int .i64 k, .slice A qs.length c]) rfl) (fun Wz2 nnz3 => ?_)
  have bz4 := nnz3.below (Below.refl _ _) (Nat.le_refl _)
  replace hB := below_after hB bz4
  have hz5 : At Wz2 w.heap.size (.cells #[.int .i64 p, .int .i64 n, .int .i64 m, .int .i64 k, .slice A qs.length c] 30 (0, 0)) := nnz3.at_
  refine hK' _ _ ?_
  clear hK' K' nnz3 bz4
  go_frame
  refine ls_ex (some 6) (.bool false) rfl rfl (exec_assign _ rfl (.bool false) rfl) ?_
  go_frame
  refine ls_ex (some 7) (.int .i64 0) rfl rfl (exec_assign _ rfl (.int .i64 0) rfl) ?_
  go_frame
  refine wpList_nil ?_
  go_upto_region 1 with (fail)
  refine wp_region_lit ?_
  refine ls_ex (some 10) (.int .i64 I) rfl rfl (exec_move _ rfl (.int .i64 I) rfl) ?_
  go_frame
  refine ls_op rfl (fun K' hK' => ?_)
  have lz8 := hB.size
  have lz9 := hz5.lt
  refine wp_call3 (some 11) rfl 31 _ _ _ _ rfl (fun args w => by kernel_rfl) _ _ _ rfl rfl rfl _ (isBetween_c 0 I 24 _) (fun e Wz6 h => ?_)
  obtain ⟨rfl, rfl⟩ := h
  rw [Hi.out]
  refine ⟨_, rfl, ?_⟩
  refine hK' _ _ ?_
  clear hK' K'
  go_frame
  refine ls_ex (some 12) (.bool true) rfl rfl (exec_move _ rfl (.bool true) rfl) ?_
  go_frame
  refine ls_ex_g (some 13) (.int .i64 J) rfl rfl (exec_move _ rfl (.int .i64 J) rfl) ?_
  go_frame
  refine ls_op_g rfl (fun K' hK' => ?_)
  have lz12 := hB.size
  have lz13 := hz5.lt
  refine wp_call3 (some 14) rfl 31 _ _ _ _ rfl (fun args w => by kernel_rfl) _ _ _ rfl rfl rfl _ (isBetween_c 1 J 8 _) (fun e Wz10 h => ?_)
  obtain ⟨rfl, rfl⟩ := h
  rw [Hj.out]
  refine ⟨_, rfl, ?_⟩
  refine hK' _ _ ?_
  clear hK' K'
  go_frame
  refine ls_ex (some 15) (.bool true) rfl rfl (exec_pick _ _ _ rfl true rfl (.bool true) rfl) ?_
  go_frame
  refine ls_ex (some 16) (.bool true) rfl rfl (exec_move _ rfl (.bool true) rfl) ?_
  go_frame
  refine ls_ex_g (some 17) (.pointer (some ⟨w.heap.size, 4, none⟩)) rfl rfl (exec_fieldAddr 30 _ 4 rfl _ (by kernel_rfl)) ?_
  go_frame
  refine ls_ex_g (some 18) (.slice A qs.length c) rfl rfl (exec_load_one 28 _ rfl w.heap.size 4 rfl (.slice A qs.length c) _ Try.underlying28 rfl (hz5.at_ 4)) ?_
  go_frame
  refine ls_ex_g (some 19) (.int .i64 qs.length) rfl rfl (exec_len _ 28 68 rfl A qs.length c rfl Try.underlying28) ?_
  go_frame
  refine ls_ex_g (some 20) (.bool true) rfl rfl (exec_gtr _ _ _ _ rfl qs.length 0 rfl rfl true (decide_eq_true (by omega))) ?_
  go_frame
  refine ls_ex (some 21) (.bool true) rfl rfl (exec_pick _ _ _ rfl true rfl (.bool true) rfl) ?_
  go_frame
  refine ls_ex (some 8) (.bool true) rfl rfl (exec_assign _ rfl (.bool true) rfl) ?_
  go_frame
  refine wpList_nil ?_
  go_upto_region 2 with (fail)
  refine wp_region_lit ?_
  refine ls_ex (some 22) (.agg #[.int .i64 p, .int .i64 n, .int .i64 m, .int .i64 k, .slice A qs.length c]) rfl rfl (exec_load_all 30 _ rfl w.heap.size rfl _ _ _ hz5 Try.underlying30 rfl 5 (by kernel_rfl) rfl) ?_
  go_frame
  refine ls_ex (some 23) (.bool true) rfl rfl (exec_move _ rfl (.bool true) rfl) ?_
  go_frame
  refine ls_op rfl (fun K' hK' => ?_)
  have lz16 := hB.size
  have lz17 := hz5.lt
  refine wp_call2 (some 24) rfl 22 _ _ _ rfl (fun args w => by kernel_rfl) _ _ rfl rfl _ (checkRepeated_c p n m k A c qs true _ (hR.keep hB) hlen) (fun e Wz14 h => ?_)
  obtain ⟨rfl, bz15⟩ := h
  replace hB := below_after hB bz15
  replace hz5 := hz5.after bz15
  clear bz15
  refine ⟨_, rfl, ?_⟩
  refine hK' _ _ ?_
  clear hK' K'
  go_frame
  refine ls_ex (some 9) (.int .i64 (sqCode p n m k qs true)) rfl rfl (exec_assign _ rfl (.int .i64 (sqCode p n m k qs true)) rfl) ?_
  go_frame
  refine wpList_nil ?_
  go_upto_region 3 with (fail)
  refine wp_region_lit ?_
  refine ls_ex (some 25) (.int .i64 (sqCode p n m k qs true)) rfl rfl (exec_move _ rfl (.int .i64 (sqCode p n m k qs true)) rfl) ?_
  go_frame
  refine ls_ex (some 26) (.bool false) rfl rfl (exec_neq _ _ _ _ rfl ((sqCode p n m k qs true)) 0 rfl rfl false Hne.out) ?_
  go_frame
  refine wpList_nil ?_
  go_upto_region 5 with (fail)
  refine wp_region_y (zs := []) (S := fun w' => Below w.heap.size w w' ∧ At w' w.heap.size (.cells #[.int .i64 p, .int .i64 n, .int .i64 m, .int .i64 k, .slice A qs.length c] 30 (0, 0))) (S2 := fun w' => True) (by kernel_rfl) ?_
  change wpAnyY _ _ _ _ _ _ _ _ _ _ (World.drew _)
  generalize hwdz18 : World.drew _ = wdz18
  replace hB : Below w.heap.size w wdz18 := by rw [← hwdz18]; exact hB.drew
  replace hz5 : At wdz18 w.heap.size (.cells #[.int .i64 p, .int .i64 n, .int .i64 m, .int .i64 k, .slice A qs.length c] 30 (0, 0)) := by rw [← hwdz18]; exact hz5
  clear hwdz18
  refine y_yield 0 (some 28) (.pointer (some ⟨w.heap.size, 4, none⟩)) rfl (by kernel_rfl) (by kernel_rfl) (by kernel_rfl) (fun _ _ _ h => h) rfl rfl ⟨hB, hz5⟩ (fun w' h' => exec_fieldAddr 30 _ 4 rfl _ (by kernel_rfl)) ?_
  go_frame
  refine y_yield 1 (some 29) (.slice A qs.length c) rfl (by kernel_rfl) (by kernel_rfl) (by kernel_rfl) (fun _ _ _ h => h) rfl rfl ⟨hB, hz5⟩ (fun w' h' => exec_load_one 28 _ rfl w.heap.size 4 rfl (.slice A qs.length c) _ Try.underlying28 rfl (h'.2.at_ 4)) ?_
  go_frame
  refine y_yield 2 (some 30) (.int .i64 qs.length) rfl (by kernel_rfl) (by kernel_rfl) (by kernel_rfl) (fun _ _ _ h => h) rfl rfl ⟨hB, hz5⟩ (fun w' h' => exec_len _ 28 68 rfl A qs.length c rfl Try.underlying28) ?_
  go_frame
  refine y_yield 3 (some 31) (.int .i64 J) rfl (by kernel_rfl) (by kernel_rfl) (by kernel_rfl) (fun _ _ _ h => h) rfl rfl ⟨hB, hz5⟩ (fun w' h' => exec_move _ rfl (.int .i64 J) rfl) ?_
  go_frame
  refine y_yield 5 (some 33) (.pointer (some ⟨w.heap.size, 1, none⟩)) rfl (by kernel_rfl) (by kernel_rfl) (by kernel_rfl) (fun _ _ _ h => h) rfl rfl ⟨hB, hz5⟩ (fun w' h' => exec_fieldAddr 30 _ 1 rfl _ (by kernel_rfl)) ?_
  go_frame
  refine y_yield 6 (some 34) (.int .i64 n) rfl (by kernel_rfl) (by kernel_rfl) (by kernel_rfl) (fun _ _ _ h => h) rfl rfl ⟨hB, hz5⟩ (fun w' h' => exec_load_one 2 _ rfl w.heap.size 1 rfl (.int .i64 n) _ Try.underlying2 rfl (h'.2.at_ 1)) ?_
  go_frame
  refine y_yield 7 (some 35) (.int .i64 I) rfl (by kernel_rfl) (by kernel_rfl) (by kernel_rfl) (fun _ _ _ h => h) rfl rfl ⟨hB, hz5⟩ (fun w' h' => exec_move _ rfl (.int .i64 I) rfl) ?_
  go_frame
  refine y_oper 4 (by kernel_rfl) rfl rfl (fun K' hK' => ?_)
  have lz21 := hB.size
  have lz22 := hz5.lt
  refine wp_call2 (some 32) rfl 32 _ _ _ rfl (fun args w => by kernel_rfl) _ _ rfl rfl _ (powerOf_c qs.length J (by omega) HP1.out _) (fun e Wz19 h => ?_)
  obtain ⟨rfl, rfl⟩ := h
  refine ⟨_, rfl, ?_⟩
  refine hK' _ _ ⟨hB, hz5⟩ (fun _ => trivial) ?_
  clear hK' K'
  go_frame
  refine y_oper 8 (by kernel_rfl) rfl rfl (fun K' hK' => ?_)
  have lz25 := hB.size
  have lz26 := hz5.lt
  refine wp_call2 (some 36) rfl 32 _ _ _ rfl (fun args w => by kernel_rfl) _ _ rfl rfl _ (powerOf_c n I (by omega) HP2.out _) (fun e Wz23 h => ?_)
  obtain ⟨rfl, rfl⟩ := h
  refine ⟨_, rfl, ?_⟩
  refine hK' _ _ ⟨hB, hz5⟩ (fun _ => trivial) ?_
  clear hK' K'
  go_frame
  refine y_yield 9 (some 37) (.bool (decide (powI qs.length J ≤ powI n I))) rfl (by kernel_rfl) (by kernel_rfl) (by kernel_rfl) (fun _ _ _ h => h) rfl rfl ⟨hB, hz5⟩ (fun w' h' => exec_leq _ _ _ _ rfl (powI qs.length J) (powI n I) rfl rfl _ rfl) ?_
  go_frame
  refine y_oper 10 (by kernel_rfl) rfl rfl (fun K' hK' => ?_)
  refine wp_exec (some 6) rfl (.bool (decide (powI qs.length J ≤ powI n I))) (exec_assign _ rfl (.bool (decide (powI qs.length J ≤ powI n I))) rfl) ?_
  refine hK' _ _ ⟨hB, hz5⟩ (fun _ => trivial) ?_
  clear hK' K'
  go_frame
  refine y_oper 11 (by kernel_rfl) rfl rfl (fun K' hK' => ?_)
  refine wp_exec (some 7) rfl (.int .i64 0) (exec_assign _ rfl (.int .i64 0) rfl) ?_
  refine hK' _ _ ⟨hB, hz5⟩ (fun _ => trivial) ?_
  clear hK' K'
  go_frame
  refine y_done (by kernel_rfl) ?_ _
  go_wp2_with fail
  go_ret2
  exact ⟨by rw [Hr.out, Hc.out]; rfl, hB⟩
theorem implIsExponentAtMost_c (p n m k : Int) (A : Option Addr) (c : Nat) (qs : List (List Nat)) (i j : Int) (w : World) (hR : Rd w A qs) (hlen : qs.length ≤ 1048576) : Calls Try.prog 15 #[.agg #[.int .i64 p, .int .i64 n, .int .i64 m, .int .i64 k, .slice A qs.length c], .int .i64 i, .int .i64 j] w (fun e w' => e = .returned (.tuple #[.bool (eaR p n m k qs i j), .int .i64 (eaCode p n m k qs i j)]) ∧ Below w.heap.size w w') := by
  cases hi : (decide (0 ≤ i) && decide (i ≤ 24)) with
  | false => exact implEa_1 p n m k A c qs i j w hR hlen hi
  | true =>
    cases hj : (decide (1 ≤ j) && decide (j ≤ 8)) with
    | false => exact implEa_2 p n m k A c qs i j w hR hlen hi hj
    | true =>
      by_cases hl : 0 < qs.length
      · by_cases h0 : sqCode p n m k qs true = 0
        · obtain ⟨I, rfl⟩ := Int.eq_ofNat_of_zero_le (show 0 ≤ i by simp only [Bool.and_eq_true, decide_eq_true_eq] at hi; omega)
          obtain ⟨J, rfl⟩ := Int.eq_ofNat_of_zero_le (show 0 ≤ j by simp only [Bool.and_eq_true, decide_eq_true_eq] at hj; omega)
          exact implEa_5 p n m k A c qs I J w hR hlen hi hj hl h0
        · exact implEa_4 p n m k A c qs i j w hR hlen hi hj hl h0
      · exact implEa_3 p n m k A c qs i j w hR hlen hi hj (by omega)
set_option maxHeartbeats 4000000 in
theorem specEa_1 (p n m k : Int) (A : Option Addr) (c : Nat) (qs : List (List Nat)) (i j : Int) (w : World) (hR : Rd w A qs) (hlen : qs.length ≤ 1048576) (hne : sqCode p n m k qs true ≠ 0) :
    Calls Try.prog 14 #[.agg #[.int .i64 p, .int .i64 n, .int .i64 m, .int .i64 k, .slice A qs.length c], .int .i64 i, .int .i64 j] w (fun e w' => e = .returned (.tuple #[.bool (eaR p n m k qs i j), .int .i64 (eaCode p n m k qs i j)]) ∧ Below w.heap.size w w') := by
  have hB := Below.refl w.heap.size w
  have Hc : Hid (eaCode p n m k qs i j = sqCode p n m k qs true) := Lib.hid (by unfold eaCode; exact sqCode_no hne _)
  have Hr : Hid (eaR p n m k qs i j = false) := Lib.hid (by unfold eaR; rw [Hc.out, if_neg hne])
  have Hne : Hid ((sqCode p n m k qs true != 0) = true) := Lib.hid (by simpa using hne)
  have Hz : Hid ((sqCode p n m k qs true == 0) = false) := Lib.hid (by simpa using hne)
  clear hne
  go_enter Try.func14, Try.ntmps14
  go_upto_region 0 with (fail)
  refine wp_region_lit ?_
  refine ls_op rfl (fun K' hK' => ?_)
  have lz1 := hB.size
  refine wp_new (some 3) rfl (exec_box 30 _ rfl (#[.int .i64 p, .int .i64 n, .int .i64 m, .int .i64 k, .slice A qs.length c]) rfl) (fun Wz2 nnz3 => ?_)
  have bz4 := nnz3.below (Below.refl _ _) (Nat.le_refl _)
  replace hB := below_after hB bz4
  have hz5 : At Wz2 w.heap.size (.cells #[.int .i64 p, .int .i64 n, .int .i64 m, .int .i64 k, .slice A qs.length c] 30 (0, 0)) := nnz3.at_
  refine hK' _ _ ?_
  clear hK' K' nnz3 bz4
  go_frame
  refine ls_ex (some 6) (.bool false) rfl rfl (exec_assign _ rfl (.bool false) rfl) ?_
  go_frame
  refine ls_ex (some 7) (.int .i64 0) rfl rfl (exec_assign _ rfl (.int .i64 0) rfl) ?_
  go_frame
  refine wpList_nil ?_
  go_upto_region 1 with (fail)
  refine wp_region_lit ?_
  refine ls_ex (some 9) (.agg #[.int .i64 p, .int .i64 n, .int .i64 m, .int .i64 k, .slice A qs.length c]) rfl rfl (exec_load_all 30 _ rfl w.heap.size rfl _ _ _ hz5 Try.underlying30 rfl 5 (by kernel_rfl) rfl) ?_
  go_frame
  refine ls_op rfl (fun K' hK' => ?_)
  have lz8 := hB.size
  have lz9 := hz5.lt
  refine wp_call1 (some 10) rfl 29 _ _ rfl (fun args w => by kernel_rfl) _ rfl _ (l06Square_c p n m k A c qs _ (hR.keep hB) hlen) (fun e Wz6 h => ?_)
  obtain ⟨rfl, bz7⟩ := h
  replace hB := below_after hB bz7
  replace hz5 := hz5.after bz7
  clear bz7
  refine ⟨_, rfl, ?_⟩
  refine hK' _ _ ?_
  clear hK' K'
  go_frame
  refine ls_ex (some 8) (.int .i64 (sqCode p n m k qs true)) rfl rfl (exec_assign _ rfl (.int .i64 (sqCode p n m k qs true)) rfl) ?_
  go_frame
  refine wpList_nil ?_
  go_upto_region 2 with (fail)
  refine wp_region_lit ?_
  refine ls_ex (some 11) (.int .i64 (sqCode p n m k qs true)) rfl rfl (exec_move _ rfl (.int .i64 (sqCode p n m k qs true)) rfl) ?_
  go_frame
  refine ls_ex (some 12) (.bool false) rfl rfl (exec_eql _ _ _ _ rfl ((sqCode p n m k qs true)) 0 rfl rfl false Hz.out) ?_
  go_frame
  refine ls_ex (some 13) (.bool false) rfl rfl (exec_move _ rfl (.bool false) rfl) ?_
  go_frame
  refine ls_skip_g (some 14) rfl rfl ?_
  go_frame
  refine ls_skip_g (some 15) rfl rfl ?_
  go_frame
  refine ls_skip_g (some 16) rfl rfl ?_
  go_frame
  refine ls_skip_g (some 17) rfl rfl ?_
  go_frame
  refine ls_skip_g (some 18) rfl rfl ?_
  go_frame
  refine ls_skip_g (some 19) rfl rfl ?_
  go_frame
  refine ls_skip_g (some 20) rfl rfl ?_
  go_frame
  refine ls_skip_g (some 21) rfl rfl ?_
  go_frame
  refine ls_skip_g (some 22) rfl rfl ?_
  go_frame
  refine ls_skip_g (some 23) rfl rfl ?_
  go_frame
  refine ls_skip_g (some 24) rfl rfl ?_
  go_frame
  refine ls_skip_g (some 25) rfl rfl ?_
  go_frame
  refine ls_skip_g (some 26) rfl rfl ?_
  go_frame
  refine ls_skip_g (some 27) rfl rfl ?_
  go_frame
  refine ls_ex (some 28) (.bool false) rfl rfl (exec_pick _ _ _ rfl false rfl (.bool false) rfl) ?_
  go_frame
  refine wpList_nil ?_
  go_upto_region 4 with (fail)
  refine wp_region_lit ?_
  refine ls_ex (some 29) (.int .i64 (sqCode p n m k qs true)) rfl rfl (exec_move _ rfl (.int .i64 (sqCode p n m k qs true)) rfl) ?_
  go_frame
  refine ls_ex (some 30) (.bool true) rfl rfl (exec_neq _ _ _ _ rfl ((sqCode p n m k qs true)) 0 rfl rfl true Hne.out) ?_
  go_frame
  refine wpList_nil ?_
  go_upto_region 5 with (fail)
  refine wp_region_lit ?_
  refine ls_ex (some 31) (.int .i64 (sqCode p n m k qs true)) rfl rfl (exec_move _ rfl (.int .i64 (sqCode p n m k qs true)) rfl) ?_
  go_frame
  refine ls_ex (some 6) (.bool false) rfl rfl (exec_assign _ rfl (.bool false) rfl) ?_
  go_frame
  refine ls_ex (some 7) (.int .i64 (sqCode p n m k qs true)) rfl rfl (exec_assign _ rfl (.int .i64 (sqCode p n m k qs true)) rfl) ?_
  go_frame
  refine wpList_nil ?_
  go_wp2_with fail
  go_ret2
  exact ⟨by rw [Hr.out, Hc.out]; rfl, hB⟩
set_option maxHeartbeats 4000000 in
theorem specEa_2 (p n m k : Int) (A : Option Addr) (c : Nat) (qs : List (List Nat)) (i j : Int) (w : World) (hR : Rd w A qs) (hlen : qs.length ≤ 1048576) (h0 : sqCode p n m k qs true = 0) (hl : qs.length ≤ 0) :
    Calls Try.prog 14 #[.agg #[.int .i64 p, .int .i64 n, .int .i64 m, .int .i64 k, .slice A qs.length c], .int .i64 i, .int .i64 j] w (fun e w' => e = .returned (.tuple #[.bool (eaR p n m k qs i j), .int .i64 (eaCode p n m k qs i j)]) ∧ Below w.heap.size w w') := by
  have hB := Below.refl w.heap.size w
  have Hl : Hid (((qs.length : Int) == 0) = true) := Lib.hid (beq_iff_eq.2 (by omega))
  have heb : eaB i j qs = false := by unfold eaB; rw [decide_eq_false (show ¬ 0 < qs.length by omega), Bool.and_false]
  have hf := sq_facts h0
  have Hc : Hid (eaCode p n m k qs i j = 2) := Lib.hid (by unfold eaCode sqCode; rw [heb, if_pos hf.1]; simp)
  have Hr : Hid (eaR p n m k qs i j = false) := Lib.hid (by unfold eaR; rw [Hc.out]; rfl)
  have H0 := Lib.hid h0
  clear heb h0 hf
  go_enter Try.func14, Try.ntmps14
  go_upto_region 0 with (fail)
  refine wp_region_lit ?_
  refine ls_op rfl (fun K' hK' => ?_)
  have lz1 := hB.size
  refine wp_new (some 3) rfl (exec_box 30 _ rfl (#[.int .i64 p, .int .i64 n, .int .i64 m, .int .i64 k, .slice A qs.length c]) rfl) (fun Wz2 nnz3 => ?_)
  have bz4 := nnz3.below (Below.refl _ _) (Nat.le_refl _)
  replace hB := below_after hB bz4
  have hz5 : At Wz2 w.heap.size (.cells #[.int .i64 p, .int .i64 n, .int .i64 m, .int .i64 k, .slice A qs.length c] 30 (0, 0)) := nnz3.at_
  refine hK' _ _ ?_
  clear hK' K' nnz3 bz4
  go_frame
  refine ls_ex (some 6) (.bool false) rfl rfl (exec_assign _ rfl (.bool false) rfl) ?_
  go_frame
  refine ls_ex (some 7) (.int .i64 0) rfl rfl (exec_assign _ rfl (.int .i64 0) rfl) ?_
  go_frame
  refine wpList_nil ?_
  go_upto_region 1 with (fail)
  refine wp_region_lit ?_
  refine ls_ex (some 9) (.agg #[.int .i64 p, .int .i64 n, .int .i64 m, .int .i64 k, .slice A qs.length c]) rfl rfl (exec_load_all 30 _ rfl w.heap.size rfl _ _ _ hz5 Try.underlying30 rfl 5 (by kernel_rfl) rfl) ?_
  go_frame
  refine ls_op rfl (fun K' hK' => ?_)
  have lz8 := hB.size
  have lz9 := hz5.lt
  refine wp_call1 (some 10) rfl 29 _ _ rfl (fun args w => by kernel_rfl) _ rfl _ (l06Square_c p n m k A c qs _ (hR.keep hB) hlen) (fun e Wz6 h => ?_)
  obtain ⟨rfl, bz7⟩ := h
  replace hB := below_after hB bz7
  replace hz5 := hz5.after bz7
  rw [H0.out]
  clear bz7
  refine ⟨_, rfl, ?_⟩
  refine hK' _ _ ?_
  clear hK' K'
  go_frame
  refine ls_ex (some 8) (.int .i64 0) rfl rfl (exec_assign _ rfl (.int .i64 0) rfl) ?_
  go_frame
  refine wpList_nil ?_
  go_upto_region 2 with (fail)
  refine wp_region_lit ?_
  refine ls_ex (some 11) (.int .i64 0) rfl rfl (exec_move _ rfl (.int .i64 0) rfl) ?_
  go_frame
  refine ls_ex (some 12) (.bool true) rfl rfl (exec_eql _ _ _ _ rfl 0 0 rfl rfl true rfl) ?_
  go_frame
  refine ls_ex (some 13) (.bool true) rfl rfl (exec_move _ rfl (.bool true) rfl) ?_
  go_frame
  refine ls_ex_g (some 14) (.pointer (some ⟨w.heap.size, 4, none⟩)) rfl rfl (exec_fieldAddr 30 _ 4 rfl _ (by kernel_rfl)) ?_
  go_frame
  refine ls_ex_g (some 15) (.slice A qs.length c) rfl rfl (exec_load_one 28 _ rfl w.heap.size 4 rfl (.slice A qs.length c) _ Try.underlying28 rfl (hz5.at_ 4)) ?_
  go_frame
  refine ls_ex_g (some 16) (.int .i64 qs.length) rfl rfl (exec_len _ 28 68 rfl A qs.length c rfl Try.underlying28) ?_
  go_frame
  refine ls_ex_g (some 17) (.bool true) rfl rfl (exec_eql _ _ _ _ rfl qs.length 0 rfl rfl true Hl.out) ?_
  go_frame
  refine ls_ex_g (some 18) (.bool true) rfl rfl (exec_move _ rfl (.bool true) rfl) ?_
  go_frame
  refine ls_skip_g (some 19) rfl rfl ?_
  go_frame
  refine ls_skip_g (some 20) rfl rfl ?_
  go_frame
  refine ls_skip_g (some 21) rfl rfl ?_
  go_frame
  refine ls_ex_g (some 22) (.bool true) rfl rfl (exec_pick _ _ _ rfl true rfl (.bool true) rfl) ?_
  go_frame
  refine ls_ex_g (some 23) (.bool true) rfl rfl (exec_move _ rfl (.bool true) rfl) ?_
  go_frame
  refine ls_skip_g (some 24) rfl rfl ?_
  go_frame
  refine ls_skip_g (some 25) rfl rfl ?_
  go_frame
  refine ls_skip_g (some 26) rfl rfl ?_
  go_frame
  refine ls_ex_g (some 27) (.bool true) rfl rfl (exec_pick _ _ _ rfl true rfl (.bool true) rfl) ?_
  go_frame
  refine ls_ex (some 28) (.bool true) rfl rfl (exec_pick _ _ _ rfl true rfl (.bool true) rfl) ?_
  go_frame
  refine wpList_nil ?_
  go_upto_region 3 with (fail)
  refine wp_region_lit ?_
  refine ls_ex (some 8) (.int .i64 2) rfl rfl (exec_assign _ rfl (.int .i64 2) rfl) ?_
  go_frame
  refine wpList_nil ?_
  go_upto_region 4 with (fail)
  refine wp_region_lit ?_
  refine ls_ex (some 29) (.int .i64 2) rfl rfl (exec_move _ rfl (.int .i64 2) rfl) ?_
  go_frame
  refine ls_ex (some 30) (.bool true) rfl rfl (exec_neq _ _ _ _ rfl 2 0 rfl rfl true rfl) ?_
  go_frame
  refine wpList_nil ?_
  go_upto_region 5 with (fail)
  refine wp_region_lit ?_
  refine ls_ex (some 31) (.int .i64 2) rfl rfl (exec_move _ rfl (.int .i64 2) rfl) ?_
  go_frame
  refine ls_ex (some 6) (.bool false) rfl rfl (exec_assign _ rfl (.bool false) rfl) ?_
  go_frame
  refine ls_ex (some 7) (.int .i64 2) rfl rfl (exec_assign _ rfl (.int .i64 2) rfl) ?_
  go_frame
  refine wpList_nil ?_
  go_wp2_with fail
  go_ret2
  exact ⟨by rw [Hr.out, Hc.out]; rfl, hB⟩
set_option maxHeartbeats 4000000 in
theorem specEa_3 (p n m k : Int) (A : Option Addr) (c : Nat) (qs : List (List Nat)) (i j : Int) (w : World) (hR : Rd w A qs) (hlen : qs.length ≤ 1048576) (h0 : sqCode p n m k qs true = 0) (hl : 0 < qs.length) (hi : (decide (0 ≤ i) && decide (i ≤ 24)) = false) :
    Calls Try.prog 14 #[.agg #[.int .i64 p, .int .i64 n, .int .i64 m, .int .i64 k, .slice A qs.length c], .int .i64 i, .int .i64 j] w (fun e w' => e = .returned (.tuple #[.bool (eaR p n m k qs i j), .int .i64 (eaCode p n m k qs i j)]) ∧ Below w.heap.size w w') := by
  have hB := Below.refl w.heap.size w
  have Hl : Hid (((qs.length : Int) == 0) = false) := Lib.hid (beq_eq_false_iff_ne.2 (by omega))
  have Hi : Hid ((decide (0 ≤ i) && decide (i ≤ 24)) = false) := Lib.hid hi
  have heb : eaB i j qs = false := by unfold eaB; rw [hi]; rfl
  clear hi
  have hf := sq_facts h0
  have Hc : Hid (eaCode p n m k qs i j = 2) := Lib.hid (by unfold eaCode sqCode; rw [heb, if_pos hf.1]; simp)
  have Hr : Hid (eaR p n m k qs i j = false) := Lib.hid (by unfold eaR; rw [Hc.out]; rfl)
  have H0 := Lib.hid h0
  clear heb h0 hf
  go_enter Try.func14, Try.ntmps14
  go_upto_region 0 with (fail)
  refine wp_region_lit ?_
  refine ls_op rfl (fun K' hK' => ?_)
  have lz1 := hB.size
  refine wp_new (some 3) rfl (exec_box 30 _ rfl (#[.int .i64 p, .int .i64 n, .int .i64 m, .int .i64 k, .slice A qs.length c]) rfl) (fun Wz2 nnz3 => ?_)
  have bz4 := nnz3.below (Below.refl _ _) (Nat.le_refl _)
  replace hB := below_after hB bz4
  have hz5 : At Wz2 w.heap.size (.cells #[.int .i64 p, .int .i64 n, .int .i64 m, .int .i64 k, .slice A qs.length c] 30 (0, 0)) := nnz3.at_
  refine hK' _ _ ?_
  clear hK' K' nnz3 bz4
  go_frame
  refine ls_ex (some 6) (.bool false) rfl rfl (exec_assign _ rfl (.bool false) rfl) ?_
  go_frame
  refine ls_ex (some 7) (.int .i64 0) rfl rfl (exec_assign _ rfl (.int .i64 0) rfl) ?_
  go_frame
  refine wpList_nil ?_
  go_upto_region 1 with (fail)
  refine wp_region_lit ?_
  refine ls_ex (some 9) (.agg #[.int .i64 p, .int .i64 n, .int .i64 m, .int .i64 k, .slice A qs.length c]) rfl rfl (exec_load_all 30 _ rfl w.heap.size rfl _ _ _ hz5 Try.underlying30 rfl 5 (by kernel_rfl) rfl) ?_
  go_frame
  refine ls_op rfl (fun K' hK' => ?_)
  have lz8 := hB.size
  have lz9 := hz5.lt
  refine wp_call1 (some 10) rfl 29 _ _ rfl (fun args w => by kernel_rfl) _ rfl _ (l06Square_c p n m k A c qs _ (hR.keep hB) hlen) (fun e Wz6 h => ?_)
  obtain ⟨rfl, bz7⟩ := h
  replace hB := below_after hB bz7
  replace hz5 := hz5.after bz7
  rw [H0.out]
  clear bz7
  refine ⟨_, rfl, ?_⟩
  refine hK' _ _ ?_
  clear hK' K'
  go_frame
  refine ls_ex (some 8) (.int .i64 0) rfl rfl (exec_assign _ rfl (.int .i64 0) rfl) ?_
  go_frame
  refine wpList_nil ?_
  go_upto_region 2 with (fail)
  refine wp_region_lit ?_
  refine ls_ex (some 11) (.int .i64 0) rfl rfl (exec_move _ rfl (.int .i64 0) rfl) ?_
  go_frame
  refine ls_ex (some 12) (.bool true) rfl rfl (exec_eql _ _ _ _ rfl 0 0 rfl rfl true rfl) ?_
  go_frame
  refine ls_ex (some 13) (.bool true) rfl rfl (exec_move _ rfl (.bool true) rfl) ?_
  go_frame
  refine ls_ex_g (some 14) (.pointer (some ⟨w.heap.size, 4, none⟩)) rfl rfl (exec_fieldAddr 30 _ 4 rfl _ (by kernel_rfl)) ?_
  go_frame
  refine ls_ex_g (some 15) (.slice A qs.length c) rfl rfl (exec_load_one 28 _ rfl w.heap.size 4 rfl (.slice A qs.length c) _ Try.underlying28 rfl (hz5.at_ 4)) ?_
  go_frame
  refine ls_ex_g (some 16) (.int .i64 qs.length) rfl rfl (exec_len _ 28 68 rfl A qs.length c rfl Try.underlying28) ?_
  go_frame
  refine ls_ex_g (some 17) (.bool false) rfl rfl (exec_eql _ _ _ _ rfl qs.length 0 rfl rfl false Hl.out) ?_
  go_frame
  refine ls_ex_g (some 18) (.bool false) rfl rfl (exec_move _ rfl (.bool false) rfl) ?_
  go_frame
  refine ls_ex_g (some 19) (.int .i64 i) rfl rfl (exec_move _ rfl (.int .i64 i) rfl) ?_
  go_frame
  refine ls_op_g rfl (fun K' hK' => ?_)
  have lz12 := hB.size
  have lz13 := hz5.lt
  refine wp_call3 (some 20) rfl 30 _ _ _ _ rfl (fun args w => by kernel_rfl) _ _ _ rfl rfl rfl _ (l01In_c i 0 24 _) (fun e Wz10 h => ?_)
  obtain ⟨rfl, rfl⟩ := h
  rw [Hi.out]
  refine ⟨_, rfl, ?_⟩
  refine hK' _ _ ?_
  clear hK' K'
  go_frame
  refine ls_ex_g (some 21) (.bool true) rfl rfl (exec_not _ _ rfl false rfl) ?_
  go_frame
  refine ls_ex_g (some 22) (.bool true) rfl rfl (exec_pick _ _ _ rfl false rfl (.bool true) rfl) ?_
  go_frame
  refine ls_ex_g (some 23) (.bool true) rfl rfl (exec_move _ rfl (.bool true) rfl) ?_
  go_frame
  refine ls_skip_g (some 24) rfl rfl ?_
  go_frame
  refine ls_skip_g (some 25) rfl rfl ?_
  go_frame
  refine ls_skip_g (some 26) rfl rfl ?_
  go_frame
  refine ls_ex_g (some 27) (.bool true) rfl rfl (exec_pick _ _ _ rfl true rfl (.bool true) rfl) ?_
  go_frame
  refine ls_ex (some 28) (.bool true) rfl rfl (exec_pick _ _ _ rfl true rfl (.bool true) rfl) ?_
  go_frame
  refine wpList_nil ?_
  go_upto_region 3 with (fail)
  refine wp_region_lit ?_
  refine ls_ex (some 8) (.int .i64 2) rfl rfl (exec_assign _ rfl (.int .i64 2) rfl) ?_
  go_frame
  refine wpList_nil ?_
  go_upto_region 4 with (fail)
  refine wp_region_lit ?_
  refine ls_ex (some 29) (.int .i64 2) rfl rfl (exec_move _ rfl (.int .i64 2) rfl) ?_
  go_frame
  refine ls_ex (some 30) (.bool true) rfl rfl (exec_neq _ _ _ _ rfl 2 0 rfl rfl true rfl) ?_
  go_frame
  refine wpList_nil ?_
  go_upto_region 5 with (fail)
  refine wp_region_lit ?_
  refine ls_ex (some 31) (.int .i64 2) rfl rfl (exec_move _ rfl (.int .i64 2) rfl) ?_
  go_frame
  refine ls_ex (some 6) (.bool false) rfl rfl (exec_assign _ rfl (.bool false) rfl) ?_
  go_frame
  refine ls_ex (some 7) (.int .i64 2) rfl rfl (exec_assign _ rfl (.int .i64 2) rfl) ?_
  go_frame
  refine wpList_nil ?_
  go_wp2_with fail
  go_ret2
  exact ⟨by rw [Hr.out, Hc.out]; rfl, hB⟩
set_option maxHeartbeats 4000000 in
theorem specEa_4 (p n m k : Int) (A : Option Addr) (c : Nat) (qs : List (List Nat)) (i j : Int) (w : World) (hR : Rd w A qs) (hlen : qs.length ≤ 1048576) (h0 : sqCode p n m k qs true = 0) (hl : 0 < qs.length) (hi : (decide (0 ≤ i) && decide (i ≤ 24)) = true) (hj : (decide (1 ≤ j) && decide (j ≤ 8)) = false) :
    Calls Try.prog 14 #[.agg #[.int .i64 p, .int .i64 n, .int .i64 m, .int .i64 k, .slice A qs.length c], .int .i64 i, .int .i64 j] w (fun e w' => e = .returned (.tuple #[.bool (eaR p n m k qs i j), .int .i64 (eaCode p n m k qs i j)]) ∧ Below w.heap.size w w') := by
  have hB := Below.refl w.heap.size w
  have Hl : Hid (((qs.length : Int) == 0) = false) := Lib.hid (beq_eq_false_iff_ne.2 (by omega))
  have Hi : Hid ((decide (0 ≤ i) && decide (i ≤ 24)) = true) := Lib.hid hi
  have Hj : Hid ((decide (1 ≤ j) && decide (j ≤ 8)) = false) := Lib.hid hj
  have heb : eaB i j qs = false := by unfold eaB; rw [hi, hj]; rfl
  clear hi hj
  have hf := sq_facts h0
  have Hc : Hid (eaCode p n m k qs i j = 2) := Lib.hid (by unfold eaCode sqCode; rw [heb, if_pos hf.1]; simp)
  have Hr : Hid (eaR p n m k qs i j = false) := Lib.hid (by unfold eaR; rw [Hc.out]; rfl)
  have H0 := Lib.hid h0
  clear heb h0 hf
  go_enter Try.func14, Try.ntmps14
  go_upto_region 0 with (fail)
  refine wp_region_lit ?_
  refine ls_op rfl (fun K' hK' => ?_)
  have lz1 := hB.size
  refine wp_new (some 3) rfl (exec_box 30 _ rfl (#[.int .i64 p, .int .i64 n, .int .i64 m, .int .i64 k, .slice A qs.length c]) rfl) (fun Wz2 nnz3 => ?_)
  have bz4 := nnz3.below (Below.refl _ _) (Nat.le_refl _)
  replace hB := below_after hB bz4
  have hz5 : At Wz2 w.heap.size (.cells #[.int .i64 p, .int .i64 n, .int .i64 m, .int .i64 k, .slice A qs.length c] 30 (0, 0)) := nnz3.at_
  refine hK' _ _ ?_
  clear hK' K' nnz3 bz4
  go_frame
  refine ls_ex (some 6) (.bool false) rfl rfl (exec_assign _ rfl (.bool false) rfl) ?_
  go_frame
  refine ls_ex (some 7) (.int .i64 0) rfl rfl (exec_assign _ rfl (.int .i64 0) rfl) ?_
  go_frame
  refine wpList_nil ?_
  go_upto_region 1 with (fail)
  refine wp_region_lit ?_
  refine ls_ex (some 9) (.agg #[.int .i64 p, .int .i64 n, .int .i64 m, .int .i64 k, .slice A qs.length c]) rfl rfl (exec_load_all 30 _ rfl w.heap.size rfl _ _ _ hz5 Try.underlying30 rfl 5 (by kernel_rfl) rfl) ?_
  go_frame
  refine ls_op rfl (fun K' hK' => ?_)
  have lz8 := hB.size
  have lz9 := hz5.lt
  refine wp_call1 (some 10) rfl 29 _ _ rfl (fun args w => by kernel_rfl) _ rfl _ (l06Square_c p n m k A c qs _ (hR.keep hB) hlen) (fun e Wz6 h => ?_)
  obtain ⟨rfl, bz7⟩ := h
  replace hB := below_after hB bz7
  replace hz5 := hz5.after bz7
  rw [H0.out]
  clear bz7
  refine ⟨_, rfl, ?_⟩
  refine hK' _ _ ?_
  clear hK' K'
  go_frame
  refine ls_ex (some 8) (.int .i64 0) rfl rfl (exec_assign _ rfl (.int .i64 0) rfl) ?_
  go_frame
  refine wpList_nil ?_
  go_upto_region 2 with (fail)
  refine wp_region_lit ?_
  refine ls_ex (some 11) (.int .i64 0) rfl rfl (exec_move _ rfl (.int .i64 0) rfl) ?_
  go_frame
  refine ls_ex (some 12) (.bool true) rfl rfl (exec_eql _ _ _ _ rfl 0 0 rfl rfl true rfl) ?_
  go_frame
  refine ls_ex (some 13) (.bool true) rfl rfl (exec_move _ rfl (.bool true) rfl) ?_
  go_frame
  refine ls_ex_g (some 14) (.pointer (some ⟨w.heap.size, 4, none⟩)) rfl rfl (exec_fieldAddr 30 _ 4 rfl _ (by kernel_rfl)) ?_
  go_frame
  refine ls_ex_g (some 15) (.slice A qs.length c) rfl rfl (exec_load_one 28 _ rfl w.heap.size 4 rfl (.slice A qs.length c) _ Try.underlying28 rfl (hz5.at_ 4)) ?_
  go_frame
  refine ls_ex_g (some 16) (.int .i64 qs.length) rfl rfl (exec_len _ 28 68 rfl A qs.length c rfl Try.underlying28) ?_
  go_frame
  refine ls_ex_g (some 17) (.bool false) rfl rfl (exec_eql _ _ _ _ rfl qs.length 0 rfl rfl false Hl.out) ?_
  go_frame
  refine ls_ex_g (some 18) (.bool false) rfl rfl (exec_move _ rfl (.bool false) rfl) ?_
  go_frame
  refine ls_ex_g (some 19) (.int .i64 i) rfl rfl (exec_move _ rfl (.int .i64 i) rfl) ?_
  go_frame
  refine ls_op_g rfl (fun K' hK' => ?_)
  have lz12 := hB.size
  have lz13 := hz5.lt
  refine wp_call3 (some 20) rfl 30 _ _ _ _ rfl (fun args w => by kernel_rfl) _ _ _ rfl rfl rfl _ (l01In_c i 0 24 _) (fun e Wz10 h => ?_)
  obtain ⟨rfl, rfl⟩ := h
  rw [Hi.out]
  refine ⟨_, rfl, ?_⟩
  refine hK' _ _ ?_
  clear hK' K'
  go_frame
  refine ls_ex_g (some 21) (.bool false) rfl rfl (exec_not _ _ rfl true rfl) ?_
  go_frame
  refine ls_ex_g (some 22) (.bool false) rfl rfl (exec_pick _ _ _ rfl false rfl (.bool false) rfl) ?_
  go_frame
  refine ls_ex_g (some 23) (.bool false) rfl rfl (exec_move _ rfl (.bool false) rfl) ?_
  go_frame
  refine ls_ex_g (some 24) (.int .i64 j) rfl rfl (exec_move _ rfl (.int .i64 j) rfl) ?_
  go_frame
  refine ls_op_g rfl (fun K' hK' => ?_)
  have lz16 := hB.size
  have lz17 := hz5.lt
  refine wp_call3 (some 25) rfl 30 _ _ _ _ rfl (fun args w => by kernel_rfl) _ _ _ rfl rfl rfl _ (l01In_c j 1 8 _) (fun e Wz14 h => ?_)
  obtain ⟨rfl, rfl⟩ := h
  rw [Hj.out]
  refine ⟨_, rfl, ?_⟩
  refine hK' _ _ ?_
  clear hK' K'
  go_frame
  refine ls_ex_g (some 26) (.bool true) rfl rfl (exec_not _ _ rfl false rfl) ?_
  go_frame
  refine ls_ex_g (some 27) (.bool true) rfl rfl (exec_pick _ _ _ rfl false rfl (.bool true) rfl) ?_
  go_frame
  refine ls_ex (some 28) (.bool true) rfl rfl (exec_pick _ _ _ rfl true rfl (.bool true) rfl) ?_
  go_frame
  refine wpList_nil ?_
  go_upto_region 3 with (fail)
  refine wp_region_lit ?_
  refine ls_ex (some 8) (.int .i64 2) rfl rfl (exec_assign _ rfl (.int .i64 2) rfl) ?_
  go_frame
  refine wpList_nil ?_
  go_upto_region 4 with (fail)
  refine wp_region_lit ?_
  refine ls_ex (some 29) (.int .i64 2) rfl rfl (exec_move _ rfl (.int .i64 2) rfl) ?_
  go_frame
  refine ls_ex (some 30) (.bool true) rfl rfl (exec_neq _ _ _ _ rfl 2 0 rfl rfl true rfl) ?_
  go_frame
  refine wpList_nil ?_
  go_upto_region 5 with (fail)
  refine wp_region_lit ?_
  refine ls_ex (some 31) (.int .i64 2) rfl rfl (exec_move _ rfl (.int .i64 2) rfl) ?_
  go_frame
  refine ls_ex (some 6) (.bool false) rfl rfl (exec_assign _ rfl (.bool false) rfl) ?_
  go_frame
  refine ls_ex (some 7) (.int .i64 2) rfl rfl (exec_assign _ rfl (.int .i64 2) rfl) ?_
  go_frame
  refine wpList_nil ?_
  go_wp2_with fail
  go_ret2
  exact ⟨by rw [Hr.out, Hc.out]; rfl, hB⟩
set_option maxHeartbeats 4000000 in
theorem specEa_5 (p n m k : Int) (A : Option Addr) (c : Nat) (qs : List (List Nat)) (I J : Nat) (w : World) (hR : Rd w A qs) (hlen : qs.length ≤ 1048576) (hi : (decide (0 ≤ (I : Int)) && decide ((I : Int) ≤ 24)) = true) (hj : (decide (1 ≤ (J : Int)) && decide ((J : Int) ≤ 8)) = true) (hl : 0 < qs.length) (h0 : sqCode p n m k qs true = 0) :
    Calls Try.prog 14 #[.agg #[.int .i64 p, .int .i64 n, .int .i64 m, .int .i64 k, .slice A qs.length c], .int .i64 I, .int .i64 J] w (fun e w' => e = .returned (.tuple #[.bool (eaR p n m k qs I J), .int .i64 (eaCode p n m k qs I J)]) ∧ Below w.heap.size w w') := by
  have hB := Below.refl w.heap.size w
  have Hi : Hid ((decide (0 ≤ (I : Int)) && decide ((I : Int) ≤ 24)) = true) := Lib.hid hi
  have Hj : Hid ((decide (1 ≤ (J : Int)) && decide ((J : Int) ≤ 8)) = true) := Lib.hid hj
  have hf := sq_facts h0
  have h30 := schemeB_len hf.1
  have hi2 : I ≤ 24 := by simp only [Bool.and_eq_true, decide_eq_true_eq] at hi; omega
  have hj2 : J ≤ 8 := by simp only [Bool.and_eq_true, decide_eq_true_eq] at hj; omega
  have HP1 := Lib.hid (fun a (h : a ≤ J) => powI_in (show (1 : Int) ≤ qs.length by omega) (show (qs.length : Int) ≤ 30 by omega) 8 (by decide) (show a ≤ 8 by omega))
  have HP2 := Lib.hid (fun a (h : a ≤ I) => powI_in (show (1 : Int) ≤ n by omega) hf.2.2.1 24 (by decide) (show a ≤ 24 by omega))
  have heb : eaB I J qs = true := by unfold eaB; rw [hi, hj]; simp only [Bool.true_and, decide_eq_true_eq]; omega
  have Hc : Hid (eaCode p n m k qs I J = 0) := Lib.hid (by unfold eaCode; rw [heb, h0])
  have Hr : Hid (eaR p n m k qs I J = decide (powI qs.length J ≤ powI n I)) := Lib.hid (by unfold eaR; rw [Hc.out, if_pos rfl]; rfl)
  have Hl : Hid (((qs.length : Int) == 0) = false) := Lib.hid (beq_eq_false_iff_ne.2 (by omega))
  have H0 := Lib.hid h0
  clear heb h0 hi hj hf
  go_enter Try.func14, Try.ntmps14
  go_upto_region 0 with (fail)
  refine wp_region_lit ?_
  refine ls_op rfl (fun K' hK' => ?_)
  have lz1 := hB.size
  refine wp_new (some 3) rfl (exec_box 30 _ rfl (#[.int .i64 p, .int .i64 n, .int .i64 m, .int .i64 k, .slice A qs.length c]) rfl) (fun Wz2 nnz3 => ?_)
  have bz4 := nnz3.below (Below.refl _ _) (Nat.le_refl _)
  replace hB := below_after hB bz4
  have hz5 : At Wz2 w.heap.size (.cells #[.int .i64 p, .int .i64 n, .int .i64 m, .int .i64 k, .slice A qs.length c] 30 (0, 0)) := nnz3.at_
  refine hK' _ _ ?_
  clear hK' K' nnz3 bz4
  go_frame
  refine ls_ex (some 6) (.bool false) rfl rfl (exec_assign _ rfl (.bool false) rfl) ?_
  go_frame
  refine ls_ex (some 7) (.int .i64 0) rfl rfl (exec_assign _ rfl (.int .i64 0) rfl) ?_
  go_frame
  refine wpList_nil ?_
  go_upto_region 1 with (fail)
  refine wp_region_lit ?_
  refine ls_ex (some 9) (.agg #[.int .i64 p, .int .i64 n, .int .i64 m, .int .i64 k, .slice A qs.length c]) rfl rfl (exec_load_all 30 _ rfl w.heap.size rfl _ _ _ hz5 Try.underlying30 rfl 5 (by kernel_rfl) rfl) ?_
  go_frame
  refine ls_op rfl (fun K' hK' => ?_)
  have lz8 := hB.size
  have lz9 := hz5.lt
  refine wp_call1 (some 10) rfl 29 _ _ rfl (fun args w => by kernel_rfl) _ rfl _ (l06Square_c p n m k A c qs _ (hR.keep hB) hlen) (fun e Wz6 h => ?_)
  obtain ⟨rfl, bz7⟩ := h
  replace hB := below_after hB bz7
  replace hz5 := hz5.after bz7
  rw [H0.out]
  clear bz7
  refine ⟨_, rfl, ?_⟩
  refine hK' _ _ ?_
  clear hK' K'
  go_frame
  refine ls_ex (some 8) (.int .i64 0) rfl rfl (exec_assign _ rfl (.int .i64 0) rfl) ?_
  go_frame
  refine wpList_nil ?_
  go_upto_region 2 with (fail)
  refine wp_region_lit ?_
  refine ls_ex (some 11) (.int .i64 0) rfl rfl (exec_move _ rfl (.int .i64 0) rfl) ?_
  go_frame
  refine ls_ex (some 12) (.bool true) rfl rfl (exec_eql _ _ _ _ rfl 0 0 rfl rfl true rfl) ?_
  go_frame
  refine ls_ex (some 13) (.bool true) rfl rfl (exec_move _ rfl (.bool true) rfl) ?_
  go_frame
  refine ls_ex_g (some 14) (.pointer (some ⟨w.heap.size, 4, none⟩)) rfl rfl (exec_fieldAddr 30 _ 4 rfl _ (by kernel_rfl)) ?_
  go_frame
  refine ls_ex_g (some 15) (.slice A qs.length c) rfl rfl (exec_load_one 28 _ rfl w.heap.size 4 rfl (.slice A qs.length c) _ Try.underlying28 rfl (hz5.at_ 4)) ?_
  go_frame
  refine ls_ex_g (some 16) (.int .i64 qs.length) rfl rfl (exec_len _ 28 68 rfl A qs.length c rfl Try.underlying28) ?_
  go_frame
  refine ls_ex_g (some 17) (.bool false) rfl rfl (exec_eql _ _ _ _ rfl qs.length 0 rfl rfl false Hl.out) ?_
  go_frame
  refine ls_ex_g (some 18) (.bool false) rfl rfl (exec_move _ rfl (.bool false) rfl) ?_
  go_frame
  refine ls_ex_g (some 19) (.int .i64 I) rfl rfl (exec_move _ rfl (.int .i64 I) rfl) ?_
  go_frame
  refine ls_op_g rfl (fun K' hK' => ?_)
  have lz12 := hB.size
  have lz13 := hz5.lt
  refine wp_call3 (some 20) rfl 30 _ _ _ _ rfl (fun args w => by kernel_rfl) _ _ _ rfl rfl rfl _ (l01In_c I 0 24 _) (fun e Wz10 h => ?_)
  obtain ⟨rfl, rfl⟩ := h
  rw [Hi.out]
  refine ⟨_, rfl, ?_⟩
  refine hK' _ _ ?_
  clear hK' K'
  go_frame
  refine ls_ex_g (some 21) (.bool false) rfl rfl (exec_not _ _ rfl true rfl) ?_
  go_frame
  refine ls_ex_g (some 22) (.bool false) rfl rfl (exec_pick _ _ _ rfl false rfl (.bool false) rfl) ?_
  go_frame
  refine ls_ex_g (some 23) (.bool false) rfl rfl (exec_move _ rfl (.bool false) rfl) ?_
  go_frame
  refine ls_ex_g (some 24) (.int .i64 J) rfl rfl (exec_move _ rfl (.int .i64 J) rfl) ?_
  go_frame
  refine ls_op_g rfl (fun K' hK' => ?_)
  have lz16 := hB.size
  have lz17 := hz5.lt
  refine wp_call3 (some 25) rfl 30 _ _ _ _ rfl (fun args w => by kernel_rfl) _ _ _ rfl rfl rfl _ (l01In_c J 1 8 _) (fun e Wz14 h => ?_)
  obtain ⟨rfl, rfl⟩ := h
  rw [Hj.out]
  refine ⟨_, rfl, ?_⟩
  refine hK' _ _ ?_
  clear hK' K'
  go_frame
  refine ls_ex_g (some 26) (.bool false) rfl rfl (exec_not _ _ rfl true rfl) ?_
  go_frame
  refine ls_ex_g (some 27) (.bool false) rfl rfl (exec_pick _ _ _ rfl false rfl (.bool false) rfl) ?_
  go_frame
  refine ls_ex (some 28) (.bool false) rfl rfl (exec_pick _ _ _ rfl true rfl (.bool false) rfl) ?_
  go_frame
  refine wpList_nil ?_
  go_upto_region 4 with (fail)
  refine wp_region_lit ?_
  refine ls_ex (some 29) (.int .i64 0) rfl rfl (exec_move _ rfl (.int .i64 0) rfl) ?_
  go_frame
  refine ls_ex (some 30) (.bool false) rfl rfl (exec_neq _ _ _ _ rfl 0 0 rfl rfl false rfl) ?_
  go_frame
  refine wpList_nil ?_
  go_upto_region 6 with (fail)
  refine wp_region_y (zs := []) (S := fun w' => Below w.heap.size w w' ∧ At w' w.heap.size (.cells #[.int .i64 p, .int .i64 n, .int .i64 m, .int .i64 k, .slice A qs.length c] 30 (0, 0))) (S2 := fun w' => True) (by kernel_rfl) ?_
  change wpAnyY _ _ _ _ _ _ _ _ _ _ (World.drew _)
  generalize hwdz18 : World.drew _ = wdz18
  replace hB : Below w.heap.size w wdz18 := by rw [← hwdz18]; exact hB.drew
  replace hz5 : At wdz18 w.heap.size (.cells #[.int .i64 p, .int .i64 n, .int .i64 m, .int .i64 k, .slice A qs.length c] 30 (0, 0)) := by rw [← hwdz18]; exact hz5
  clear hwdz18
  refine y_yield 0 (some 32) (.pointer (some ⟨w.heap.size, 4, none⟩)) rfl (by kernel_rfl) (by kernel_rfl) (by kernel_rfl) (fun _ _ _ h => h) rfl rfl ⟨hB, hz5⟩ (fun w' h' => exec_fieldAddr 30 _ 4 rfl _ (by kernel_rfl)) ?_
  go_frame
  refine y_yield 1 (some 33) (.slice A qs.length c) rfl (by kernel_rfl) (by kernel_rfl) (by kernel_rfl) (fun _ _ _ h => h) rfl rfl ⟨hB, hz5⟩ (fun w' h' => exec_load_one 28 _ rfl w.heap.size 4 rfl (.slice A qs.length c) _ Try.underlying28 rfl (h'.2.at_ 4)) ?_
  go_frame
  refine y_yield 2 (some 34) (.int .i64 qs.length) rfl (by kernel_rfl) (by kernel_rfl) (by kernel_rfl) (fun _ _ _ h => h) rfl rfl ⟨hB, hz5⟩ (fun w' h' => exec_len _ 28 68 rfl A qs.length c rfl Try.underlying28) ?_
  go_frame
  refine y_yield 3 (some 35) (.int .i64 J) rfl (by kernel_rfl) (by kernel_rfl) (by kernel_rfl) (fun _ _ _ h => h) rfl rfl ⟨hB, hz5⟩ (fun w' h' => exec_move _ rfl (.int .i64 J) rfl) ?_
  go_frame
  refine y_yield 5 (some 37) (.pointer (some ⟨w.heap.size, 1, none⟩)) rfl (by kernel_rfl) (by kernel_rfl) (by kernel_rfl) (fun _ _ _ h => h) rfl rfl ⟨hB, hz5⟩ (fun w' h' => exec_fieldAddr 30 _ 1 rfl _ (by kernel_rfl)) ?_
  go_frame
  refine y_yield 6 (some 38) (.int .i64 n) rfl (by kernel_rfl) (by kernel_rfl) (by kernel_rfl) (fun _ _ _ h => h) rfl rfl ⟨hB, hz5⟩ (fun w' h' => exec_load_one 2 _ rfl w.heap.size 1 rfl (.int .i64 n) _ Try.underlying2 rfl (h'.2.at_ 1)) ?_
  go_frame
  refine y_yield 7 (some 39) (.int .i64 I) rfl (by kernel_rfl) (by kernel_rfl) (by kernel_rfl) (fun _ _ _ h => h) rfl rfl ⟨hB, hz5⟩ (fun w' h' => exec_move _ rfl (.int .i64 I) rfl) ?_
  go_frame
  refine y_oper 4 (by kernel_rfl) rfl rfl (fun K' hK' => ?_)
  have lz21 := hB.size
  have lz22 := hz5.lt
  refine wp_call2 (some 36) rfl 33 _ _ _ rfl (fun args w => by kernel_rfl) _ _ rfl rfl _ (l06Power_c qs.length J (by omega) HP1.out _) (fun e Wz19 h => ?_)
  obtain ⟨rfl, rfl⟩ := h
  refine ⟨_, rfl, ?_⟩
  refine hK' _ _ ⟨hB, hz5⟩ (fun _ => trivial) ?_
  clear hK' K'
  go_frame
  refine y_oper 8 (by kernel_rfl) rfl rfl (fun K' hK' => ?_)
  have lz25 := hB.size
  have lz26 := hz5.lt
  refine wp_call2 (some 40) rfl 33 _ _ _ rfl (fun args w => by kernel_rfl) _ _ rfl rfl _ (l06Power_c n I (by omega) HP2.out _) (fun e Wz23 h => ?_)
  obtain ⟨rfl, rfl⟩ := h
  refine ⟨_, rfl, ?_⟩
  refine hK' _ _ ⟨hB, hz5⟩ (fun _ => trivial) ?_
  clear hK' K'
  go_frame
  refine y_yield 9 (some 41) (.bool (decide (powI qs.length J ≤ powI n I))) rfl (by kernel_rfl) (by kernel_rfl) (by kernel_rfl) (fun _ _ _ h => h) rfl rfl ⟨hB, hz5⟩ (fun w' h' => exec_leq _ _ _ _ rfl (powI qs.length J) (powI n I) rfl rfl _ rfl) ?_
  go_frame
  refine y_oper 10 (by kernel_rfl) rfl rfl (fun K' hK' => ?_)
  refine wp_exec (some 6) rfl (.bool (decide (powI qs.length J ≤ powI n I))) (exec_assign _ rfl (.bool (decide (powI qs.length J ≤ powI n I))) rfl) ?_
  refine hK' _ _ ⟨hB, hz5⟩ (fun _ => trivial) ?_
  clear hK' K'
  go_frame
  refine y_oper 11 (by kernel_rfl) rfl rfl (fun K' hK' => ?_)
  refine wp_exec (some 7) rfl (.int .i64 0) (exec_assign _ rfl (.int .i64 0) rfl) ?_
  refine hK' _ _ ⟨hB, hz5⟩ (fun _ => trivial) ?_
  clear hK' K'
  go_frame
  refine y_done (by kernel_rfl) ?_ _
  go_wp2_with fail
  go_ret2
  exact ⟨by rw [Hr.out, Hc.out]; rfl, hB⟩
theorem specIsExponentAtMost_c (p n m k : Int) (A : Option Addr) (c : Nat) (qs : List (List Nat)) (i j : Int) (w : World) (hR : Rd w A qs) (hlen : qs.length ≤ 1048576) : Calls Try.prog 14 #[.agg #[.int .i64 p, .int .i64 n, .int .i64 m, .int .i64 k, .slice A qs.length c], .int .i64 i, .int .i64 j] w (fun e w' => e = .returned (.tuple #[.bool (eaR p n m k qs i j), .int .i64 (eaCode p n m k qs i j)]) ∧ Below w.heap.size w w') := by
  by_cases h0 : sqCode p n m k qs true = 0
  · by_cases hl : 0 < qs.length
    · cases hi : (decide (0 ≤ i) && decide (i ≤ 24)) with
      | false => exact specEa_3 p n m k A c qs i j w hR hlen h0 hl hi
      | true =>
        cases hj : (decide (1 ≤ j) && decide (j ≤ 8)) with
        | false => exact specEa_4 p n m k A c qs i j w hR hlen h0 hl hi hj
        | true =>
          obtain ⟨I, rfl⟩ := Int.eq_ofNat_of_zero_le (show 0 ≤ i by simp only [Bool.and_eq_true, decide_eq_true_eq] at hi; omega)
          obtain ⟨J, rfl⟩ := Int.eq_ofNat_of_zero_le (show 0 ≤ j by simp only [Bool.and_eq_true, decide_eq_true_eq] at hj; omega)
          exact specEa_5 p n m k A c qs I J w hR hlen hi hj hl h0
    · exact specEa_2 p n m k A c qs i j w hR hlen h0 (by omega)
  · exact specEa_1 p n m k A c qs i j w hR hlen h0
set_option maxHeartbeats 4000000 in
theorem implGs_1 (p n m k : Int) (A : Option Addr) (c : Nat) (qs : List (List Nat)) (s : Int) (w : World) (hR : Rd w A qs) (hlen : qs.length ≤ 1048576) (hne : sqCode p n m k qs (decide (1 ≤ s) && decide (s ≤ 1000000)) ≠ 0) :
    Calls Try.prog 13 #[.agg #[.int .i64 p, .int .i64 n, .int .i64 m, .int .i64 k, .slice A qs.length c], .int .i64 s] w (fun e w' => e = .returned (.tuple #[.int .i64 (gsR p n m k qs s), .int .i64 (gsCode p n m k qs s)]) ∧ Below w.heap.size w w') := by
  have hB := Below.refl w.heap.size w
  have Hc : Hid (gsCode p n m k qs s = sqCode p n m k qs (decide (1 ≤ s) && decide (s ≤ 1000000))) := Lib.hid (by unfold gsCode; rw [if_neg hne])
  have Hr : Hid (gsR p n m k qs s = 0) := Lib.hid (by unfold gsR; rw [if_neg hne])
  have Hne : Hid ((sqCode p n m k qs (decide (1 ≤ s) && decide (s ≤ 1000000)) != 0) = true) := Lib.hid (by simpa using hne)
  clear hne
  go_enter Try.func13, Try.ntmps13
  go_upto_region 0 with (fail)
  refine wp_region_lit ?_
  refine ls_op rfl (fun K' hK' => ?_)
  have lz1 := hB.size
  refine wp_new (some 2) rfl (exec_box 30 _ rfl (#[.int .i64 p, .int .i64 n, .int .i64 m, .int .i64 k, .slice A qs.length c]) rfl) (fun Wz2 nnz3 => ?_)
  have bz4 := nnz3.below (Below.refl _ _) (Nat.le_refl _)
  replace hB := below_after hB bz4
  have hz5 : At Wz2 w.heap.size (.cells #[.int .i64 p, .int .i64 n, .int .i64 m, .int .i64 k, .slice A qs.length c] 30 (0, 0)) := nnz3.at_
  refine hK' _ _ ?_
  clear hK' K' nnz3 bz4
  go_frame
  refine ls_ex (some 4) (.int .i64 0) rfl rfl (exec_assign _ rfl (.int .i64 0) rfl) ?_
  go_frame
  refine ls_ex (some 5) (.int .i64 0) rfl rfl (exec_assign _ rfl (.int .i64 0) rfl) ?_
  go_frame
  refine wpList_nil ?_
  go_upto_region 1 with (fail)
  refine wp_region_y (zs := []) (S := fun w' => Below w.heap.size w w' ∧ At w' w.heap.size (.cells #[.int .i64 p, .int .i64 n, .int .i64 m, .int .i64 k, .slice A qs.length c] 30 (0, 0))) (S2 := fun w' => True) (by kernel_rfl) ?_
  change wpAnyY _ _ _ _ _ _ _ _ _ _ (World.drew _)
  generalize hwdz6 : World.drew _ = wdz6
  replace hB : Below w.heap.size w wdz6 := by rw [← hwdz6]; exact hB.drew
  replace hz5 : At wdz6 w.heap.size (.cells #[.int .i64 p, .int .i64 n, .int .i64 m, .int .i64 k, .slice A qs.length c] 30 (0, 0)) := by rw [← hwdz6]; exact hz5
  clear hwdz6
  refine y_yield 0 (some 9) (.agg #[.int .i64 p, .int .i64 n, .int .i64 m, .int .i64 k, .slice A qs.length c]) rfl (by kernel_rfl) (by kernel_rfl) (by kernel_rfl) (fun _ _ _ h => h) rfl rfl ⟨hB, hz5⟩ (fun w' h' => exec_load_all 30 _ rfl w.heap.size rfl _ _ _ h'.2 Try.underlying30 rfl 5 (by kernel_rfl) rfl) ?_
  go_frame
  refine y_yield 1 (some 10) (.int .i64 s) rfl (by kernel_rfl) (by kernel_rfl) (by kernel_rfl) (fun _ _ _ h => h) rfl rfl ⟨hB, hz5⟩ (fun w' h' => exec_move _ rfl (.int .i64 s) rfl) ?_
  go_frame
  refine y_oper 2 (by kernel_rfl) rfl rfl (fun K' hK' => ?_)
  have lz9 := hB.size
  have lz10 := hz5.lt
  refine wp_call3 (some 11) rfl 31 _ _ _ _ rfl (fun args w => by kernel_rfl) _ _ _ rfl rfl rfl _ (isBetween_c 1 s 1000000 _) (fun e Wz7 h => ?_)
  obtain ⟨rfl, rfl⟩ := h
  refine ⟨_, rfl, ?_⟩
  refine hK' _ _ ⟨hB, hz5⟩ (fun _ => trivial) ?_
  clear hK' K'
  go_frame
  refine y_oper 3 (by kernel_rfl) rfl rfl (fun K' hK' => ?_)
  have lz13 := hB.size
  have lz14 := hz5.lt
  refine wp_call2 (some 12) rfl 22 _ _ _ rfl (fun args w => by kernel_rfl) _ _ rfl rfl _ (checkRepeated_c p n m k A c qs (decide (1 ≤ s) && decide (s ≤ 1000000)) _ (hR.keep hB) hlen) (fun e Wz11 h => ?_)
  obtain ⟨rfl, bz12⟩ := h
  replace hB := below_after hB bz12
  replace hz5 := hz5.after bz12
  clear bz12
  refine ⟨_, rfl, ?_⟩
  refine hK' _ _ ⟨hB, hz5⟩ (fun _ => trivial) ?_
  clear hK' K'
  go_frame
  refine y_oper 4 (by kernel_rfl) rfl rfl (fun K' hK' => ?_)
  refine wp_exec (some 6) rfl (.int .i64 (sqCode p n m k qs (decide (1 ≤ s) && decide (s ≤ 1000000)))) (exec_assign _ rfl (.int .i64 (sqCode p n m k qs (decide (1 ≤ s) && decide (s ≤ 1000000)))) rfl) ?_
  refine hK' _ _ ⟨hB, hz5⟩ (fun _ => trivial) ?_
  clear hK' K'
  go_frame
  refine y_done (by kernel_rfl) ?_ _
  go_upto_region 2 with (fail)
  refine wp_region_lit ?_
  refine ls_ex (some 13) (.int .i64 (sqCode p n m k qs (decide (1 ≤ s) && decide (s ≤ 1000000)))) rfl rfl (exec_move _ rfl (.int .i64 (sqCode p n m k qs (decide (1 ≤ s) && decide (s ≤ 1000000)))) rfl) ?_
  go_frame
  refine ls_ex (some 14) (.bool true) rfl rfl (exec_neq _ _ _ _ rfl ((sqCode p n m k qs (decide (1 ≤ s) && decide (s ≤ 1000000)))) 0 rfl rfl true Hne.out) ?_
  go_frame
  refine wpList_nil ?_
  go_upto_region 3 with (fail)
  refine wp_region_lit ?_
  refine ls_ex (some 15) (.int .i64 (sqCode p n m k qs (decide (1 ≤ s) && decide (s ≤ 1000000)))) rfl rfl (exec_move _ rfl (.int .i64 (sqCode p n m k qs (decide (1 ≤ s) && decide (s ≤ 1000000)))) rfl) ?_
  go_frame
  refine ls_ex (some 4) (.int .i64 0) rfl rfl (exec_assign _ rfl (.int .i64 0) rfl) ?_
  go_frame
  refine ls_ex (some 5) (.int .i64 (sqCode p n m k qs (decide (1 ≤ s) && decide (s ≤ 1000000)))) rfl rfl (exec_assign _ rfl (.int .i64 (sqCode p n m k qs (decide (1 ≤ s) && decide (s ≤ 1000000)))) rfl) ?_
  go_frame
  refine wpList_nil ?_
  go_wp2_with fail
  go_ret2
  exact ⟨by rw [Hr.out, Hc.out]; rfl, hB⟩
set_option maxHeartbeats 4000000 in
theorem implGs_2 (p n m k : Int) (A : Option Addr) (c : Nat) (qs : List (List Nat)) (s : Int) (w : World) (hR : Rd w A qs) (hlen : qs.length ≤ 1048576) (h0 : sqCode p n m k qs (decide (1 ≤ s) && decide (s ≤ 1000000)) = 0) :
    Calls Try.prog 13 #[.agg #[.int .i64 p, .int .i64 n, .int .i64 m, .int .i64 k, .slice A qs.length c], .int .i64 s] w (fun e w' => e = .returned (.tuple #[.int .i64 (gsR p n m k qs s), .int .i64 (gsCode p n m k qs s)]) ∧ Below w.heap.size w w') := by
  have hB := Below.refl w.heap.size w
  have H0 := Lib.hid h0
  have hf := sq_facts h0
  have HP := Lib.hid (fun a (ha : a ≤ 9) j (hj : j ≤ a) => powI_in (show (1 : Int) ≤ n by omega) hf.2.2.1 9 (by decide) (show j ≤ 9 by omega))
  clear h0 hf
  go_enter Try.func13, Try.ntmps13
  go_upto_region 0 with (fail)
  refine wp_region_lit ?_
  refine ls_op rfl (fun K' hK' => ?_)
  have lz1 := hB.size
  refine wp_new (some 2) rfl (exec_box 30 _ rfl (#[.int .i64 p, .int .i64 n, .int .i64 m, .int .i64 k, .slice A qs.length c]) rfl) (fun Wz2 nnz3 => ?_)
  have bz4 := nnz3.below (Below.refl _ _) (Nat.le_refl _)
  replace hB := below_after hB bz4
  have hz5 : At Wz2 w.heap.size (.cells #[.int .i64 p, .int .i64 n, .int .i64 m, .int .i64 k, .slice A qs.length c] 30 (0, 0)) := nnz3.at_
  refine hK' _ _ ?_
  clear hK' K' nnz3 bz4
  go_frame
  refine ls_ex (some 4) (.int .i64 0) rfl rfl (exec_assign _ rfl (.int .i64 0) rfl) ?_
  go_frame
  refine ls_ex (some 5) (.int .i64 0) rfl rfl (exec_assign _ rfl (.int .i64 0) rfl) ?_
  go_frame
  refine wpList_nil ?_
  go_upto_region 1 with (fail)
  refine wp_region_y (zs := []) (S := fun w' => Below w.heap.size w w' ∧ At w' w.heap.size (.cells #[.int .i64 p, .int .i64 n, .int .i64 m, .int .i64 k, .slice A qs.length c] 30 (0, 0))) (S2 := fun w' => True) (by kernel_rfl) ?_
  change wpAnyY _ _ _ _ _ _ _ _ _ _ (World.drew _)
  generalize hwdz6 : World.drew _ = wdz6
  replace hB : Below w.heap.size w wdz6 := by rw [← hwdz6]; exact hB.drew
  replace hz5 : At wdz6 w.heap.size (.cells #[.int .i64 p, .int .i64 n, .int .i64 m, .int .i64 k, .slice A qs.length c] 30 (0, 0)) := by rw [← hwdz6]; exact hz5
  clear hwdz6
  refine y_yield 0 (some 9) (.agg #[.int .i64 p, .int .i64 n, .int .i64 m, .int .i64 k, .slice A qs.length c]) rfl (by kernel_rfl) (by kernel_rfl) (by kernel_rfl) (fun _ _ _ h => h) rfl rfl ⟨hB, hz5⟩ (fun w' h' => exec_load_all 30 _ rfl w.heap.size rfl _ _ _ h'.2 Try.underlying30 rfl 5 (by kernel_rfl) rfl) ?_
  go_frame
  refine y_yield 1 (some 10) (.int .i64 s) rfl (by kernel_rfl) (by kernel_rfl) (by kernel_rfl) (fun _ _ _ h => h) rfl rfl ⟨hB, hz5⟩ (fun w' h' => exec_move _ rfl (.int .i64 s) rfl) ?_
  go_frame
  refine y_oper 2 (by kernel_rfl) rfl rfl (fun K' hK' => ?_)
  have lz9 := hB.size
  have lz10 := hz5.lt
  refine wp_call3 (some 11) rfl 31 _ _ _ _ rfl (fun args w => by kernel_rfl) _ _ _ rfl rfl rfl _ (isBetween_c 1 s 1000000 _) (fun e Wz7 h => ?_)
  obtain ⟨rfl, rfl⟩ := h
  refine ⟨_, rfl, ?_⟩
  refine hK' _ _ ⟨hB, hz5⟩ (fun _ => trivial) ?_
  clear hK' K'
  go_frame
  refine y_oper 3 (by kernel_rfl) rfl rfl (fun K' hK' => ?_)
  have lz13 := hB.size
  have lz14 := hz5.lt
  refine wp_call2 (some 12) rfl 22 _ _ _ rfl (fun args w => by kernel_rfl) _ _ rfl rfl _ (checkRepeated_c p n m k A c qs (decide (1 ≤ s) && decide (s ≤ 1000000)) _ (hR.keep hB) hlen) (fun e Wz11 h => ?_)
  obtain ⟨rfl, bz12⟩ := h
  replace hB := below_after hB bz12
  replace hz5 := hz5.after bz12
  rw [H0.out]
  clear bz12
  refine ⟨_, rfl, ?_⟩
  refine hK' _ _ ⟨hB, hz5⟩ (fun _ => trivial) ?_
  clear hK' K'
  go_frame
  refine y_oper 4 (by kernel_rfl) rfl rfl (fun K' hK' => ?_)
  refine wp_exec (some 6) rfl (.int .i64 0) (exec_assign _ rfl (.int .i64 0) rfl) ?_
  refine hK' _ _ ⟨hB, hz5⟩ (fun _ => trivial) ?_
  clear hK' K'
  go_frame
  refine y_done (by kernel_rfl) ?_ _
  go_upto_region 2 with (fail)
  refine wp_region_lit ?_
  refine ls_ex (some 13) (.int .i64 0) rfl rfl (exec_move _ rfl (.int .i64 0) rfl) ?_
  go_frame
  refine ls_ex (some 14) (.bool false) rfl rfl (exec_neq _ _ _ _ rfl 0 0 rfl rfl false rfl) ?_
  go_frame
  refine wpList_nil ?_
  go_upto_region 4 with (fail)
  refine wp_region_lit ?_
  refine ls_ex (some 16) (.int .i64 0) rfl rfl (exec_move _ rfl (.int .i64 0) rfl) ?_
  go_frame
  refine wpList_nil ?_
  go_wp2_with fail
  go_loopw [16] (fun s16 wr => ∃ a : Nat, a ≤ 9 ∧ s16 = .int .i64 a ∧ Below w.heap.size w wr ∧ At wr w.heap.size (.cells #[.int .i64 p, .int .i64 n, .int .i64 m, .int .i64 k, .slice A qs.length c] 30 (0, 0)) ∧ Hid (gsF n s (9 - a) a = gsF n s 9 0)) (fun s16 _ => 9 - (intOf s16).toNat)
  case atStart => exact ⟨0, by omega, rfl, hB, hz5, Lib.hid rfl⟩
  case round =>
    clear hB hz5
    obtain ⟨a, ha, rfl, hB, h0, HG⟩ := hrel
    by_cases hlt : a < 9
    · by_cases hle : s ≤ powI n a
      · obtain ⟨hc, hr⟩ := gs_found H0.out (by omega) HG.out hle
        have Hc := Lib.hid hc
        have Hr := Lib.hid hr
        clear hc hr
        go_upto_region 5 with (fail)
        refine wp_region_lit ?_
        refine ls_ex (some 17) (.bool true) rfl rfl (exec_lss _ _ _ _ rfl a 9 rfl rfl true (decide_eq_true (by omega))) ?_
        go_frame
        refine wpList_nil ?_
        go_upto_region 6 with (fail)
        refine wp_region_lit ?_
        refine ls_ex (some 18) (.int .i64 a) rfl rfl (exec_move _ rfl (.int .i64 a) rfl) ?_
        go_frame
        refine ls_ex (some 7) (.int .i64 a) rfl rfl (exec_assign _ rfl (.int .i64 a) rfl) ?_
        go_frame
        refine wpList_nil ?_
        go_upto_region 7 with (fail)
        refine wp_region_lit ?_
        refine ls_ex (some 19) (.pointer (some ⟨w.heap.size, 1, none⟩)) rfl rfl (exec_fieldAddr 30 _ 1 rfl _ (by kernel_rfl)) ?_
        go_frame
        refine ls_ex (some 20) (.int .i64 n) rfl rfl (exec_load_one 2 _ rfl w.heap.size 1 rfl (.int .i64 n) _ Try.underlying2 rfl (h0.at_ 1)) ?_
        go_frame
        refine ls_ex (some 21) (.int .i64 a) rfl rfl (exec_move _ rfl (.int .i64 a) rfl) ?_
        go_frame
        refine ls_op rfl (fun K' hK' => ?_)
        have lz17 := hB.size
        have lz18 := h0.lt
        refine wp_call2 (some 22) rfl 32 _ _ _ rfl (fun args w => by kernel_rfl) _ _ rfl rfl _ (powerOf_c n a (by omega) (HP.out a (by omega)) _) (fun e Wz15 h => ?_)
        obtain ⟨rfl, rfl⟩ := h
        refine ⟨_, rfl, ?_⟩
        refine hK' _ _ ?_
        clear hK' K'
        go_frame
        refine ls_ex (some 8) (.int .i64 (powI n a)) rfl rfl (exec_assign _ rfl (.int .i64 (powI n a)) rfl) ?_
        go_frame
        refine wpList_nil ?_
        go_upto_region 8 with (fail)
        refine wp_region_lit ?_
        refine ls_ex (some 23) (.int .i64 (powI n a)) rfl rfl (exec_move _ rfl (.int .i64 (powI n a)) rfl) ?_
        go_frame
        refine ls_ex (some 24) (.int .i64 s) rfl rfl (exec_move _ rfl (.int .i64 s) rfl) ?_
        go_frame
        refine ls_ex (some 25) (.bool true) rfl rfl (exec_geq _ _ _ _ rfl ((powI n a)) s rfl rfl true (decide_eq_true hle)) ?_
        go_frame
        refine wpList_nil ?_
        go_upto_region 9 with (fail)
        refine wp_region_lit ?_
        refine ls_ex (some 26) (.int .i64 (powI n a)) rfl rfl (exec_move _ rfl (.int .i64 (powI n a)) rfl) ?_
        go_frame
        refine ls_ex (some 4) (.int .i64 (powI n a)) rfl rfl (exec_assign _ rfl (.int .i64 (powI n a)) rfl) ?_
        go_frame
        refine ls_ex (some 5) (.int .i64 0) rfl rfl (exec_assign _ rfl (.int .i64 0) rfl) ?_
        go_frame
        refine wpList_nil ?_
        go_wp2_with fail
        go_ret2
        exact ⟨by rw [Hr.out, Hc.out]; rfl, hB⟩
      · have HN := Lib.hid (gs_next hlt HG.out hle)
        go_upto_region 5 with (fail)
        refine wp_region_lit ?_
        refine ls_ex (some 17) (.bool true) rfl rfl (exec_lss _ _ _ _ rfl a 9 rfl rfl true (decide_eq_true (by omega))) ?_
        go_frame
        refine wpList_nil ?_
        go_upto_region 6 with (fail)
        refine wp_region_lit ?_
        refine ls_ex (some 18) (.int .i64 a) rfl rfl (exec_move _ rfl (.int .i64 a) rfl) ?_
        go_frame
        refine ls_ex (some 7) (.int .i64 a) rfl rfl (exec_assign _ rfl (.int .i64 a) rfl) ?_
        go_frame
        refine wpList_nil ?_
        go_upto_region 7 with (fail)
        refine wp_region_lit ?_
        refine ls_ex (some 19) (.pointer (some ⟨w.heap.size, 1, none⟩)) rfl rfl (exec_fieldAddr 30 _ 1 rfl _ (by kernel_rfl)) ?_
        go_frame
        refine ls_ex (some 20) (.int .i64 n) rfl rfl (exec_load_one 2 _ rfl w.heap.size 1 rfl (.int .i64 n) _ Try.underlying2 rfl (h0.at_ 1)) ?_
        go_frame
        refine ls_ex (some 21) (.int .i64 a) rfl rfl (exec_move _ rfl (.int .i64 a) rfl) ?_
        go_frame
        refine ls_op rfl (fun K' hK' => ?_)
        have lz21 := hB.size
        have lz22 := h0.lt
        refine wp_call2 (some 22) rfl 32 _ _ _ rfl (fun args w => by kernel_rfl) _ _ rfl rfl _ (powerOf_c n a (by omega) (HP.out a (by omega)) _) (fun e Wz19 h => ?_)
        obtain ⟨rfl, rfl⟩ := h
        refine ⟨_, rfl, ?_⟩
        refine hK' _ _ ?_
        clear hK' K'
        go_frame
        refine ls_ex (some 8) (.int .i64 (powI n a)) rfl rfl (exec_assign _ rfl (.int .i64 (powI n a)) rfl) ?_
        go_frame
        refine wpList_nil ?_
        go_upto_region 8 with (fail)
        refine wp_region_lit ?_
        refine ls_ex (some 23) (.int .i64 (powI n a)) rfl rfl (exec_move _ rfl (.int .i64 (powI n a)) rfl) ?_
        go_frame
        refine ls_ex (some 24) (.int .i64 s) rfl rfl (exec_move _ rfl (.int .i64 s) rfl) ?_
        go_frame
        refine ls_ex (some 25) (.bool false) rfl rfl (exec_geq _ _ _ _ rfl ((powI n a)) s rfl rfl false (decide_eq_false hle)) ?_
        go_frame
        refine wpList_nil ?_
        go_upto_region 10 with (fail)
        refine wp_region_lit ?_
        refine ls_ex (some 27) (.int .i64 (a + 1)) rfl rfl (exec_add _ _ _ _ rfl a 1 (a + 1) rfl rfl (IntWalk.i64_in _ (by omega))) ?_
        go_frame
        refine ls_ex (some 16) (.int .i64 (a + 1)) rfl rfl (exec_move _ rfl (.int .i64 (a + 1)) rfl) ?_
        go_frame
        refine wpList_nil ?_
        go_wp2_with fail
        go_roundw
        case rel => exact ⟨a + 1, by omega, by go_num, hB, h0, HN⟩
        case measure => simp [intOf]; omega
    · obtain ⟨hc, hr⟩ := gs_none H0.out HG.out hlt
      have Hc := Lib.hid hc
      have Hr := Lib.hid hr
      clear hc hr
      go_upto_region 5 with (fail)
      refine wp_region_lit ?_
      refine ls_ex (some 17) (.bool false) rfl rfl (exec_lss _ _ _ _ rfl a 9 rfl rfl false (decide_eq_false (by omega))) ?_
      go_frame
      refine wpList_nil ?_
      go_upto_region 11 with (fail)
      refine wp_region_lit ?_
      refine ls_ex (some 4) (.int .i64 0) rfl rfl (exec_assign _ rfl (.int .i64 0) rfl) ?_
      go_frame
      refine ls_ex (some 5) (.int .i64 4) rfl rfl (exec_assign _ rfl (.int .i64 4) rfl) ?_
      go_frame
      refine wpList_nil ?_
      go_wp2_with fail
      go_ret2
      exact ⟨by rw [Hr.out, Hc.out]; rfl, hB⟩
theorem implGreaterSize_c (p n m k : Int) (A : Option Addr) (c : Nat) (qs : List (List Nat)) (s : Int) (w : World) (hR : Rd w A qs) (hlen : qs.length ≤ 1048576) : Calls Try.prog 13 #[.agg #[.int .i64 p, .int .i64 n, .int .i64 m, .int .i64 k, .slice A qs.length c], .int .i64 s] w (fun e w' => e = .returned (.tuple #[.int .i64 (gsR p n m k qs s), .int .i64 (gsCode p n m k qs s)]) ∧ Below w.heap.size w w') := by
  by_cases h0 : sqCode p n m k qs (decide (1 ≤ s) && decide (s ≤ 1000000)) = 0
  · exact implGs_2 p n m k A c qs s w hR hlen h0
  · exact implGs_1 p n m k A c qs s w hR hlen h0
set_option maxHeartbeats 4000000 in
theorem specGs_1 (p n m k : Int) (A : Option Addr) (c : Nat) (qs : List (List Nat)) (s : Int) (w : World) (hR : Rd w A qs) (hlen : qs.length ≤ 1048576) (hne : sqCode p n m k qs true ≠ 0) :
    Calls Try.prog 12 #[.agg #[.int .i64 p, .int .i64 n, .int .i64 m, .int .i64 k, .slice A qs.length c], .int .i64 s] w (fun e w' => e = .returned (.tuple #[.int .i64 (gsR p n m k qs s), .int .i64 (gsCode p n m k qs s)]) ∧ Below w.heap.size w w') := by
  have hB := Below.refl w.heap.size w
  have hno := sqCode_no hne (decide (1 ≤ s) && decide (s ≤ 1000000))
  have Hc : Hid (gsCode p n m k qs s = sqCode p n m k qs true) := Lib.hid (by unfold gsCode; rw [hno, if_neg hne])
  have Hr : Hid (gsR p n m k qs s = 0) := Lib.hid (by unfold gsR; rw [hno, if_neg hne])
  have Hne : Hid ((sqCode p n m k qs true != 0) = true) := Lib.hid (by simpa using hne)
  have Hz : Hid ((sqCode p n m k qs true == 0) = false) := Lib.hid (by simpa using hne)
  clear hne hno
  go_enter Try.func12, Try.ntmps12
  go_upto_region 0 with (fail)
  refine wp_region_lit ?_
  refine ls_op rfl (fun K' hK' => ?_)
  have lz1 := hB.size
  refine wp_new (some 2) rfl (exec_box 30 _ rfl (#[.int .i64 p, .int .i64 n, .int .i64 m, .int .i64 k, .slice A qs.length c]) rfl) (fun Wz2 nnz3 => ?_)
  have bz4 := nnz3.below (Below.refl _ _) (Nat.le_refl _)
  replace hB := below_after hB bz4
  have hz5 : At Wz2 w.heap.size (.cells #[.int .i64 p, .int .i64 n, .int .i64 m, .int .i64 k, .slice A qs.length c] 30 (0, 0)) := nnz3.at_
  refine hK' _ _ ?_
  clear hK' K' nnz3 bz4
  go_frame
  refine ls_ex (some 4) (.int .i64 0) rfl rfl (exec_assign _ rfl (.int .i64 0) rfl) ?_
  go_frame
  refine ls_ex (some 5) (.int .i64 0) rfl rfl (exec_assign _ rfl (.int .i64 0) rfl) ?_
  go_frame
  refine wpList_nil ?_
  go_upto_region 1 with (fail)
  refine wp_region_lit ?_
  refine ls_ex (some 9) (.agg #[.int .i64 p, .int .i64 n, .int .i64 m, .int .i64 k, .slice A qs.length c]) rfl rfl (exec_load_all 30 _ rfl w.heap.size rfl _ _ _ hz5 Try.underlying30 rfl 5 (by kernel_rfl) rfl) ?_
  go_frame
  refine ls_op rfl (fun K' hK' => ?_)
  have lz8 := hB.size
  have lz9 := hz5.lt
  refine wp_call1 (some 10) rfl 29 _ _ rfl (fun args w => by kernel_rfl) _ rfl _ (l06Square_c p n m k A c qs _ (hR.keep hB) hlen) (fun e Wz6 h => ?_)
  obtain ⟨rfl, bz7⟩ := h
  replace hB := below_after hB bz7
  replace hz5 := hz5.after bz7
  clear bz7
  refine ⟨_, rfl, ?_⟩
  refine hK' _ _ ?_
  clear hK' K'
  go_frame
  refine ls_ex (some 6) (.int .i64 (sqCode p n m k qs true)) rfl rfl (exec_assign _ rfl (.int .i64 (sqCode p n m k qs true)) rfl) ?_
  go_frame
  refine wpList_nil ?_
  go_upto_region 2 with (fail)
  refine wp_region_lit ?_
  refine ls_ex (some 11) (.int .i64 (sqCode p n m k qs true)) rfl rfl (exec_move _ rfl (.int .i64 (sqCode p n m k qs true)) rfl) ?_
  go_frame
  refine ls_ex (some 12) (.bool false) rfl rfl (exec_eql _ _ _ _ rfl ((sqCode p n m k qs true)) 0 rfl rfl false Hz.out) ?_
  go_frame
  refine ls_ex (some 13) (.bool false) rfl rfl (exec_move _ rfl (.bool false) rfl) ?_
  go_frame
  refine ls_skip_g (some 14) rfl rfl ?_
  go_frame
  refine ls_skip_g (some 15) rfl rfl ?_
  go_frame
  refine ls_skip_g (some 16) rfl rfl ?_
  go_frame
  refine ls_ex (some 17) (.bool false) rfl rfl (exec_pick _ _ _ rfl false rfl (.bool false) rfl) ?_
  go_frame
  refine wpList_nil ?_
  go_upto_region 4 with (fail)
  refine wp_region_lit ?_
  refine ls_ex (some 18) (.int .i64 (sqCode p n m k qs true)) rfl rfl (exec_move _ rfl (.int .i64 (sqCode p n m k qs true)) rfl) ?_
  go_frame
  refine ls_ex (some 19) (.bool true) rfl rfl (exec_neq _ _ _ _ rfl ((sqCode p n m k qs true)) 0 rfl rfl true Hne.out) ?_
  go_frame
  refine wpList_nil ?_
  go_upto_region 5 with (fail)
  refine wp_region_lit ?_
  refine ls_ex (some 20) (.int .i64 (sqCode p n m k qs true)) rfl rfl (exec_move _ rfl (.int .i64 (sqCode p n m k qs true)) rfl) ?_
  go_frame
  refine ls_ex (some 4) (.int .i64 0) rfl rfl (exec_assign _ rfl (.int .i64 0) rfl) ?_
  go_frame
  refine ls_ex (some 5) (.int .i64 (sqCode p n m k qs true)) rfl rfl (exec_assign _ rfl (.int .i64 (sqCode p n m k qs true)) rfl) ?_
  go_frame
  refine wpList_nil ?_
  go_wp2_with fail
  go_ret2
  exact ⟨by rw [Hr.out, Hc.out]; rfl, hB⟩
set_option maxHeartbeats 4000000 in
theorem specGs_2 (p n m k : Int) (A : Option Addr) (c : Nat) (qs : List (List Nat)) (s : Int) (w : World) (hR : Rd w A qs) (hlen : qs.length ≤ 1048576) (h1 : sqCode p n m k qs true = 0) (hb : (decide (1 ≤ s) && decide (s ≤ 1000000)) = false) :
    Calls Try.prog 12 #[.agg #[.int .i64 p, .int .i64 n, .int .i64 m, .int .i64 k, .slice A qs.length c], .int .i64 s] w (fun e w' => e = .returned (.tuple #[.int .i64 (gsR p n m k qs s), .int .i64 (gsCode p n m k qs s)]) ∧ Below w.heap.size w w') := by
  have hB := Below.refl w.heap.size w
  have hf := sq_facts h1
  have h2 : sqCode p n m k qs (decide (1 ≤ s) && decide (s ≤ 1000000)) = 2 := by unfold sqCode; rw [if_pos hf.1, hb]; simp
  have Hc : Hid (gsCode p n m k qs s = 2) := Lib.hid (by unfold gsCode; rw [h2]; rfl)
  have Hr : Hid (gsR p n m k qs s = 0) := Lib.hid (by unfold gsR; rw [h2]; rfl)
  have Hb := Lib.hid hb
  have H1 := Lib.hid h1
  clear h1 h2 hb hf
  go_enter Try.func12, Try.ntmps12
  go_upto_region 0 with (fail)
  refine wp_region_lit ?_
  refine ls_op rfl (fun K' hK' => ?_)
  have lz1 := hB.size
  refine wp_new (some 2) rfl (exec_box 30 _ rfl (#[.int .i64 p, .int .i64 n, .int .i64 m, .int .i64 k, .slice A qs.length c]) rfl) (fun Wz2 nnz3 => ?_)
  have bz4 := nnz3.below (Below.refl _ _) (Nat.le_refl _)
  replace hB := below_after hB bz4
  have hz5 : At Wz2 w.heap.size (.cells #[.int .i64 p, .int .i64 n, .int .i64 m, .int .i64 k, .slice A qs.length c] 30 (0, 0)) := nnz3.at_
  refine hK' _ _ ?_
  clear hK' K' nnz3 bz4
  go_frame
  refine ls_ex (some 4) (.int .i64 0) rfl rfl (exec_assign _ rfl (.int .i64 0) rfl) ?_
  go_frame
  refine ls_ex (some 5) (.int .i64 0) rfl rfl (exec_assign _ rfl (.int .i64 0) rfl) ?_
  go_frame
  refine wpList_nil ?_
  go_upto_region 1 with (fail)
  refine wp_region_lit ?_
  refine ls_ex (some 9) (.agg #[.int .i64 p, .int .i64 n, .int .i64 m, .int .i64 k, .slice A qs.length c]) rfl rfl (exec_load_all 30 _ rfl w.heap.size rfl _ _ _ hz5 Try.underlying30 rfl 5 (by kernel_rfl) rfl) ?_
  go_frame
  refine ls_op rfl (fun K' hK' => ?_)
  have lz8 := hB.size
  have lz9 := hz5.lt
  refine wp_call1 (some 10) rfl 29 _ _ rfl (fun args w => by kernel_rfl) _ rfl _ (l06Square_c p n m k A c qs _ (hR.keep hB) hlen) (fun e Wz6 h => ?_)
  obtain ⟨rfl, bz7⟩ := h
  replace hB := below_after hB bz7
  replace hz5 := hz5.after bz7
  rw [H1.out]
  clear bz7
  refine ⟨_, rfl, ?_⟩
  refine hK' _ _ ?_
  clear hK' K'
  go_frame
  refine ls_ex (some 6) (.int .i64 0) rfl rfl (exec_assign _ rfl (.int .i64 0) rfl) ?_
  go_frame
  refine wpList_nil ?_
  go_upto_region 2 with (fail)
  refine wp_region_lit ?_
  refine ls_ex (some 11) (.int .i64 0) rfl rfl (exec_move _ rfl (.int .i64 0) rfl) ?_
  go_frame
  refine ls_ex (some 12) (.bool true) rfl rfl (exec_eql _ _ _ _ rfl 0 0 rfl rfl true rfl) ?_
  go_frame
  refine ls_ex (some 13) (.bool true) rfl rfl (exec_move _ rfl (.bool true) rfl) ?_
  go_frame
  refine ls_ex_g (some 14) (.int .i64 s) rfl rfl (exec_move _ rfl (.int .i64 s) rfl) ?_
  go_frame
  refine ls_op_g rfl (fun K' hK' => ?_)
  have lz12 := hB.size
  have lz13 := hz5.lt
  refine wp_call3 (some 15) rfl 30 _ _ _ _ rfl (fun args w => by kernel_rfl) _ _ _ rfl rfl rfl _ (l01In_c s 1 1000000 _) (fun e Wz10 h => ?_)
  obtain ⟨rfl, rfl⟩ := h
  rw [Hb.out]
  refine ⟨_, rfl, ?_⟩
  refine hK' _ _ ?_
  clear hK' K'
  go_frame
  refine ls_ex_g (some 16) (.bool true) rfl rfl (exec_not _ _ rfl false rfl) ?_
  go_frame
  refine ls_ex (some 17) (.bool true) rfl rfl (exec_pick _ _ _ rfl true rfl (.bool true) rfl) ?_
  go_frame
  refine wpList_nil ?_
  go_upto_region 3 with (fail)
  refine wp_region_lit ?_
  refine ls_ex (some 6) (.int .i64 2) rfl rfl (exec_assign _ rfl (.int .i64 2) rfl) ?_
  go_frame
  refine wpList_nil ?_
  go_upto_region 4 with (fail)
  refine wp_region_lit ?_
  refine ls_ex (some 18) (.int .i64 2) rfl rfl (exec_move _ rfl (.int .i64 2) rfl) ?_
  go_frame
  refine ls_ex (some 19) (.bool true) rfl rfl (exec_neq _ _ _ _ rfl 2 0 rfl rfl true rfl) ?_
  go_frame
  refine wpList_nil ?_
  go_upto_region 5 with (fail)
  refine wp_region_lit ?_
  refine ls_ex (some 20) (.int .i64 2) rfl rfl (exec_move _ rfl (.int .i64 2) rfl) ?_
  go_frame
  refine ls_ex (some 4) (.int .i64 0) rfl rfl (exec_assign _ rfl (.int .i64 0) rfl) ?_
  go_frame
  refine ls_ex (some 5) (.int .i64 2) rfl rfl (exec_assign _ rfl (.int .i64 2) rfl) ?_
  go_frame
  refine wpList_nil ?_
  go_wp2_with fail
  go_ret2
  exact ⟨by rw [Hr.out, Hc.out]; rfl, hB⟩
set_option maxHeartbeats 4000000 in
theorem specGs_3 (p n m k : Int) (A : Option Addr) (c : Nat) (qs : List (List Nat)) (s : Int) (w : World) (hR : Rd w A qs) (hlen : qs.length ≤ 1048576) (h1 : sqCode p n m k qs true = 0) (hb : (decide (1 ≤ s) && decide (s ≤ 1000000)) = true) :
    Calls Try.prog 12 #[.agg #[.int .i64 p, .int .i64 n, .int .i64 m, .int .i64 k, .slice A qs.length c], .int .i64 s] w (fun e w' => e = .returned (.tuple #[.int .i64 (gsR p n m k qs s), .int .i64 (gsCode p n m k qs s)]) ∧ Below w.heap.size w w') := by
  have hB := Below.refl w.heap.size w
  have Hb := Lib.hid hb
  have H1 := Lib.hid h1
  have h0 : sqCode p n m k qs (decide (1 ≤ s) && decide (s ≤ 1000000)) = 0 := by rw [hb]; exact h1
  have H0 := Lib.hid h0
  have hf := sq_facts h0
  have HP := Lib.hid (fun a (ha : a ≤ 9) j (hj : j ≤ a) => powI_in (show (1 : Int) ≤ n by omega) hf.2.2.1 9 (by decide) (show j ≤ 9 by omega))
  have HW := Lib.hid (fun a (ha : a < 9) => (IntWalk.i64_in (powI n a * n) (by have := HP.out (a + 1) (by omega) (a + 1) (by omega); simp only [powI] at this; omega) : IntKind.i64.wrap (powI n a * n) = powI n (a + 1)))
  clear h0 h1 hb hf
  go_enter Try.func12, Try.ntmps12
  go_upto_region 0 with (fail)
  refine wp_region_lit ?_
  refine ls_op rfl (fun K' hK' => ?_)
  have lz1 := hB.size
  refine wp_new (some 2) rfl (exec_box 30 _ rfl (#[.int .i64 p, .int .i64 n, .int .i64 m, .int .i64 k, .slice A qs.length c]) rfl) (fun Wz2 nnz3 => ?_)
  have bz4 := nnz3.below (Below.refl _ _) (Nat.le_refl _)
  replace hB := below_after hB bz4
  have hz5 : At Wz2 w.heap.size (.cells #[.int .i64 p, .int .i64 n, .int .i64 m, .int .i64 k, .slice A qs.length c] 30 (0, 0)) := nnz3.at_
  refine hK' _ _ ?_
  clear hK' K' nnz3 bz4
  go_frame
  refine ls_ex (some 4) (.int .i64 0) rfl rfl (exec_assign _ rfl (.int .i64 0) rfl) ?_
  go_frame
  refine ls_ex (some 5) (.int .i64 0) rfl rfl (exec_assign _ rfl (.int .i64 0) rfl) ?_
  go_frame
  refine wpList_nil ?_
  go_upto_region 1 with (fail)
  refine wp_region_lit ?_
  refine ls_ex (some 9) (.agg #[.int .i64 p, .int .i64 n, .int .i64 m, .int .i64 k, .slice A qs.length c]) rfl rfl (exec_load_all 30 _ rfl w.heap.size rfl _ _ _ hz5 Try.underlying30 rfl 5 (by kernel_rfl) rfl) ?_
  go_frame
  refine ls_op rfl (fun K' hK' => ?_)
  have lz8 := hB.size
  have lz9 := hz5.lt
  refine wp_call1 (some 10) rfl 29 _ _ rfl (fun args w => by kernel_rfl) _ rfl _ (l06Square_c p n m k A c qs _ (hR.keep hB) hlen) (fun e Wz6 h => ?_)
  obtain ⟨rfl, bz7⟩ := h
  replace hB := below_after hB bz7
  replace hz5 := hz5.after bz7
  rw [H1.out]
  clear bz7
  refine ⟨_, rfl, ?_⟩
  refine hK' _ _ ?_
  clear hK' K'
  go_frame
  refine ls_ex (some 6) (.int .i64 0) rfl rfl (exec_assign _ rfl (.int .i64 0) rfl) ?_
  go_frame
  refine wpList_nil ?_
  go_upto_region 2 with (fail)
  refine wp_region_lit ?_
  refine ls_ex (some 11) (.int .i64 0) rfl rfl (exec_move _ rfl (.int .i64 0) rfl) ?_
  go_frame
  refine ls_ex (some 12) (.bool true) rfl rfl (exec_eql _ _ _ _ rfl 0 0 rfl rfl true rfl) ?_
  go_frame
  refine ls_ex (some 13) (.bool true) rfl rfl (exec_move _ rfl (.bool true) rfl) ?_
  go_frame
  refine ls_ex_g (some 14) (.int .i64 s) rfl rfl (exec_move _ rfl (.int .i64 s) rfl) ?_
  go_frame
  refine ls_op_g rfl (fun K' hK' => ?_)
  have lz12 := hB.size
  have lz13 := hz5.lt
  refine wp_call3 (some 15) rfl 30 _ _ _ _ rfl (fun args w => by kernel_rfl) _ _ _ rfl rfl rfl _ (l01In_c s 1 1000000 _) (fun e Wz10 h => ?_)
  obtain ⟨rfl, rfl⟩ := h
  rw [Hb.out]
  refine ⟨_, rfl, ?_⟩
  refine hK' _ _ ?_
  clear hK' K'
  go_frame
  refine ls_ex_g (some 16) (.bool false) rfl rfl (exec_not _ _ rfl true rfl) ?_
  go_frame
  refine ls_ex (some 17) (.bool false) rfl rfl (exec_pick _ _ _ rfl true rfl (.bool false) rfl) ?_
  go_frame
  refine wpList_nil ?_
  go_upto_region 4 with (fail)
  refine wp_region_lit ?_
  refine ls_ex (some 18) (.int .i64 0) rfl rfl (exec_move _ rfl (.int .i64 0) rfl) ?_
  go_frame
  refine ls_ex (some 19) (.bool false) rfl rfl (exec_neq _ _ _ _ rfl 0 0 rfl rfl false rfl) ?_
  go_frame
  refine wpList_nil ?_
  go_upto_region 6 with (fail)
  refine wp_region_lit ?_
  refine ls_ex (some 7) (.int .i64 1) rfl rfl (exec_assign _ rfl (.int .i64 1) rfl) ?_
  go_frame
  refine wpList_nil ?_
  go_upto_region 7 with (fail)
  refine wp_region_lit ?_
  refine ls_ex (some 8) (.int .i64 0) rfl rfl (exec_assign _ rfl (.int .i64 0) rfl) ?_
  go_frame
  refine wpList_nil ?_
  go_wp2_with fail
  go_loopw [8, 7] (fun s8 s7 wr => ∃ a : Nat, a ≤ 9 ∧ s8 = .int .i64 a ∧ s7 = .int .i64 (powI n a) ∧ Below w.heap.size w wr ∧ At wr w.heap.size (.cells #[.int .i64 p, .int .i64 n, .int .i64 m, .int .i64 k, .slice A qs.length c] 30 (0, 0)) ∧ Hid (gsF n s (9 - a) a = gsF n s 9 0)) (fun s8 _ _ => 9 - (intOf s8).toNat)
  case atStart => exact ⟨0, by omega, rfl, rfl, hB, hz5, Lib.hid rfl⟩
  case round =>
    clear hB hz5
    obtain ⟨a, ha, rfl, rfl, hB, h0, HG⟩ := hrel
    by_cases hlt : a < 9
    · by_cases hle : s ≤ powI n a
      · obtain ⟨hc, hr⟩ := gs_found H0.out (by omega) HG.out hle
        have Hc := Lib.hid hc
        have Hr := Lib.hid hr
        clear hc hr
        go_upto_region 8 with (fail)
        refine wp_region_lit ?_
        refine ls_ex (some 21) (.int .i64 a) rfl rfl (exec_move _ rfl (.int .i64 a) rfl) ?_
        go_frame
        refine ls_ex (some 22) (.bool true) rfl rfl (exec_leq _ _ _ _ rfl a 8 rfl rfl true (decide_eq_true (by omega))) ?_
        go_frame
        refine wpList_nil ?_
        go_upto_region 10 with (fail)
        refine wp_region_lit ?_
        refine ls_ex (some 25) (.int .i64 (powI n a)) rfl rfl (exec_move _ rfl (.int .i64 (powI n a)) rfl) ?_
        go_frame
        refine ls_ex (some 26) (.int .i64 s) rfl rfl (exec_move _ rfl (.int .i64 s) rfl) ?_
        go_frame
        refine ls_ex (some 27) (.bool true) rfl rfl (exec_geq _ _ _ _ rfl ((powI n a)) s rfl rfl true (decide_eq_true hle)) ?_
        go_frame
        refine wpList_nil ?_
        go_upto_region 11 with (fail)
        refine wp_region_lit ?_
        refine ls_ex (some 28) (.int .i64 (powI n a)) rfl rfl (exec_move _ rfl (.int .i64 (powI n a)) rfl) ?_
        go_frame
        refine ls_ex (some 4) (.int .i64 (powI n a)) rfl rfl (exec_assign _ rfl (.int .i64 (powI n a)) rfl) ?_
        go_frame
        refine ls_ex (some 5) (.int .i64 0) rfl rfl (exec_assign _ rfl (.int .i64 0) rfl) ?_
        go_frame
        refine wpList_nil ?_
        go_wp2_with fail
        go_ret2
        exact ⟨by rw [Hr.out, Hc.out]; rfl, hB⟩
      · have HN := Lib.hid (gs_next hlt HG.out hle)
        have hW := HW.out a (by omega)
        go_upto_region 8 with (fail)
        refine wp_region_lit ?_
        refine ls_ex (some 21) (.int .i64 a) rfl rfl (exec_move _ rfl (.int .i64 a) rfl) ?_
        go_frame
        refine ls_ex (some 22) (.bool true) rfl rfl (exec_leq _ _ _ _ rfl a 8 rfl rfl true (decide_eq_true (by omega))) ?_
        go_frame
        refine wpList_nil ?_
        go_upto_region 10 with (fail)
        refine wp_region_lit ?_
        refine ls_ex (some 25) (.int .i64 (powI n a)) rfl rfl (exec_move _ rfl (.int .i64 (powI n a)) rfl) ?_
        go_frame
        refine ls_ex (some 26) (.int .i64 s) rfl rfl (exec_move _ rfl (.int .i64 s) rfl) ?_
        go_frame
        refine ls_ex (some 27) (.bool false) rfl rfl (exec_geq _ _ _ _ rfl ((powI n a)) s rfl rfl false (decide_eq_false hle)) ?_
        go_frame
        refine wpList_nil ?_
        go_upto_region 12 with (fail)
        refine wp_region_lit ?_
        refine ls_ex (some 29) (.int .i64 (powI n a)) rfl rfl (exec_move _ rfl (.int .i64 (powI n a)) rfl) ?_
        go_frame
        refine ls_ex (some 30) (.pointer (some ⟨w.heap.size, 1, none⟩)) rfl rfl (exec_fieldAddr 30 _ 1 rfl _ (by kernel_rfl)) ?_
        go_frame
        refine ls_ex (some 31) (.int .i64 n) rfl rfl (exec_load_one 2 _ rfl w.heap.size 1 rfl (.int .i64 n) _ Try.underlying2 rfl (h0.at_ 1)) ?_
        go_frame
        refine ls_ex (some 32) (.int .i64 (powI n (a + 1))) rfl rfl (exec_mul _ _ _ _ rfl (powI n a) n _ rfl rfl hW) ?_
        go_frame
        refine ls_ex (some 7) (.int .i64 (powI n (a + 1))) rfl rfl (exec_assign _ rfl (.int .i64 (powI n (a + 1))) rfl) ?_
        go_frame
        refine wpList_nil ?_
        go_upto_region 9 with (fail)
        refine wp_region_lit ?_
        refine ls_ex (some 23) (.int .i64 a) rfl rfl (exec_move _ rfl (.int .i64 a) rfl) ?_
        go_frame
        refine ls_ex (some 24) (.int .i64 (a + 1)) rfl rfl (exec_add _ _ _ _ rfl a 1 (a + 1) rfl rfl (IntWalk.i64_in _ (by omega))) ?_
        go_frame
        refine ls_ex (some 8) (.int .i64 (a + 1)) rfl rfl (exec_assign _ rfl (.int .i64 (a + 1)) rfl) ?_
        go_frame
        refine wpList_nil ?_
        go_wp2_with fail
        go_roundw
        case rel => exact ⟨a + 1, by omega, by go_num, rfl, hB, h0, HN⟩
        case measure => simp [intOf]; omega
    · obtain ⟨hc, hr⟩ := gs_none H0.out HG.out hlt
      have Hc := Lib.hid hc
      have Hr := Lib.hid hr
      clear hc hr
      go_upto_region 8 with (fail)
      refine wp_region_lit ?_
      refine ls_ex (some 21) (.int .i64 a) rfl rfl (exec_move _ rfl (.int .i64 a) rfl) ?_
      go_frame
      refine ls_ex (some 22) (.bool false) rfl rfl (exec_leq _ _ _ _ rfl a 8 rfl rfl false (decide_eq_false (by omega))) ?_
      go_frame
      refine wpList_nil ?_
      go_upto_region 13 with (fail)
      refine wp_region_lit ?_
      refine ls_ex (some 4) (.int .i64 0) rfl rfl (exec_assign _ rfl (.int .i64 0) rfl) ?_
      go_frame
      refine ls_ex (some 5) (.int .i64 4) rfl rfl (exec_assign _ rfl (.int .i64 4) rfl) ?_
      go_frame
      refine wpList_nil ?_
      go_wp2_with fail
      go_ret2
      exact ⟨by rw [Hr.out, Hc.out]; rfl, hB⟩
theorem specGreaterSize_c (p n m k : Int) (A : Option Addr) (c : Nat) (qs : List (List Nat)) (s : Int) (w : World) (hR : Rd w A qs) (hlen : qs.length ≤ 1048576) : Calls Try.prog 12 #[.agg #[.int .i64 p, .int .i64 n, .int .i64 m, .int .i64 k, .slice A qs.length c], .int .i64 s] w (fun e w' => e = .returned (.tuple #[.int .i64 (gsR p n m k qs s), .int .i64 (gsCode p n m k qs s)]) ∧ Below w.heap.size w w') := by
  by_cases h1 : sqCode p n m k qs true = 0
  · cases hb : (decide (1 ≤ s) && decide (s ≤ 1000000)) with
    | false => exact specGs_2 p n m k A c qs s w hR hlen h1 hb
    | true => exact specGs_3 p n m k A c qs s w hR hlen h1 hb
  · exact specGs_1 p n m k A c qs s w hR hlen h1
end Go.Proofs.Ytphccbilldfdpaa
