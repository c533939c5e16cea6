/-
  IsSimple of both sides. (Made by mksf3.py.)
-/
import Derived.Test.YtcfgpjkdonidgaaSf1
import Derived.Test.YtcfgpjkdonidgaaSf2
import Derived.Test.YtcfgpjkdonidgaaTen2
import Derived.Test.YtcfgpjkdonidgaaTen4
namespace Go.Proofs.Ytcfgpjkdonidgaa
open Go.RowKit
set_option maxRecDepth 100000
theorem implIsTensorN_c (p i j k : Int) (A : Option Addr) (N c : Nat) (xs : List Int) (w : World) (hN : xs.length = N) (hr : RdI w A xs) (hn : N ≤ 1048576) :
    Calls Try.prog 20 #[.agg #[.int .i64 p, .int .i64 i, .int .i64 j, .int .i64 k, .slice A N c]] w fun e w' => e = .returned (.bool (tenB p i j k xs)) ∧ Below w.heap.size w w' := by
  subst hN
  exact implIsTensor_c p i j k A c xs w hr hn
theorem l05IsN_c (p i j k : Int) (A : Option Addr) (N c : Nat) (xs : List Int) (w : World) (hN : xs.length = N) (hr : RdI w A xs) (hn : N ≤ 1048576) :
    Calls Try.prog 17 #[.agg #[.int .i64 p, .int .i64 i, .int .i64 j, .int .i64 k, .slice A N c]] w fun e w' => e = .returned (.bool (tenB p i j k xs)) ∧ Below w.heap.size w w' := by
  subst hN
  exact l05Is_c p i j k A c xs w hr hn
attribute [local irreducible] wpList
/-- Whether a tensor is the product of three lists. -/
def siB (p a b d : Int) (xs : List Int) : Bool := tenB p a b d xs && (decide (xs.findIdx (fun x => x != 0) < xs.length) && sfB p a.toNat b.toNat d.toNat xs (xs.findIdx (fun x => x != 0)))
def siCode (p a b d : Int) (xs : List Int) : Int := if tenB p a b d xs = true then 0 else 1
theorem nzP_find {xs : List Int} {t : Nat} (h : nzP xs t) : xs.findIdx (fun x => x != 0) = t := by
  rw [List.findIdx_eq h.1]
  refine ⟨?_, fun j hj => ?_⟩
  · have h2 := h.2.1
    rw [List.getElem?_eq_getElem h.1, Option.getD_some] at h2
    simpa using h2
  · have h2 := h.2.2 j hj
    have h3 : j < xs.length := Nat.lt_trans hj h.1
    rw [List.getElem?_eq_getElem h3, Option.getD_some] at h2
    simp [h2]
theorem nzN_find {xs : List Int} (h : nzN xs) : xs.findIdx (fun x => x != 0) = xs.length := by
  rw [List.findIdx_eq_length]
  intro x hx
  obtain ⟨t, ht, rfl⟩ := List.getElem_of_mem hx
  have h2 := h t ht
  rw [List.getElem?_eq_getElem ht, Option.getD_some] at h2
  simp [h2]
theorem siB_no {p : Int} {a b d : Nat} {xs : List Int} (h : nzN xs) : siB p a b d xs = false := by
  unfold siB
  rw [nzN_find h, decide_eq_false (Nat.lt_irrefl _), Bool.false_and, Bool.and_false]
theorem siB_yes {p : Int} {a b d : Nat} {xs : List Int} {t : Nat} (hs : tenB p a b d xs = true) (h : nzP xs t) : siB p a b d xs = sfB p a b d xs t := by
  unfold siB
  rw [nzP_find h, decide_eq_true h.1, hs, Bool.true_and, Bool.true_and, Int.toNat_natCast, Int.toNat_natCast, Int.toNat_natCast]
theorem ten_natsS {p a b d : Int} {xs : List Int} (h : tenB p a b d xs = true) : ∃ A B D : Nat, a = A ∧ b = B ∧ d = D := by
  unfold tenB sideB at h
  simp only [Bool.and_eq_true, decide_eq_true_eq] at h
  exact ⟨a.toNat, b.toNat, d.toNat, by omega, by omega, by omega⟩
theorem specFac_w (p : Int) (a b d : Nat) (bB oB c N : Nat) (xs : List Int) (R : Bool) (w : World) (hX : RdI w (some ⟨bB, oB, none⟩) xs) (hxl : xs.length = N) (hs : tenB p a b d xs = true) (hR : siB p a b d xs = R) :
    Calls Try.prog 18 #[.agg #[.int .i64 p, .int .i64 a, .int .i64 b, .int .i64 d, .slice (some ⟨bB, oB, none⟩) N c]] w fun e w' => ∃ v, e = .returned (.tuple #[v, .bool R]) ∧ Below w.heap.size w w' := by
  subst hR
  rcases nz_cases xs with hn | ⟨t0, ht⟩
  · refine (sfsNo_c p a b d bB oB c N xs w hX hxl hs hn).mono ?_
    rintro e w' ⟨rfl, hb⟩
    exact ⟨_, by rw [siB_no hn], hb⟩
  · refine (sfsYes_c p a b d bB oB c N xs w hX hxl hs t0 ht).mono ?_
    intro e w' h
    rcases h with ⟨h0, rfl, hb⟩ | ⟨h0, g, gu, gv, gw, cu, cv, cw, ku, kv, kw, rfl, h⟩
    · exact ⟨_, by rw [siB_yes hs ht, h0], hb⟩
    · exact ⟨_, by rw [siB_yes hs ht, h0], h.2.2.2.2.2.2.2.2.2.2⟩
set_option maxHeartbeats 4000000 in
theorem specSi_a (p a b d : Int) (A : Option Addr) (c : Nat) (xs : List Int) (w : World) (hX : RdI w A xs) (hlen : xs.length ≤ 1048576) (hs : tenB p a b d xs = false) :
    Calls Try.prog 6 #[.agg #[.int .i64 p, .int .i64 a, .int .i64 b, .int .i64 d, .slice A xs.length c]] w (fun e w' => e = .returned (.tuple #[.bool (siB p a b d xs), .int .i64 (siCode p a b d xs)]) ∧ Below w.heap.size w w') := by
  have hB := Below.refl w.heap.size w
  have HS : Hid (siB p a b d xs = false) := Lib.hid (by unfold siB; rw [hs, Bool.false_and])
  have HC : Hid (siCode p a b d xs = 1) := Lib.hid (by unfold siCode; rw [hs]; rfl)
  have Hs := Lib.hid hs
  clear hs
  go_enter Try.func6, Try.ntmps6
  go_upto_region 0 with (fail)
  refine wp_region_lit ?_
  refine ls_op rfl (fun K' hK' => ?_)
  have lz1 := hB.size
  refine wp_new (some 1) rfl (exec_box 28 _ rfl (#[.int .i64 p, .int .i64 a, .int .i64 b, .int .i64 d, .slice A xs.length c]) rfl) (fun Wz2 nnz3 => ?_)
  have bz4 := nnz3.below (Below.refl _ _) (Nat.le_refl _)
  replace hB := below_after hB bz4
  have hz5 : At Wz2 w.heap.size (.cells #[.int .i64 p, .int .i64 a, .int .i64 b, .int .i64 d, .slice A xs.length c] 28 (0, 0)) := nnz3.at_
  refine hK' _ _ ?_
  clear hK' K' nnz3 bz4
  go_frame
  refine ls_ex (some 2) (.bool false) rfl rfl (exec_assign _ rfl (.bool false) rfl) ?_
  go_frame
  refine ls_ex (some 3) (.int .i64 0) rfl rfl (exec_assign _ rfl (.int .i64 0) rfl) ?_
  go_frame
  refine wpList_nil ?_
  go_upto_region 1 with (fail)
  refine wp_region_lit ?_
  refine ls_ex (some 6) (.agg #[.int .i64 p, .int .i64 a, .int .i64 b, .int .i64 d, .slice A xs.length c]) rfl rfl (exec_load_all 28 _ rfl w.heap.size rfl _ _ _ hz5 Try.underlying28 rfl 5 (by kernel_rfl) rfl) ?_
  go_frame
  refine ls_op rfl (fun K' hK' => ?_)
  have lz8 := hB.size
  have lz9 := hz5.lt
  refine wp_call1 (some 7) rfl 17 _ _ rfl (fun args w => by kernel_rfl) _ rfl _ (l05Is_c p a b d A c xs _ (hX.keep hB) (by omega)) (fun e Wz6 h => ?_)
  obtain ⟨rfl, bz7⟩ := h
  replace hB := below_after hB bz7
  replace hz5 := hz5.after bz7
  rw [Hs.out]
  clear bz7
  refine ⟨_, rfl, ?_⟩
  refine hK' _ _ ?_
  clear hK' K'
  go_frame
  refine ls_ex (some 8) (.bool true) rfl rfl (exec_not _ _ rfl false rfl) ?_
  go_frame
  refine wpList_nil ?_
  go_upto_region 2 with (fail)
  refine wp_region_lit ?_
  refine ls_ex (some 2) (.bool false) rfl rfl (exec_assign _ rfl (.bool false) rfl) ?_
  go_frame
  refine ls_ex (some 3) (.int .i64 1) rfl rfl (exec_assign _ rfl (.int .i64 1) rfl) ?_
  go_frame
  refine wpList_nil ?_
  go_wp2_with fail
  go_ret2
  exact ⟨by rw [HS.out, HC.out]; rfl, hB⟩
set_option maxHeartbeats 4000000 in
theorem specSi_y (p : Int) (a b d : Nat) (bB oB c N : Nat) (xs : List Int) (w : World) (hX : RdI w (some ⟨bB, oB, none⟩) xs) (hxl : xs.length = N) (hs : tenB p a b d xs = true) :
    Calls Try.prog 6 #[.agg #[.int .i64 p, .int .i64 a, .int .i64 b, .int .i64 d, .slice (some ⟨bB, oB, none⟩) N c]] w (fun e w' => e = .returned (.tuple #[.bool (siB p a b d xs), .int .i64 (siCode p a b d xs)]) ∧ Below w.heap.size w w') := by
  have hB := Below.refl w.heap.size w
  obtain ⟨R, hR⟩ : ∃ z9, siB p a b d xs = z9 := ⟨_, rfl⟩
  have HS := Lib.hid hR
  have HC : Hid (siCode p a b d xs = 0) := Lib.hid (by unfold siCode; rw [hs, if_pos rfl])
  have Hs := Lib.hid hs
  have HXl := Lib.hid hxl
  have hdm := (ten_parts hs).2
  have hNb : N ≤ 729 := by rw [← hxl, hdm.2.2.2.1]; exact Nat.le_trans (Nat.mul_le_mul (Nat.mul_le_mul hdm.1.2 hdm.2.1.2) hdm.2.2.1.2) (by decide)
  clear hR hs hxl hdm
  go_enter Try.func6, Try.ntmps6
  go_upto_region 0 with (fail)
  refine wp_region_lit ?_
  refine ls_op rfl (fun K' hK' => ?_)
  have lz1 := hB.size
  refine wp_new (some 1) rfl (exec_box 28 _ rfl (#[.int .i64 p, .int .i64 a, .int .i64 b, .int .i64 d, .slice (some ⟨bB, oB, none⟩) N c]) rfl) (fun Wz2 nnz3 => ?_)
  have bz4 := nnz3.below (Below.refl _ _) (Nat.le_refl _)
  replace hB := below_after hB bz4
  have hz5 : At Wz2 w.heap.size (.cells #[.int .i64 p, .int .i64 a, .int .i64 b, .int .i64 d, .slice (some ⟨bB, oB, none⟩) N c] 28 (0, 0)) := nnz3.at_
  refine hK' _ _ ?_
  clear hK' K' nnz3 bz4
  go_frame
  refine ls_ex (some 2) (.bool false) rfl rfl (exec_assign _ rfl (.bool false) rfl) ?_
  go_frame
  refine ls_ex (some 3) (.int .i64 0) rfl rfl (exec_assign _ rfl (.int .i64 0) rfl) ?_
  go_frame
  refine wpList_nil ?_
  go_upto_region 1 with (fail)
  refine wp_region_lit ?_
  refine ls_ex (some 6) (.agg #[.int .i64 p, .int .i64 a, .int .i64 b, .int .i64 d, .slice (some ⟨bB, oB, none⟩) N c]) rfl rfl (exec_load_all 28 _ rfl w.heap.size rfl _ _ _ hz5 Try.underlying28 rfl 5 (by kernel_rfl) rfl) ?_
  go_frame
  refine ls_op rfl (fun K' hK' => ?_)
  have lz8 := hB.size
  have lz9 := hz5.lt
  refine wp_call1 (some 7) rfl 17 _ _ rfl (fun args w => by kernel_rfl) _ rfl _ (l05IsN_c p a b d (some ⟨bB, oB, none⟩) N c xs _ HXl.out (hX.keep hB) (by omega)) (fun e Wz6 h => ?_)
  obtain ⟨rfl, bz7⟩ := h
  replace hB := below_after hB bz7
  replace hz5 := hz5.after bz7
  rw [Hs.out]
  clear bz7
  refine ⟨_, rfl, ?_⟩
  refine hK' _ _ ?_
  clear hK' K'
  go_frame
  refine ls_ex (some 8) (.bool false) rfl rfl (exec_not _ _ rfl true rfl) ?_
  go_frame
  refine wpList_nil ?_
  go_upto_region 3 with (fail)
  refine wp_region_lit ?_
  refine ls_ex (some 10) (.agg #[.int .i64 p, .int .i64 a, .int .i64 b, .int .i64 d, .slice (some ⟨bB, oB, none⟩) N c]) rfl rfl (exec_load_all 28 _ rfl w.heap.size rfl _ _ _ hz5 Try.underlying28 rfl 5 (by kernel_rfl) rfl) ?_
  go_frame
  refine ls_op rfl (fun K' hK' => ?_)
  have lz12 := hB.size
  have lz13 := hz5.lt
  refine wp_call1 (some 11) rfl 18 _ _ rfl (fun args w => by kernel_rfl) _ rfl _ (specFac_w p a b d bB oB c N xs R _ (hX.keep hB) HXl.out Hs.out HS.out) (fun e Wz10 h => ?_)
  obtain ⟨v9, rfl, bz11⟩ := h
  replace hB := below_after hB bz11
  replace hz5 := hz5.after bz11
  clear bz11
  refine ⟨_, rfl, ?_⟩
  refine hK' _ _ ?_
  clear hK' K'
  go_frame
  refine ls_ex (some 9) (.tuple #[v9, .bool R]) rfl rfl (exec_move _ rfl (.tuple #[v9, .bool R]) rfl) ?_
  go_frame
  refine ls_ex (some 12) (v9) rfl rfl (exec_extract _ 0 rfl #[v9, .bool R] (by rfl) _ rfl) ?_
  go_frame
  refine ls_ex (some 13) (.bool R) rfl rfl (exec_extract _ 1 rfl #[v9, .bool R] (by rfl) _ rfl) ?_
  go_frame
  refine ls_ex (some 4) (v9) rfl rfl (exec_assign _ rfl (v9) rfl) ?_
  go_frame
  refine ls_ex (some 5) (.bool R) rfl rfl (exec_assign _ rfl (.bool R) rfl) ?_
  go_frame
  refine wpList_nil ?_
  go_upto_region 4 with (fail)
  refine wp_region_lit ?_
  refine ls_ex (some 14) (.bool R) rfl rfl (exec_move _ rfl (.bool R) rfl) ?_
  go_frame
  refine ls_ex (some 2) (.bool R) rfl rfl (exec_assign _ rfl (.bool R) rfl) ?_
  go_frame
  refine ls_ex (some 3) (.int .i64 0) rfl rfl (exec_assign _ rfl (.int .i64 0) rfl) ?_
  go_frame
  refine wpList_nil ?_
  go_wp2_with fail
  go_ret2
  exact ⟨by rw [HS.out, HC.out]; rfl, hB⟩
theorem specIsSimple_c (p a b d : Int) (A : Option Addr) (c : Nat) (xs : List Int) (w : World) (hX : RdI w A xs) (hlen : xs.length ≤ 1048576) : Calls Try.prog 6 #[.agg #[.int .i64 p, .int .i64 a, .int .i64 b, .int .i64 d, .slice A xs.length c]] w (fun e w' => e = .returned (.tuple #[.bool (siB p a b d xs), .int .i64 (siCode p a b d xs)]) ∧ Below w.heap.size w w') := by
  rcases Bool.eq_false_or_eq_true (tenB p a b d xs) with hs | hs
  · obtain ⟨a, b, d, rfl, rfl, rfl⟩ := ten_natsS hs
    have h0 := (ten_parts hs).2
    have hpos : 0 < xs.length := by rw [h0.2.2.2.1]; exact Nat.mul_pos (Nat.mul_pos (by omega) (by omega)) (by omega)
    obtain ⟨bB, oB, rfl, _⟩ := hX.at_ (i := 0) hpos
    exact specSi_y p a b d bB oB c xs.length xs w hX rfl hs
  · exact specSi_a p a b d A c xs w hX hlen hs
theorem implFac_w (p : Int) (a b d : Nat) (bB oB c N : Nat) (xs : List Int) (R : Bool) (w : World) (hX : RdI w (some ⟨bB, oB, none⟩) xs) (hxl : xs.length = N) (hs : tenB p a b d xs = true) (hR : siB p a b d xs = R) :
    Calls Try.prog 21 #[.agg #[.int .i64 p, .int .i64 a, .int .i64 b, .int .i64 d, .slice (some ⟨bB, oB, none⟩) N c]] w fun e w' => ∃ v, e = .returned (.tuple #[v, .bool R]) ∧ Below w.heap.size w w' := by
  subst hR
  rcases nz_cases xs with hn | ⟨t0, ht⟩
  · refine (sfNo_c p a b d bB oB c N xs w hX hxl hs hn).mono ?_
    rintro e w' ⟨rfl, hb⟩
    exact ⟨_, by rw [siB_no hn], hb⟩
  · refine (sfYes_c p a b d bB oB c N xs w hX hxl hs t0 ht).mono ?_
    intro e w' h
    obtain ⟨g, gu, gv, gw, rfl, h⟩ := h
    exact ⟨_, by rw [siB_yes hs ht], h.2.2.2.2.2.2.2⟩
set_option maxHeartbeats 4000000 in
theorem implSi_a (p a b d : Int) (A : Option Addr) (c : Nat) (xs : List Int) (w : World) (hX : RdI w A xs) (hlen : xs.length ≤ 1048576) (hs : tenB p a b d xs = false) :
    Calls Try.prog 8 #[.agg #[.int .i64 p, .int .i64 a, .int .i64 b, .int .i64 d, .slice A xs.length c]] w (fun e w' => e = .returned (.tuple #[.bool (siB p a b d xs), .int .i64 (siCode p a b d xs)]) ∧ Below w.heap.size w w') := by
  have hB := Below.refl w.heap.size w
  have HS : Hid (siB p a b d xs = false) := Lib.hid (by unfold siB; rw [hs, Bool.false_and])
  have HC : Hid (siCode p a b d xs = 1) := Lib.hid (by unfold siCode; rw [hs]; rfl)
  have Hs := Lib.hid hs
  clear hs
  go_enter Try.func8, Try.ntmps8
  go_upto_region 0 with (fail)
  refine wp_region_lit ?_
  refine ls_op rfl (fun K' hK' => ?_)
  have lz1 := hB.size
  refine wp_new (some 1) rfl (exec_box 28 _ rfl (#[.int .i64 p, .int .i64 a, .int .i64 b, .int .i64 d, .slice A xs.length c]) rfl) (fun Wz2 nnz3 => ?_)
  have bz4 := nnz3.below (Below.refl _ _) (Nat.le_refl _)
  replace hB := below_after hB bz4
  have hz5 : At Wz2 w.heap.size (.cells #[.int .i64 p, .int .i64 a, .int .i64 b, .int .i64 d, .slice A xs.length c] 28 (0, 0)) := nnz3.at_
  refine hK' _ _ ?_
  clear hK' K' nnz3 bz4
  go_frame
  refine ls_ex (some 2) (.bool false) rfl rfl (exec_assign _ rfl (.bool false) rfl) ?_
  go_frame
  refine ls_ex (some 3) (.int .i64 0) rfl rfl (exec_assign _ rfl (.int .i64 0) rfl) ?_
  go_frame
  refine wpList_nil ?_
  go_upto_region 1 with (fail)
  refine wp_region_lit ?_
  refine ls_ex (some 6) (.agg #[.int .i64 p, .int .i64 a, .int .i64 b, .int .i64 d, .slice A xs.length c]) rfl rfl (exec_load_all 28 _ rfl w.heap.size rfl _ _ _ hz5 Try.underlying28 rfl 5 (by kernel_rfl) rfl) ?_
  go_frame
  refine ls_op rfl (fun K' hK' => ?_)
  have lz8 := hB.size
  have lz9 := hz5.lt
  refine wp_call1 (some 7) rfl 20 _ _ rfl (fun args w => by kernel_rfl) _ rfl _ (implIsTensor_c p a b d A c xs _ (hX.keep hB) (by omega)) (fun e Wz6 h => ?_)
  obtain ⟨rfl, bz7⟩ := h
  replace hB := below_after hB bz7
  replace hz5 := hz5.after bz7
  rw [Hs.out]
  clear bz7
  refine ⟨_, rfl, ?_⟩
  refine hK' _ _ ?_
  clear hK' K'
  go_frame
  refine ls_ex (some 8) (.bool true) rfl rfl (exec_not _ _ rfl false rfl) ?_
  go_frame
  refine wpList_nil ?_
  go_upto_region 2 with (fail)
  refine wp_region_lit ?_
  refine ls_ex (some 2) (.bool false) rfl rfl (exec_assign _ rfl (.bool false) rfl) ?_
  go_frame
  refine ls_ex (some 3) (.int .i64 1) rfl rfl (exec_assign _ rfl (.int .i64 1) rfl) ?_
  go_frame
  refine wpList_nil ?_
  go_wp2_with fail
  go_ret2
  exact ⟨by rw [HS.out, HC.out]; rfl, hB⟩
set_option maxHeartbeats 4000000 in
theorem implSi_y (p : Int) (a b d : Nat) (bB oB c N : Nat) (xs : List Int) (w : World) (hX : RdI w (some ⟨bB, oB, none⟩) xs) (hxl : xs.length = N) (hs : tenB p a b d xs = true) :
    Calls Try.prog 8 #[.agg #[.int .i64 p, .int .i64 a, .int .i64 b, .int .i64 d, .slice (some ⟨bB, oB, none⟩) N c]] w (fun e w' => e = .returned (.tuple #[.bool (siB p a b d xs), .int .i64 (siCode p a b d xs)]) ∧ Below w.heap.size w w') := by
  have hB := Below.refl w.heap.size w
  obtain ⟨R, hR⟩ : ∃ z9, siB p a b d xs = z9 := ⟨_, rfl⟩
  have HS := Lib.hid hR
  have HC : Hid (siCode p a b d xs = 0) := Lib.hid (by unfold siCode; rw [hs, if_pos rfl])
  have Hs := Lib.hid hs
  have HXl := Lib.hid hxl
  have hdm := (ten_parts hs).2
  have hNb : N ≤ 729 := by rw [← hxl, hdm.2.2.2.1]; exact Nat.le_trans (Nat.mul_le_mul (Nat.mul_le_mul hdm.1.2 hdm.2.1.2) hdm.2.2.1.2) (by decide)
  clear hR hs hxl hdm
  go_enter Try.func8, Try.ntmps8
  go_upto_region 0 with (fail)
  refine wp_region_lit ?_
  refine ls_op rfl (fun K' hK' => ?_)
  have lz1 := hB.size
  refine wp_new (some 1) rfl (exec_box 28 _ rfl (#[.int .i64 p, .int .i64 a, .int .i64 b, .int .i64 d, .slice (some ⟨bB, oB, none⟩) N c]) rfl) (fun Wz2 nnz3 => ?_)
  have bz4 := nnz3.below (Below.refl _ _) (Nat.le_refl _)
  replace hB := below_after hB bz4
  have hz5 : At Wz2 w.heap.size (.cells #[.int .i64 p, .int .i64 a, .int .i64 b, .int .i64 d, .slice (some ⟨bB, oB, none⟩) N c] 28 (0, 0)) := nnz3.at_
  refine hK' _ _ ?_
  clear hK' K' nnz3 bz4
  go_frame
  refine ls_ex (some 2) (.bool false) rfl rfl (exec_assign _ rfl (.bool false) rfl) ?_
  go_frame
  refine ls_ex (some 3) (.int .i64 0) rfl rfl (exec_assign _ rfl (.int .i64 0) rfl) ?_
  go_frame
  refine wpList_nil ?_
  go_upto_region 1 with (fail)
  refine wp_region_lit ?_
  refine ls_ex (some 6) (.agg #[.int .i64 p, .int .i64 a, .int .i64 b, .int .i64 d, .slice (some ⟨bB, oB, none⟩) N c]) rfl rfl (exec_load_all 28 _ rfl w.heap.size rfl _ _ _ hz5 Try.underlying28 rfl 5 (by kernel_rfl) rfl) ?_
  go_frame
  refine ls_op rfl (fun K' hK' => ?_)
  have lz8 := hB.size
  have lz9 := hz5.lt
  refine wp_call1 (some 7) rfl 20 _ _ rfl (fun args w => by kernel_rfl) _ rfl _ (implIsTensorN_c p a b d (some ⟨bB, oB, none⟩) N c xs _ HXl.out (hX.keep hB) (by omega)) (fun e Wz6 h => ?_)
  obtain ⟨rfl, bz7⟩ := h
  replace hB := below_after hB bz7
  replace hz5 := hz5.after bz7
  rw [Hs.out]
  clear bz7
  refine ⟨_, rfl, ?_⟩
  refine hK' _ _ ?_
  clear hK' K'
  go_frame
  refine ls_ex (some 8) (.bool false) rfl rfl (exec_not _ _ rfl true rfl) ?_
  go_frame
  refine wpList_nil ?_
  go_upto_region 3 with (fail)
  refine wp_region_lit ?_
  refine ls_ex (some 10) (.agg #[.int .i64 p, .int .i64 a, .int .i64 b, .int .i64 d, .slice (some ⟨bB, oB, none⟩) N c]) rfl rfl (exec_load_all 28 _ rfl w.heap.size rfl _ _ _ hz5 Try.underlying28 rfl 5 (by kernel_rfl) rfl) ?_
  go_frame
  refine ls_op rfl (fun K' hK' => ?_)
  have lz12 := hB.size
  have lz13 := hz5.lt
  refine wp_call1 (some 11) rfl 21 _ _ rfl (fun args w => by kernel_rfl) _ rfl _ (implFac_w p a b d bB oB c N xs R _ (hX.keep hB) HXl.out Hs.out HS.out) (fun e Wz10 h => ?_)
  obtain ⟨v9, rfl, bz11⟩ := h
  replace hB := below_after hB bz11
  replace hz5 := hz5.after bz11
  clear bz11
  refine ⟨_, rfl, ?_⟩
  refine hK' _ _ ?_
  clear hK' K'
  go_frame
  refine ls_ex (some 9) (.tuple #[v9, .bool R]) rfl rfl (exec_move _ rfl (.tuple #[v9, .bool R]) rfl) ?_
  go_frame
  refine ls_ex (some 12) (v9) rfl rfl (exec_extract _ 0 rfl #[v9, .bool R] (by rfl) _ rfl) ?_
  go_frame
  refine ls_ex (some 13) (.bool R) rfl rfl (exec_extract _ 1 rfl #[v9, .bool R] (by rfl) _ rfl) ?_
  go_frame
  refine ls_ex (some 4) (v9) rfl rfl (exec_assign _ rfl (v9) rfl) ?_
  go_frame
  refine ls_ex (some 5) (.bool R) rfl rfl (exec_assign _ rfl (.bool R) rfl) ?_
  go_frame
  refine wpList_nil ?_
  go_upto_region 4 with (fail)
  refine wp_region_lit ?_
  refine ls_ex (some 14) (.bool R) rfl rfl (exec_move _ rfl (.bool R) rfl) ?_
  go_frame
  refine ls_ex (some 2) (.bool R) rfl rfl (exec_assign _ rfl (.bool R) rfl) ?_
  go_frame
  refine ls_ex (some 3) (.int .i64 0) rfl rfl (exec_assign _ rfl (.int .i64 0) rfl) ?_
  go_frame
  refine wpList_nil ?_
  go_wp2_with fail
  go_ret2
  exact ⟨by rw [HS.out, HC.out]; rfl, hB⟩
theorem implIsSimple_c (p a b d : Int) (A : Option Addr) (c : Nat) (xs : List Int) (w : World) (hX : RdI w A xs) (hlen : xs.length ≤ 1048576) : Calls Try.prog 8 #[.agg #[.int .i64 p, .int .i64 a, .int .i64 b, .int .i64 d, .slice A xs.length c]] w (fun e w' => e = .returned (.tuple #[.bool (siB p a b d xs), .int .i64 (siCode p a b d xs)]) ∧ Below w.heap.size w w') := by
  rcases Bool.eq_false_or_eq_true (tenB p a b d xs) with hs | hs
  · obtain ⟨a, b, d, rfl, rfl, rfl⟩ := ten_natsS hs
    have h0 := (ten_parts hs).2
    have hpos : 0 < xs.length := by rw [h0.2.2.2.1]; exact Nat.mul_pos (Nat.mul_pos (by omega) (by omega)) (by omega)
    obtain ⟨bB, oB, rfl, _⟩ := hX.at_ (i := 0) hpos
    exact implSi_y p a b d bB oB c xs.length xs w hX rfl hs
  · exact implSi_a p a b d A c xs w hX hlen hs
end Go.Proofs.Ytcfgpjkdonidgaa
