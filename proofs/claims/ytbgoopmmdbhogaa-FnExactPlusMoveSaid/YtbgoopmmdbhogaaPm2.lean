/-
  spec.PlusMove. (Made by mkpm2.py.)
-/
import Derived.Test.YtbgoopmmdbhogaaPm1
namespace Go.Proofs.Ytbgoopmmdbhogaa
open Go.RowKit
set_option maxRecDepth 100000
def pmCode (p n m k : Int) (qs : List (List Nat)) (i j : Int) : Int := if schemeB p n m k qs then (if inI i qs.length && inI j qs.length then (if i = j then 5 else if qs.length = 30 then 3 else 0) else 2) else 1
def pmZ (p n m k : Int) (qs : List (List Nat)) (i j x : Int) : Int := if pmCode p n m k qs i j = 0 then x else 0
def pmR (p n m k : Int) (qs : List (List Nat)) (i j : Int) : List (List Nat) := if pmCode p n m k qs i j = 0 then pmQs p qs i.toNat j.toNat else []
theorem pmQs_good {p : Int} {qs : List (List Nat)} {i j : Nat} (hp : primeB p = true) (hq : ∀ q ∈ qs, Bytes 27 q) (hi : i < qs.length) (hj : j < qs.length) : (∀ q ∈ pmQs p qs i j, Bytes 27 q) ∧ (pmQs p qs i j).length ≤ qs.length + 1 := by
  have h5 := primeB_5 hp
  have hbi := hq _ (List.getElem_mem hi)
  have hbj := hq _ (List.getElem_mem hj)
  have s : ∀ {q : List Nat}, Bytes 27 q → Bytes 9 (segm q 0 9) ∧ Bytes 9 (segm q 9 9) ∧ Bytes 9 (segm q 18 9) := fun h => ⟨segm_bytes h (by omega), segm_bytes h (by omega), segm_bytes h (by omega)⟩
  rw [pmQs_eq p hi hj]
  constructor
  · intro q hm
    have hm := (List.mem_filter.1 hm).1
    rcases List.mem_append.1 hm with hm | hm
    · rcases List.mem_or_eq_of_mem_set hm with hm | rfl
      · rcases List.mem_or_eq_of_mem_set hm with hm | rfl
        · exact hq q hm
        · exact bytes3 (adF_bytes _ _ _ h5.1 h5.2) (s hbi).2.1 (s hbi).2.2
      · exact bytes3 (s hbj).1 (s hbi).2.1 (adF_bytes _ _ _ h5.1 h5.2)
    · obtain rfl := List.mem_singleton.1 hm
      exact bytes3 (s hbj).1 (adF_bytes _ _ _ h5.1 h5.2) (s hbj).2.2
  · refine Nat.le_trans (List.length_filter_le _ _) ?_
    simp
theorem pmR_good {p n m k : Int} {qs : List (List Nat)} {i j : Int} (hq : ∀ q ∈ qs, Bytes 27 q) : (∀ q ∈ pmR p n m k qs i j, Bytes 27 q) ∧ (pmR p n m k qs i j).length ≤ 31 := by
  unfold pmR
  split
  · rename_i h
    unfold pmCode at h
    split at h
    · rename_i hs
      split at h
      · rename_i hij
        simp only [Bool.and_eq_true] at hij
        obtain ⟨a, rfl, ha⟩ := inI_nat hij.1
        obtain ⟨b, rfl, hb⟩ := inI_nat hij.2
        have h1 := pmQs_good (sizesB_parts (schemeB_sizes hs)).1 hq ha hb
        have h2 := schemeB_len hs
        rw [Int.toNat_natCast, Int.toNat_natCast]
        exact ⟨h1.1, by omega⟩
      · simp at h
    · simp at h
  · simp
set_option maxHeartbeats 2000000 in
theorem specPlusMove_no (p n m k : Int) (g : Nat) (qs : List (List Nat)) (i j : Int) (w : World) (hR : Rd w (some ⟨g, 0, none⟩) qs) (hlen : qs.length ≤ 1048576) (hno : pmCode p n m k qs i j ≠ 0) :
    Calls Try.prog 14 #[.agg #[.int .i64 p, .int .i64 n, .int .i64 m, .int .i64 k, .slice (some ⟨g, 0, none⟩) qs.length qs.length], .int .i64 i, .int .i64 j] w (ResS w (pmZ p n m k qs i j p) (pmZ p n m k qs i j n) (pmZ p n m k qs i j m) (pmZ p n m k qs i j k) (pmR p n m k qs i j) (pmCode p n m k qs i j)) := by
  have HIs := Lib.hid (fun w hr => (l01Is_c p n m k (some ⟨g, 0, none⟩) qs.length qs w hr hlen))
  cases hs : schemeB p n m k qs with
  | false =>
    have Hs := Lib.hid hs
    have Hcode : Hid (pmCode p n m k qs i j = 1) := Lib.hid (by simp [pmCode, hs])
    have Hz : Hid (∀ x, pmZ p n m k qs i j x = 0) := Lib.hid (fun x => by simp [pmZ, Hcode.out])
    have Hr : Hid (pmR p n m k qs i j = []) := Lib.hid (by simp [pmR, Hcode.out])
    clear hs hno
    go_enter Try.func14, Try.ntmps14
    go_wp2_with (first | (refine wpList_abs2 ?_; intro W hsz hB h0 h1) | (refine wpList_load_all rfl 28 _ rfl w.heap.size rfl _ _ _ h0 Try.underlying28 rfl 5 (by kernel_rfl) rfl ?_))
    refine (HIs.out _ (hR.keep hB)).mono ?_
    rintro e w1 ⟨rfl, b1⟩
    rw [Hs.out]
    replace h0 := h0.after b1
    replace h1 := h1.after b1
    replace hB := below_after hB b1
    clear b1 hsz
    go_wp2_with (refine wpList_store_all rfl 28 _ _ rfl rfl (w.heap.size + 1) rfl _ rfl _ _ h1 5 (by kernel_rfl) rfl rfl (by simp [Value.oneCell']) ?_; intro W2 p2)
    refine bodyPost_ret (results_at2 rfl _ _ (w.heap.size + 1) _ _ _ rfl _ rfl p2.at_ Try.underlying28 rfl 5 (by kernel_rfl) rfl) rfl ?_
    exact ⟨.slice none 0 0, by rw [Hz.out, Hz.out, Hz.out, Hz.out, Hcode.out]; rfl, by rw [Hr.out]; exact Own.nil _ _, p2.below hB (by omega)⟩
  | true =>
    have Hs := Lib.hid hs
    have h31 := schemeB_len hs
    cases hin : (inI i qs.length && inI j qs.length) with
    | false =>
      have Hxs : Hid (([i, j].all fun x => inI x qs.length) = false) := Lib.hid (by simpa using hin)
      have Hcode : Hid (pmCode p n m k qs i j = 2) := Lib.hid (by simp [pmCode, hs, hin])
      have Hz : Hid (∀ x, pmZ p n m k qs i j x = 0) := Lib.hid (fun x => by simp [pmZ, Hcode.out])
      have Hr : Hid (pmR p n m k qs i j = []) := Lib.hid (by simp [pmR, Hcode.out])
      clear hs hno hin
      go_enter Try.func14, Try.ntmps14
      go_wp2_with (first | (refine wpList_abs2 ?_; intro W hsz hB h0 h1) | (refine wpList_load_all rfl 28 _ rfl w.heap.size rfl _ _ _ h0 Try.underlying28 rfl 5 (by kernel_rfl) rfl ?_))
      refine (HIs.out _ (hR.keep hB)).mono ?_
      rintro e w1 ⟨rfl, b1⟩
      rw [Hs.out]
      replace h0 := h0.after b1
      replace h1 := h1.after b1
      replace hB := below_after hB b1
      clear b1 hsz
      go_wp2_with (refine wpList_load_all rfl 28 _ rfl w.heap.size rfl _ _ _ h0 Try.underlying28 rfl 5 (by kernel_rfl) rfl ?_)
      have bx := below1 w1 (.cells #[.int .i64 i, .int .i64 j] 2 (0, 0))
      have hx : At (w1.alloc (.cells #[.int .i64 i, .int .i64 j] 2 (0, 0))) w1.heap.size (.cells #[.int .i64 i, .int .i64 j] 2 (0, 0)) := al1_0 _ _
      refine (l03Numbers_c p n m k (some ⟨g, 0, none⟩) qs.length qs.length w1.heap.size 2 [i, j] _ (by omega) (by simp) (fun t ht => ?_)).mono ?_
      · match t, ht with
        | 0, _ => exact hx.at_ 0
        | 1, _ => exact hx.at_ 1
      rintro e w2 ⟨rfl, b2⟩
      rw [Hxs.out]
      replace h0 := (h0.after bx).after b2
      replace h1 := (h1.after bx).after b2
      replace hB := below_after (below_after hB bx) b2
      clear b2 bx hx
      have c4 : w2.cell? ⟨w.heap.size, 4, none⟩ = some (.slice (some ⟨g, 0, none⟩) qs.length qs.length) := h0.at_ 4
      go_wp2_with (refine wpList_store_all rfl 28 _ _ rfl rfl (w.heap.size + 1) rfl _ rfl _ _ h1 5 (by kernel_rfl) rfl rfl (by simp [Value.oneCell']) ?_; intro W2 p2)
      refine bodyPost_ret (results_at2 rfl _ _ (w.heap.size + 1) _ _ _ rfl _ rfl p2.at_ Try.underlying28 rfl 5 (by kernel_rfl) rfl) rfl ?_
      exact ⟨.slice none 0 0, by rw [Hz.out, Hz.out, Hz.out, Hz.out, Hcode.out]; rfl, by rw [Hr.out]; exact Own.nil _ _, p2.below hB (by omega)⟩
    | true =>
      have Hxs : Hid (([i, j].all fun x => inI x qs.length) = true) := Lib.hid (by simpa using hin)
      by_cases hij : i = j
      · have e1 : (i == j) = true := by simp [hij]
        have hin' : inI i qs.length = true ∧ inI j qs.length = true := by simpa using hin
        have Hcode : Hid (pmCode p n m k qs i j = 5) := Lib.hid (by unfold pmCode; rw [if_pos hs, if_pos hin, if_pos hij])
        have Hz : Hid (∀ x, pmZ p n m k qs i j x = 0) := Lib.hid (fun x => by simp [pmZ, Hcode.out])
        have Hr : Hid (pmR p n m k qs i j = []) := Lib.hid (by simp [pmR, Hcode.out])
        clear hs hno hin hij
        go_enter Try.func14, Try.ntmps14
        go_wp2_with (first | (refine wpList_abs2 ?_; intro W hsz hB h0 h1) | (refine wpList_load_all rfl 28 _ rfl w.heap.size rfl _ _ _ h0 Try.underlying28 rfl 5 (by kernel_rfl) rfl ?_))
        refine (HIs.out _ (hR.keep hB)).mono ?_
        rintro e w1 ⟨rfl, b1⟩
        rw [Hs.out]
        replace h0 := h0.after b1
        replace h1 := h1.after b1
        replace hB := below_after hB b1
        clear b1 hsz
        go_wp2_with (refine wpList_load_all rfl 28 _ rfl w.heap.size rfl _ _ _ h0 Try.underlying28 rfl 5 (by kernel_rfl) rfl ?_)
        have bx := below1 w1 (.cells #[.int .i64 i, .int .i64 j] 2 (0, 0))
        have hx : At (w1.alloc (.cells #[.int .i64 i, .int .i64 j] 2 (0, 0))) w1.heap.size (.cells #[.int .i64 i, .int .i64 j] 2 (0, 0)) := al1_0 _ _
        refine (l03Numbers_c p n m k (some ⟨g, 0, none⟩) qs.length qs.length w1.heap.size 2 [i, j] _ (by omega) (by simp) (fun t ht => ?_)).mono ?_
        · match t, ht with
          | 0, _ => exact hx.at_ 0
          | 1, _ => exact hx.at_ 1
        rintro e w2 ⟨rfl, b2⟩
        rw [Hxs.out]
        replace h0 := (h0.after bx).after b2
        replace h1 := (h1.after bx).after b2
        replace hB := below_after (below_after hB bx) b2
        clear b2 bx hx
        have c4 : w2.cell? ⟨w.heap.size, 4, none⟩ = some (.slice (some ⟨g, 0, none⟩) qs.length qs.length) := h0.at_ 4
        go_wp2_with (refine wpList_store_all rfl 28 _ _ rfl rfl (w.heap.size + 1) rfl _ rfl _ _ h1 5 (by kernel_rfl) rfl rfl (by simp [Value.oneCell']) ?_; intro W2 p2)
        refine bodyPost_ret (results_at2 rfl _ _ (w.heap.size + 1) _ _ _ rfl _ rfl p2.at_ Try.underlying28 rfl 5 (by kernel_rfl) rfl) rfl ?_
        exact ⟨.slice none 0 0, by rw [Hz.out, Hz.out, Hz.out, Hz.out, Hcode.out]; rfl, by rw [Hr.out]; exact Own.nil _ _, p2.below hB (by omega)⟩
      · have e1 : (i == j) = false := by rw [beq_eq_false_iff_ne]; exact hij
        by_cases h30 : qs.length = 30
        · have e2 : ((qs.length : Int) == 30) = true := by simp; omega
          have Hcode : Hid (pmCode p n m k qs i j = 3) := Lib.hid (by unfold pmCode; rw [if_pos hs, if_pos hin, if_neg hij, if_pos h30])
          have Hz : Hid (∀ x, pmZ p n m k qs i j x = 0) := Lib.hid (fun x => by simp [pmZ, Hcode.out])
          have Hr : Hid (pmR p n m k qs i j = []) := Lib.hid (by simp [pmR, Hcode.out])
          clear hs hno hin hij h30
          go_enter Try.func14, Try.ntmps14
          go_wp2_with (first | (refine wpList_abs2 ?_; intro W hsz hB h0 h1) | (refine wpList_load_all rfl 28 _ rfl w.heap.size rfl _ _ _ h0 Try.underlying28 rfl 5 (by kernel_rfl) rfl ?_))
          refine (HIs.out _ (hR.keep hB)).mono ?_
          rintro e w1 ⟨rfl, b1⟩
          rw [Hs.out]
          replace h0 := h0.after b1
          replace h1 := h1.after b1
          replace hB := below_after hB b1
          clear b1 hsz
          go_wp2_with (refine wpList_load_all rfl 28 _ rfl w.heap.size rfl _ _ _ h0 Try.underlying28 rfl 5 (by kernel_rfl) rfl ?_)
          have bx := below1 w1 (.cells #[.int .i64 i, .int .i64 j] 2 (0, 0))
          have hx : At (w1.alloc (.cells #[.int .i64 i, .int .i64 j] 2 (0, 0))) w1.heap.size (.cells #[.int .i64 i, .int .i64 j] 2 (0, 0)) := al1_0 _ _
          refine (l03Numbers_c p n m k (some ⟨g, 0, none⟩) qs.length qs.length w1.heap.size 2 [i, j] _ (by omega) (by simp) (fun t ht => ?_)).mono ?_
          · match t, ht with
            | 0, _ => exact hx.at_ 0
            | 1, _ => exact hx.at_ 1
          rintro e w2 ⟨rfl, b2⟩
          rw [Hxs.out]
          replace h0 := (h0.after bx).after b2
          replace h1 := (h1.after bx).after b2
          replace hB := below_after (below_after hB bx) b2
          clear b2 bx hx
          have c4 : w2.cell? ⟨w.heap.size, 4, none⟩ = some (.slice (some ⟨g, 0, none⟩) qs.length qs.length) := h0.at_ 4
          go_wp2_with (refine wpList_store_all rfl 28 _ _ rfl rfl (w.heap.size + 1) rfl _ rfl _ _ h1 5 (by kernel_rfl) rfl rfl (by simp [Value.oneCell']) ?_; intro W2 p2)
          refine bodyPost_ret (results_at2 rfl _ _ (w.heap.size + 1) _ _ _ rfl _ rfl p2.at_ Try.underlying28 rfl 5 (by kernel_rfl) rfl) rfl ?_
          exact ⟨.slice none 0 0, by rw [Hz.out, Hz.out, Hz.out, Hz.out, Hcode.out]; rfl, by rw [Hr.out]; exact Own.nil _ _, p2.below hB (by omega)⟩
        · exact absurd (by simp [pmCode, hs, hin, hij, h30]) hno
theorem specPlusMove_c (p n m k : Int) (g : Nat) (qs : List (List Nat)) (i j : Int) (w : World) (hR : Rd w (some ⟨g, 0, none⟩) qs) (hlen : qs.length ≤ 1048576) :
    Calls Try.prog 14 #[.agg #[.int .i64 p, .int .i64 n, .int .i64 m, .int .i64 k, .slice (some ⟨g, 0, none⟩) qs.length qs.length], .int .i64 i, .int .i64 j] w (ResS w (pmZ p n m k qs i j p) (pmZ p n m k qs i j n) (pmZ p n m k qs i j m) (pmZ p n m k qs i j k) (pmR p n m k qs i j) (pmCode p n m k qs i j)) := by
  by_cases h0 : pmCode p n m k qs i j = 0
  · have hz : ∀ x, pmZ p n m k qs i j x = x := fun x => by simp [pmZ, h0]
    rw [hz, hz, hz, hz, h0]
    unfold pmR
    rw [if_pos h0]
    unfold pmCode at h0
    split at h0
    · rename_i hs
      split at h0
      · rename_i hin
        simp only [Bool.and_eq_true] at hin
        obtain ⟨a, rfl, ha⟩ := inI_nat hin.1
        obtain ⟨b, rfl, hb⟩ := inI_nat hin.2
        rw [Int.toNat_natCast, Int.toNat_natCast]
        split at h0
        · simp at h0
        · rename_i hne
          split at h0
          · simp at h0
          · rename_i h30
            exact specPlusMove_yes p n m k g 0 qs.length qs a b w hR hs ha hb (fun e => hne (by rw [e])) h30
      · simp at h0
    · simp at h0
  · exact specPlusMove_no p n m k g qs i j w hR hlen h0
end Go.Proofs.Ytbgoopmmdbhogaa
