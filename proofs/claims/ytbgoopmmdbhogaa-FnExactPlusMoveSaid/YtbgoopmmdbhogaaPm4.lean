/-
  impl.PlusMove. (Made by mkpm4.py.)
-/
import Derived.Test.YtbgoopmmdbhogaaPm3
namespace Go.Proofs.Ytbgoopmmdbhogaa
open Go.RowKit
set_option maxRecDepth 100000
set_option maxHeartbeats 2000000 in
theorem implPlusMove_no (p n m k : Int) (g : Nat) (qs : List (List Nat)) (i j : Int) (w : World) (hR : Rd w (some ⟨g, 0, none⟩) qs) (hlen : qs.length ≤ 1048576) (hno : pmCode p n m k qs i j ≠ 0) :
    Calls Try.prog 15 #[.agg #[.int .i64 p, .int .i64 n, .int .i64 m, .int .i64 k, .slice (some ⟨g, 0, none⟩) qs.length qs.length], .int .i64 i, .int .i64 j] w (ResS w (pmZ p n m k qs i j p) (pmZ p n m k qs i j n) (pmZ p n m k qs i j m) (pmZ p n m k qs i j k) (pmR p n m k qs i j) (pmCode p n m k qs i j)) := by
  have HIs := Lib.hid (fun w hr => (implIsScheme_c p n m k (some ⟨g, 0, none⟩) qs.length qs w hr hlen))
  cases hs : schemeB p n m k qs with
  | false =>
    have Hs := Lib.hid hs
    have Hcode : Hid (pmCode p n m k qs i j = 1) := Lib.hid (by simp [pmCode, hs])
    have Hz : Hid (∀ x, pmZ p n m k qs i j x = 0) := Lib.hid (fun x => by simp [pmZ, Hcode.out])
    have Hr : Hid (pmR p n m k qs i j = []) := Lib.hid (by simp [pmR, Hcode.out])
    clear hs hno
    go_enter Try.func15, Try.ntmps15
    go_wp2_with (first | (refine wpList_abs2 ?_; intro W hsz hB h0 h1) | (refine wpList_load_all rfl 28 _ rfl w.heap.size rfl _ _ _ h0 Try.underlying28 rfl 5 (by kernel_rfl) rfl ?_))
    refine (HIs.out _ (hR.keep hB)).mono ?_
    rintro e w1 ⟨rfl, b1⟩
    rw [Hs.out]
    clear hsz
    replace h0 := h0.after b1
    replace h1 := h1.after b1
    replace hB := below_after hB b1
    clear b1
    go_wp2_with (refine wpList_store_all rfl 28 _ _ rfl rfl (w.heap.size + 1) rfl _ rfl _ _ h1 5 (by kernel_rfl) rfl rfl (by simp [Value.oneCell']) ?_; intro W2 p2)
    refine bodyPost_ret (results_at2 rfl _ _ (w.heap.size + 1) _ _ _ rfl _ rfl p2.at_ Try.underlying28 rfl 5 (by kernel_rfl) rfl) rfl ?_
    exact ⟨.slice none 0 0, by rw [Hz.out, Hz.out, Hz.out, Hz.out, Hcode.out]; rfl, by rw [Hr.out]; exact Own.nil _ _, p2.below hB (by omega)⟩
  | true =>
    have Hs := Lib.hid hs
    have h31 := schemeB_len hs
    cases hi : inI i qs.length with
    | false =>
      have Hi := Lib.hid hi
      have Hcode : Hid (pmCode p n m k qs i j = 2) := Lib.hid (by simp [pmCode, hs, hi])
      have Hz : Hid (∀ x, pmZ p n m k qs i j x = 0) := Lib.hid (fun x => by simp [pmZ, Hcode.out])
      have Hr : Hid (pmR p n m k qs i j = []) := Lib.hid (by simp [pmR, Hcode.out])
      clear hs hno hi
      go_enter Try.func15, Try.ntmps15
      go_wp2_with (first | (refine wpList_abs2 ?_; intro W hsz hB h0 h1) | (refine wpList_load_all rfl 28 _ rfl w.heap.size rfl _ _ _ h0 Try.underlying28 rfl 5 (by kernel_rfl) rfl ?_))
      refine (HIs.out _ (hR.keep hB)).mono ?_
      rintro e w1 ⟨rfl, b1⟩
      rw [Hs.out]
      clear hsz
      replace h0 := h0.after b1
      replace h1 := h1.after b1
      replace hB := below_after hB b1
      clear b1
      go_wp2_with (refine wpList_load_all rfl 28 _ rfl w.heap.size rfl _ _ _ h0 Try.underlying28 rfl 5 (by kernel_rfl) rfl ?_)
      refine (isProductIndex_c p n m k (some ⟨g, 0, none⟩) qs.length qs.length i _).mono ?_
      rintro e w2 ⟨rfl, b1⟩
      rw [Hi.out]
      replace h0 := h0.after b1
      replace h1 := h1.after b1
      replace hB := below_after hB b1
      clear b1
      go_wp2_with (refine wpList_store_all rfl 28 _ _ rfl rfl (w.heap.size + 1) rfl _ rfl _ _ h1 5 (by kernel_rfl) rfl rfl (by simp [Value.oneCell']) ?_; intro W2 p2)
      refine bodyPost_ret (results_at2 rfl _ _ (w.heap.size + 1) _ _ _ rfl _ rfl p2.at_ Try.underlying28 rfl 5 (by kernel_rfl) rfl) rfl ?_
      exact ⟨.slice none 0 0, by rw [Hz.out, Hz.out, Hz.out, Hz.out, Hcode.out]; rfl, by rw [Hr.out]; exact Own.nil _ _, p2.below hB (by omega)⟩
    | true =>
      have Hi := Lib.hid hi
      cases hj : inI j qs.length with
      | false =>
        have Hj := Lib.hid hj
        have Hcode : Hid (pmCode p n m k qs i j = 2) := Lib.hid (by simp [pmCode, hs, hi, hj])
        have Hz : Hid (∀ x, pmZ p n m k qs i j x = 0) := Lib.hid (fun x => by simp [pmZ, Hcode.out])
        have Hr : Hid (pmR p n m k qs i j = []) := Lib.hid (by simp [pmR, Hcode.out])
        clear hs hno hi hj
        go_enter Try.func15, Try.ntmps15
        go_wp2_with (first | (refine wpList_abs2 ?_; intro W hsz hB h0 h1) | (refine wpList_load_all rfl 28 _ rfl w.heap.size rfl _ _ _ h0 Try.underlying28 rfl 5 (by kernel_rfl) rfl ?_))
        refine (HIs.out _ (hR.keep hB)).mono ?_
        rintro e w1 ⟨rfl, b1⟩
        rw [Hs.out]
        clear hsz
        replace h0 := h0.after b1
        replace h1 := h1.after b1
        replace hB := below_after hB b1
        clear b1
        go_wp2_with (refine wpList_load_all rfl 28 _ rfl w.heap.size rfl _ _ _ h0 Try.underlying28 rfl 5 (by kernel_rfl) rfl ?_)
        refine (isProductIndex_c p n m k (some ⟨g, 0, none⟩) qs.length qs.length i _).mono ?_
        rintro e w2 ⟨rfl, b1⟩
        rw [Hi.out]
        replace h0 := h0.after b1
        replace h1 := h1.after b1
        replace hB := below_after hB b1
        clear b1
        go_wp2_with (refine wpList_want_exec rfl (exec_load_all 28 _ rfl w.heap.size rfl _ _ _ h0 Try.underlying28 rfl 5 (by kernel_rfl) rfl) ?_)
        refine (isProductIndex_c p n m k (some ⟨g, 0, none⟩) qs.length qs.length j _).mono ?_
        rintro e w3 ⟨rfl, b1⟩
        rw [Hj.out]
        replace h0 := h0.after b1
        replace h1 := h1.after b1
        replace hB := below_after hB b1
        clear b1
        go_wp2_with (refine wpList_store_all rfl 28 _ _ rfl rfl (w.heap.size + 1) rfl _ rfl _ _ h1 5 (by kernel_rfl) rfl rfl (by simp [Value.oneCell']) ?_; intro W2 p2)
        refine bodyPost_ret (results_at2 rfl _ _ (w.heap.size + 1) _ _ _ rfl _ rfl p2.at_ Try.underlying28 rfl 5 (by kernel_rfl) rfl) rfl ?_
        exact ⟨.slice none 0 0, by rw [Hz.out, Hz.out, Hz.out, Hz.out, Hcode.out]; rfl, by rw [Hr.out]; exact Own.nil _ _, p2.below hB (by omega)⟩
      | true =>
        have Hj := Lib.hid hj
        by_cases hij : i = j
        · have e1 : (i == j) = true := by simp [hij]
          have Hcode : Hid (pmCode p n m k qs i j = 5) := Lib.hid (by unfold pmCode; rw [if_pos hs, if_pos (by rw [hi, hj]; rfl), if_pos hij])
          have Hz : Hid (∀ x, pmZ p n m k qs i j x = 0) := Lib.hid (fun x => by simp [pmZ, Hcode.out])
          have Hr : Hid (pmR p n m k qs i j = []) := Lib.hid (by simp [pmR, Hcode.out])
          clear hs hno hi hj hij
          go_enter Try.func15, Try.ntmps15
          go_wp2_with (first | (refine wpList_abs2 ?_; intro W hsz hB h0 h1) | (refine wpList_load_all rfl 28 _ rfl w.heap.size rfl _ _ _ h0 Try.underlying28 rfl 5 (by kernel_rfl) rfl ?_))
          refine (HIs.out _ (hR.keep hB)).mono ?_
          rintro e w1 ⟨rfl, b1⟩
          rw [Hs.out]
          clear hsz
          replace h0 := h0.after b1
          replace h1 := h1.after b1
          replace hB := below_after hB b1
          clear b1
          go_wp2_with (refine wpList_load_all rfl 28 _ rfl w.heap.size rfl _ _ _ h0 Try.underlying28 rfl 5 (by kernel_rfl) rfl ?_)
          refine (isProductIndex_c p n m k (some ⟨g, 0, none⟩) qs.length qs.length i _).mono ?_
          rintro e w2 ⟨rfl, b1⟩
          rw [Hi.out]
          replace h0 := h0.after b1
          replace h1 := h1.after b1
          replace hB := below_after hB b1
          clear b1
          go_wp2_with (refine wpList_want_exec rfl (exec_load_all 28 _ rfl w.heap.size rfl _ _ _ h0 Try.underlying28 rfl 5 (by kernel_rfl) rfl) ?_)
          refine (isProductIndex_c p n m k (some ⟨g, 0, none⟩) qs.length qs.length j _).mono ?_
          rintro e w3 ⟨rfl, b1⟩
          rw [Hj.out]
          replace h0 := h0.after b1
          replace h1 := h1.after b1
          replace hB := below_after hB b1
          clear b1
          go_wp2_with (refine wpList_store_all rfl 28 _ _ rfl rfl (w.heap.size + 1) rfl _ rfl _ _ h1 5 (by kernel_rfl) rfl rfl (by simp [Value.oneCell']) ?_; intro W2 p2)
          refine bodyPost_ret (results_at2 rfl _ _ (w.heap.size + 1) _ _ _ rfl _ rfl p2.at_ Try.underlying28 rfl 5 (by kernel_rfl) rfl) rfl ?_
          exact ⟨.slice none 0 0, by rw [Hz.out, Hz.out, Hz.out, Hz.out, Hcode.out]; rfl, by rw [Hr.out]; exact Own.nil _ _, p2.below hB (by omega)⟩
        · have e1 : (i == j) = false := by rw [beq_eq_false_iff_ne]; exact hij
          by_cases h30 : qs.length = 30
          · have e2 : ((qs.length : Int) == 30) = true := by simp; omega
            have Hcode : Hid (pmCode p n m k qs i j = 3) := Lib.hid (by unfold pmCode; rw [if_pos hs, if_pos (by rw [hi, hj]; rfl), if_neg hij, if_pos h30])
            have Hz : Hid (∀ x, pmZ p n m k qs i j x = 0) := Lib.hid (fun x => by simp [pmZ, Hcode.out])
            have Hr : Hid (pmR p n m k qs i j = []) := Lib.hid (by simp [pmR, Hcode.out])
            clear hs hno hi hj hij h30
            go_enter Try.func15, Try.ntmps15
            go_wp2_with (first | (refine wpList_abs2 ?_; intro W hsz hB h0 h1) | (refine wpList_load_all rfl 28 _ rfl w.heap.size rfl _ _ _ h0 Try.underlying28 rfl 5 (by kernel_rfl) rfl ?_))
            refine (HIs.out _ (hR.keep hB)).mono ?_
            rintro e w1 ⟨rfl, b1⟩
            rw [Hs.out]
            clear hsz
            replace h0 := h0.after b1
            replace h1 := h1.after b1
            replace hB := below_after hB b1
            clear b1
            go_wp2_with (refine wpList_load_all rfl 28 _ rfl w.heap.size rfl _ _ _ h0 Try.underlying28 rfl 5 (by kernel_rfl) rfl ?_)
            refine (isProductIndex_c p n m k (some ⟨g, 0, none⟩) qs.length qs.length i _).mono ?_
            rintro e w2 ⟨rfl, b1⟩
            rw [Hi.out]
            replace h0 := h0.after b1
            replace h1 := h1.after b1
            replace hB := below_after hB b1
            clear b1
            go_wp2_with (refine wpList_want_exec rfl (exec_load_all 28 _ rfl w.heap.size rfl _ _ _ h0 Try.underlying28 rfl 5 (by kernel_rfl) rfl) ?_)
            refine (isProductIndex_c p n m k (some ⟨g, 0, none⟩) qs.length qs.length j _).mono ?_
            rintro e w3 ⟨rfl, b1⟩
            rw [Hj.out]
            replace h0 := h0.after b1
            replace h1 := h1.after b1
            replace hB := below_after hB b1
            clear b1
            have c4 : w3.cell? ⟨w.heap.size, 4, none⟩ = some (.slice (some ⟨g, 0, none⟩) qs.length qs.length) := h0.at_ 4
            go_wp2_with (refine wpList_store_all rfl 28 _ _ rfl rfl (w.heap.size + 1) rfl _ rfl _ _ h1 5 (by kernel_rfl) rfl rfl (by simp [Value.oneCell']) ?_; intro W2 p2)
            refine bodyPost_ret (results_at2 rfl _ _ (w.heap.size + 1) _ _ _ rfl _ rfl p2.at_ Try.underlying28 rfl 5 (by kernel_rfl) rfl) rfl ?_
            exact ⟨.slice none 0 0, by rw [Hz.out, Hz.out, Hz.out, Hz.out, Hcode.out]; rfl, by rw [Hr.out]; exact Own.nil _ _, p2.below hB (by omega)⟩
          · exact absurd (by simp [pmCode, hs, hi, hj, hij, h30]) hno
theorem implPlusMove_c (p n m k : Int) (g : Nat) (qs : List (List Nat)) (i j : Int) (w : World) (hR : Rd w (some ⟨g, 0, none⟩) qs) (hlen : qs.length ≤ 1048576) :
    Calls Try.prog 15 #[.agg #[.int .i64 p, .int .i64 n, .int .i64 m, .int .i64 k, .slice (some ⟨g, 0, none⟩) qs.length qs.length], .int .i64 i, .int .i64 j] w (ResS w (pmZ p n m k qs i j p) (pmZ p n m k qs i j n) (pmZ p n m k qs i j m) (pmZ p n m k qs i j k) (pmR p n m k qs i j) (pmCode p n m k qs i j)) := by
  by_cases h0 : pmCode p n m k qs i j = 0
  · have hz : ∀ x, pmZ p n m k qs i j x = x := fun x => by simp [pmZ, h0]
    rw [hz, hz, hz, hz, h0]
    unfold pmR
    rw [if_pos h0]
    unfold pmCode at h0
    split at h0
    · rename_i hs
      split at h0
      · rename_i hin
        simp only [Bool.and_eq_true] at hin
        obtain ⟨a, rfl, ha⟩ := inI_nat hin.1
        obtain ⟨b, rfl, hb⟩ := inI_nat hin.2
        rw [Int.toNat_natCast, Int.toNat_natCast]
        split at h0
        · simp at h0
        · rename_i hne
          split at h0
          · simp at h0
          · rename_i h30
            exact implPlusMove_yes p n m k g qs a b w hR hs ha hb (fun e => hne (by rw [e])) h30
      · simp at h0
    · simp at h0
  · exact implPlusMove_no p n m k g qs i j w hR hlen h0
end Go.Proofs.Ytbgoopmmdbhogaa
