/-
  A walk of flips with seeds: the plain function.
-/
import Derived.Test.YtkboenfloaagiaaWs1
namespace Go.Proofs.Ytkboenfloaagiaa
open Go.RowKit
set_option maxRecDepth 100000
theorem prime_two {p : Int} (hp : primeB p = true) : 2 ≤ p := by
  simp only [primeB, Bool.or_eq_true, beq_iff_eq] at hp
  omega
/-- The number behind another one. -/
def nxW (x : Nat) : Nat := x * 48271 % 2147483647
theorem nxW_lt (x : Nat) : nxW x < 2147483647 := Nat.mod_lt _ (by omega)
/-- A step of a walk: what becomes of the products. -/
def stepW (p : Int) (L : List (List Nat)) (x : Nat) : List (List Nat) :=
  if flB (L[nxW x % L.length]?.getD []) (L[nxW (nxW x) % L.length]?.getD []) (nxW x % L.length) (nxW (nxW x) % L.length) (nxW (nxW (nxW x)) % 3) = true ∧ L ≠ [] then
    flL p 1 L (nxW x % L.length) (nxW (nxW x) % L.length) (nxW (nxW (nxW x)) % 3) (L[nxW x % L.length]?.getD []) (L[nxW (nxW x) % L.length]?.getD [])
  else L
def wst (p : Int) (qs : List (List Nat)) (x : Nat) : Nat → List (List Nat) × Nat
  | 0 => (qs, x)
  | t + 1 => (stepW p (wst p qs x t).1 (wst p qs x t).2, nxW (nxW (nxW (wst p qs x t).2)))
theorem stepW_nil (p : Int) (x : Nat) : stepW p [] x = [] := by
  unfold stepW
  rw [if_neg (by simp)]
theorem wst_nil {p : Int} {qs : List (List Nat)} {x t T : Nat} (h : (wst p qs x t).1 = []) (hT : t ≤ T) : (wst p qs x T).1 = [] := by
  obtain ⟨d, rfl⟩ := Nat.le.dest hT
  clear hT
  induction d with
  | zero => exact h
  | succ d ih =>
    show stepW p (wst p qs x (t + d)).1 _ = []
    rw [ih, stepW_nil]
theorem flQ_bytes {p s : Int} {f : Nat} {Q R : List Nat} (hQ : Bytes 27 Q) (_ : Bytes 27 R) (hp : 2 ≤ p ∧ p ≤ 5) : Bytes 27 (flQ p s f Q R) :=
  withQ_bytes hQ (adF_bytes _ _ _ (by omega) (by omega)) (Nat.mod_lt _ (by omega))
theorem flR_bytes {p s : Int} {f : Nat} {Q R : List Nat} (_ : Bytes 27 Q) (hR : Bytes 27 R) (hp : 2 ≤ p ∧ p ≤ 5) : Bytes 27 (flR p s f Q R) :=
  withQ_bytes hR (adF_bytes _ _ _ (by omega) (by omega)) (Nat.mod_lt _ (by omega))
theorem flL_ok {p s : Int} {qs : List (List Nat)} {i j f : Nat} {Q R : List Nat} (h : ∀ q ∈ qs, Bytes 27 q) (hQ : Bytes 27 Q) (hR : Bytes 27 R) (hp : 2 ≤ p ∧ p ≤ 5) : (∀ q ∈ flL p s qs i j f Q R, Bytes 27 q) ∧ (flL p s qs i j f Q R).length ≤ qs.length := by
  refine ⟨fun q hq => ?_, ?_⟩
  · exact set_bytes27 (set_bytes27 h (flQ_bytes hQ hR hp)) (flR_bytes hQ hR hp) q (List.mem_filter.1 hq).1
  · refine Nat.le_trans (List.length_filter_le _ _) ?_
    rw [List.length_set, List.length_set]
    exact Nat.le_refl _
theorem stepW_ok {p : Int} {L : List (List Nat)} {x : Nat} (h : ∀ q ∈ L, Bytes 27 q) (hp : 2 ≤ p ∧ p ≤ 5) : (∀ q ∈ stepW p L x, Bytes 27 q) ∧ (stepW p L x).length ≤ L.length := by
  unfold stepW
  split
  · next hc =>
    have h0 : 0 < L.length := List.length_pos_iff.2 hc.2
    have hI := Nat.mod_lt (nxW x) h0
    have hJ := Nat.mod_lt (nxW (nxW x)) h0
    rw [List.getElem?_eq_getElem hI, List.getElem?_eq_getElem hJ]
    exact flL_ok h (h _ (List.getElem_mem hI)) (h _ (List.getElem_mem hJ)) hp
  · exact ⟨h, Nat.le_refl _⟩
theorem wst_ok {p : Int} {qs : List (List Nat)} {x : Nat} (h : ∀ q ∈ qs, Bytes 27 q) (hp : 2 ≤ p ∧ p ≤ 5) (hx : x < 2147483647) : ∀ t, (∀ q ∈ (wst p qs x t).1, Bytes 27 q) ∧ (wst p qs x t).1.length ≤ qs.length ∧ (wst p qs x t).2 < 2147483647
  | 0 => ⟨h, Nat.le_refl _, hx⟩
  | t + 1 => by
    obtain ⟨h1, h2, _⟩ := wst_ok h hp hx t
    obtain ⟨h3, h4⟩ := stepW_ok (x := (wst p qs x t).2) h1 hp
    exact ⟨h3, Nat.le_trans h4 h2, nxW_lt _⟩
theorem wst_yes {p : Int} {qs L : List (List Nat)} {sd x t : Nat} {I J F : Nat} {Q R : List Nat} (h : wst p qs sd t = (L, x)) (hI : nxW x % L.length = I) (hJ : nxW (nxW x) % L.length = J) (hF : nxW (nxW (nxW x)) % 3 = F) (hQ : L[I]? = some Q) (hR : L[J]? = some R) (hf : flB Q R I J F = true) :
    wst p qs sd (t + 1) = (flL p 1 L I J F Q R, nxW (nxW (nxW x))) := by
  show (stepW p (wst p qs sd t).1 (wst p qs sd t).2, nxW (nxW (nxW (wst p qs sd t).2))) = _
  rw [h]
  unfold stepW
  simp only
  rw [hI, hJ, hF, hQ, hR, Option.getD_some, Option.getD_some, if_pos ⟨hf, fun e => by rw [e] at hQ; simp at hQ⟩]
theorem wst_no {p : Int} {qs L : List (List Nat)} {sd x t : Nat} {I J F : Nat} {Q R : List Nat} (h : wst p qs sd t = (L, x)) (hI : nxW x % L.length = I) (hJ : nxW (nxW x) % L.length = J) (hF : nxW (nxW (nxW x)) % 3 = F) (hQ : L[I]? = some Q) (hR : L[J]? = some R) (hf : flB Q R I J F = false) :
    wst p qs sd (t + 1) = (L, nxW (nxW (nxW x))) := by
  show (stepW p (wst p qs sd t).1 (wst p qs sd t).2, nxW (nxW (nxW (wst p qs sd t).2))) = _
  rw [h]
  unfold stepW
  simp only
  rw [hI, hJ, hF, hQ, hR, Option.getD_some, Option.getD_some, if_neg (by rw [hf]; simp)]
theorem wst_none {p : Int} {qs : List (List Nat)} {sd x t : Nat} (h : wst p qs sd t = ([], x)) : wst p qs sd (t + 1) = ([], nxW (nxW (nxW x))) := by
  show (stepW p (wst p qs sd t).1 (wst p qs sd t).2, nxW (nxW (nxW (wst p qs sd t).2))) = _
  rw [h, stepW_nil]
/-- What spec makes of the two products is the same. -/
theorem fl_spec {p : Int} {f : Nat} {Q R : List Nat} (hQ : Bytes 27 Q) (hp : 2 ≤ p ∧ p ≤ 5) (hf : f < 3) : flR p 1 f Q R = withQ R ((f + 2) % 3) (adF p (-1) (facQ R ((f + 2) % 3)) (facQ Q ((f + 2) % 3))) := by
  unfold flR
  rw [show p - 1 = -1 + p by omega, adF_shift]
  have e : facQ (flQ p 1 f Q R) ((f + 2) % 3) = facQ Q ((f + 2) % 3) := by
    have hb := adF_bytes (p := p) 1 (facQ Q ((f + 1) % 3)) (facQ R ((f + 1) % 3)) (by omega) (by omega)
    unfold flQ
    generalize adF p 1 (facQ Q ((f + 1) % 3)) (facQ R ((f + 1) % 3)) = z at hb
    obtain ⟨A, B, C, rfl, hA, hB, hC⟩ := parts3 hQ
    unfold withQ facQ
    obtain rfl | rfl | rfl : f = 0 ∨ f = 1 ∨ f = 2 := by omega
    · simp only [show (0 + 1) % 3 = 1 from rfl, show (0 + 2) % 3 = 2 from rfl]
      rw [over_b hA.len hB.len hb.len, segm_c hA.len hb.len hC.len, segm_c hA.len hB.len hC.len]
    · simp only [show (1 + 1) % 3 = 2 from rfl, show (1 + 2) % 3 = 0 from rfl]
      rw [over_c hA.len hB.len hC.len hb.len, Nat.zero_mul, segm_a hA.len, segm_a hA.len]
    · simp only [show (2 + 1) % 3 = 0 from rfl, show (2 + 2) % 3 = 1 from rfl]
      rw [over_a hA.len hb.len, Nat.one_mul, segm_b hb.len hB.len, segm_b hA.len hB.len]
  rw [e]
def wsCode (p n m k : Int) (qs : List (List Nat)) (sd st : Int) : Int := if schemeB p n m k qs = true then (if (decide (1 ≤ sd) && decide (sd ≤ 2147483646) && (decide (0 ≤ st) && decide (st ≤ 200))) = true then 0 else 2) else 1
def wsZ (code x : Int) : Int := if code = 0 then x else 0
def wsL (code : Int) (l : List (List Nat)) : List (List Nat) := if code = 0 then l else []
theorem ws_bytes {p n m k sd st : Int} {qs : List (List Nat)} (h : ∀ q ∈ qs, Bytes 27 q) : ∀ r ∈ wsL (wsCode p n m k qs sd st) (wst p qs sd.toNat st.toNat).1, Bytes 27 r := by
  unfold wsL
  split
  · next hc =>
    unfold wsCode at hc
    split at hc
    · next hs =>
      split at hc
      · next hi =>
        simp only [Bool.and_eq_true, decide_eq_true_eq] at hi
        have h5 := primeB_5 (sizesB_parts (schemeB_sizes hs)).1
        have h2 := prime_two (sizesB_parts (schemeB_sizes hs)).1
        exact (wst_ok h ⟨h2, h5.2⟩ (by omega) _).1
      · omega
    · omega
  · intro r hr
    simp at hr
theorem ws_len {p n m k sd st : Int} {qs : List (List Nat)} (h : ∀ q ∈ qs, Bytes 27 q) : (wsL (wsCode p n m k qs sd st) (wst p qs sd.toNat st.toNat).1).length ≤ 1048576 := by
  unfold wsL
  split
  · next hc =>
    unfold wsCode at hc
    split at hc
    · next hs =>
      split at hc
      · next hi =>
        simp only [Bool.and_eq_true, decide_eq_true_eq] at hi
        have h5 := primeB_5 (sizesB_parts (schemeB_sizes hs)).1
        have h2 := prime_two (sizesB_parts (schemeB_sizes hs)).1
        have h3 := (wst_ok h ⟨h2, h5.2⟩ (by omega) st.toNat (x := sd.toNat)).2.1
        have h4 := schemeB_len hs
        omega
      · omega
    · omega
  · simp
end Go.Proofs.Ytkboenfloaagiaa
