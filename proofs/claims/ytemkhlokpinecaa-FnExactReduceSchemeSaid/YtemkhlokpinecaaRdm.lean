/-
  Reducing: plain functions: forms of numbers modulo p, products in normal form.
-/
import Derived.Test.YtemkhlokpinecaaMra
import Derived.Test.YtemkhlokpinecaaNrm0
import Derived.Test.YtemkhlokpinecaaNrm4
namespace Go.Proofs.Ytemkhlokpinecaa
open Go.RowKit
set_option maxRecDepth 100000
/-- A form of numbers modulo p. -/
def FmP (p : Int) (f : List Nat) : Prop := f.length = 9 ∧ ∀ i, i < 9 → ((f[i]?.getD 0 : Nat) : Int) < p
theorem fm_ext {f g : List Nat} (hf : f.length = 9) (hg : g.length = 9) (h : ∀ i, i < 9 → f[i]?.getD 0 = g[i]?.getD 0) : f = g := by
  apply List.ext_getElem (by omega)
  intro i h1 h2
  have := h i (by omega)
  simpa [h1, h2] using this
theorem rep_get {i : Nat} (_ : i < 9) : (List.replicate 9 (0 : Nat))[i]?.getD 0 = 0 := by
  rw [List.getElem?_replicate]
  split <;> rfl
theorem zero_get {f : List Nat} (h : zeroB f = true) {i : Nat} (hi : i < 9) : f[i]?.getD 0 = 0 := by
  have e : f = List.replicate 9 0 := by simpa [zeroB] using h
  rw [e, rep_get hi]
theorem zero_all {f : List Nat} (hf : f.length = 9) (h : ∀ i, i < 9 → f[i]?.getD 0 = 0) : zeroB f = true := by
  have e : f = List.replicate 9 0 := fm_ext hf (by simp) (fun i hi => by rw [h i hi, rep_get hi])
  rw [e]
  rfl
theorem zero_no {f : List Nat} (hf : f.length = 9) (h : zeroB f = false) : ∃ i, i < 9 ∧ f[i]?.getD 0 ≠ 0 := by
  by_cases hh : ∃ i, i < 9 ∧ f[i]?.getD 0 ≠ 0
  · exact hh
  · have := zero_all hf (fun i hi => by
      by_cases h0 : f[i]?.getD 0 = 0
      · exact h0
      · exact absurd ⟨i, hi, h0⟩ hh)
    rw [this] at h
    cases h
theorem zero_yes {f : List Nat} {i : Nat} (hi : i < 9) (hn : f[i]?.getD 0 ≠ 0) : zeroB f = false := by
  rw [Bool.eq_false_iff]
  exact fun hz => hn (zero_get hz hi)
theorem leadAt_hit {f : List Nat} {i : Nat} (hn : f[i]?.getD 0 ≠ 0) : ∀ n k, k ≤ i → i < k + n → (∀ j, k ≤ j → j < i → f[j]?.getD 0 = 0) → leadAt f k n = f[i]?.getD 0
  | 0, k, h1, h2, _ => by omega
  | n + 1, k, h1, h2, hz => by
    unfold leadAt
    by_cases e : k = i
    · subst e
      rw [if_neg hn]
    · rw [if_pos (hz k (Nat.le_refl _) (by omega))]
      exact leadAt_hit hn n (k + 1) (by omega) (by omega) (fun j h3 h4 => hz j (by omega) h4)
theorem lead_hit {f : List Nat} {i : Nat} (hi : i < 9) (hz : ∀ j, j < i → f[j]?.getD 0 = 0) (hn : f[i]?.getD 0 ≠ 0) : lead f = f[i]?.getD 0 :=
  leadAt_hit hn 9 0 (by omega) (by omega) (fun j _ h => hz j h)
theorem lead_ex {f : List Nat} (hf : f.length = 9) (h : zeroB f = false) : ∃ i, i < 9 ∧ (∀ j, j < i → f[j]?.getD 0 = 0) ∧ f[i]?.getD 0 = lead f ∧ lead f ≠ 0 := by
  obtain ⟨i, hi, hn⟩ := zero_no hf h
  obtain ⟨i1, _, _, h1, h2⟩ := leadAt_of 9 0 ⟨i, by omega, by omega, hn⟩
  have hl : lead f ≠ 0 := by unfold lead; rw [h1]; exact h2
  obtain ⟨i2, _, h3, h4, h5⟩ := lead_at 9 0 hl
  exact ⟨i2, by omega, fun j hj => h4 j (by omega) hj, h5, hl⟩
theorem sc_get {p k : Int} {f : List Nat} (hp : 0 < p) {i : Nat} (hi : i < 9) : (((scF p k f)[i]?.getD 0 : Nat) : Int) = (k * ((f[i]?.getD 0 : Nat) : Int)) % p := by
  unfold scF
  rw [adF_get _ _ _ _ hi, ad1_cast _ _ _ hp, rep_get hi]
  simp
theorem ad_get {p k : Int} {f g : List Nat} (hp : 0 < p) {i : Nat} (hi : i < 9) : (((adF p k f g)[i]?.getD 0 : Nat) : Int) = (((f[i]?.getD 0 : Nat) : Int) + k * ((g[i]?.getD 0 : Nat) : Int)) % p := by
  rw [adF_get _ _ _ _ hi, ad1_cast _ _ _ hp]
theorem ad_fm {p : Int} (k : Int) (f g : List Nat) (hp : 0 < p) : FmP p (adF p k f g) := ⟨adF_len _ _ _ _, fun i hi => by rw [ad_get hp hi]; exact Int.emod_lt_of_pos _ hp⟩
theorem pm_zero {p k x : Int} (hp : primeB p = true) (hk : k % p ≠ 0) (hx : 0 ≤ x ∧ x < p) (h : k * x % p = 0) : x = 0 := by
  simp only [primeB, Bool.or_eq_true, beq_iff_eq] at hp
  rw [Int.mul_emod, Int.emod_eq_of_lt hx.1 hx.2] at h
  have h1 := Int.emod_nonneg k (show p ≠ 0 by omega)
  have h2 := Int.emod_lt_of_pos k (show 0 < p by omega)
  generalize k % p = m at *
  rcases hp with (rfl | rfl) | rfl
  · obtain rfl : m = 1 := by omega
    omega
  · rcases (show m = 1 ∨ m = 2 by omega) with rfl | rfl <;> omega
  · rcases (show m = 1 ∨ m = 2 ∨ m = 3 ∨ m = 4 by omega) with rfl | rfl | rfl | rfl <;> omega
theorem sc_zero {p k : Int} {f : List Nat} (hp : primeB p = true) (hf : FmP p f) (hk : k % p ≠ 0) : zeroB (scF p k f) = zeroB f := by
  have hp0 := (primeB_5 hp).1
  cases hz : zeroB f with
  | true => exact zero_all (adF_len _ _ _ _) (fun i hi => by have h := sc_get (k := k) (f := f) hp0 hi; rw [zero_get hz hi] at h; simp at h; omega)
  | false =>
    obtain ⟨i, hi, hn⟩ := zero_no hf.1 hz
    refine zero_yes hi (fun h0 => hn ?_)
    have h := sc_get (k := k) (f := f) hp0 hi
    rw [h0] at h
    have := pm_zero hp hk ⟨by omega, hf.2 i hi⟩ (by omega)
    omega
theorem lead_p {p : Int} {f : List Nat} (hf : FmP p f) (hz : zeroB f = false) : 1 ≤ (lead f : Int) ∧ (lead f : Int) < p := by
  obtain ⟨i, hi, _, hv, hn⟩ := lead_ex hf.1 hz
  have := hf.2 i hi
  omega
theorem sc_lead {p : Int} {f : List Nat} (hp : primeB p = true) (hf : FmP p f) (hz : zeroB f = false) : lead (scF p (inv p (lead f)) f) = 1 := by
  have hp0 := (primeB_5 hp).1
  obtain ⟨l1, l2⟩ := lead_p hf hz
  obtain ⟨i, hi, hz0, hv, hn⟩ := lead_ex hf.1 hz
  have hi1 := inv_test hp l1 l2 (inv_range hp l1 l2).1 (Int.le_refl _)
  have h1 : (((scF p (inv p (lead f)) f)[i]?.getD 0 : Nat) : Int) = 1 := by
    rw [sc_get hp0 hi, hv]
    simpa using hi1
  rw [lead_hit hi (fun j hj => by have h := sc_get (k := inv p (lead f)) (f := f) hp0 (show j < 9 by omega); rw [hz0 j hj] at h; simp at h; omega) (by omega)]
  omega
theorem sc_one {p : Int} {f : List Nat} (hp : primeB p = true) (hf : FmP p f) : scF p 1 f = f :=
  fm_ext (adF_len _ _ _ _) hf.1 (fun i hi => by
    have h := sc_get (k := 1) (f := f) (primeB_5 hp).1 hi
    have := hf.2 i hi
    rw [Int.one_mul, Int.emod_eq_of_lt (by omega) this] at h
    omega)
theorem inv_one {p : Int} (hp : primeB p = true) : inv p 1 = 1 := by
  simp only [primeB, Bool.or_eq_true, beq_iff_eq] at hp
  rcases hp with (rfl | rfl) | rfl <;> decide
/-- A product in normal form. -/
structure GR (p : Int) (q : List Nat) : Prop where
  b : Bytes 27 q
  f0 : FmP p (segm q 0 9)
  f1 : FmP p (segm q 9 9)
  f2 : FmP p (segm q 18 9)
  z : nzB q = true
  l0 : lead (segm q 0 9) = 1
  l1 : lead (segm q 9 9) = 1
/-- A product of forms of numbers modulo p, the first two other than 0. -/
structure HR (p : Int) (q : List Nat) : Prop where
  b : Bytes 27 q
  f0 : FmP p (segm q 0 9)
  f1 : FmP p (segm q 9 9)
  f2 : FmP p (segm q 18 9)
  z0 : zeroB (segm q 0 9) = false
  z1 : zeroB (segm q 9 9) = false
theorem nz_parts {q : List Nat} (h : nzB q = true) : zeroB (segm q 0 9) = false ∧ zeroB (segm q 9 9) = false ∧ zeroB (segm q 18 9) = false := by
  simp only [nzB, Bool.and_eq_true, Bool.not_eq_true'] at h
  exact ⟨h.1.1, h.1.2, h.2⟩
theorem GR.hr {p : Int} {q : List Nat} (h : GR p q) : HR p q := ⟨h.b, h.f0, h.f1, h.f2, (nz_parts h.z).1, (nz_parts h.z).2.1⟩
theorem HR.lead {p : Int} {q : List Nat} (h : HR p q) : LeadOk p q := ⟨(lead_p h.f0 h.z0).1, (lead_p h.f0 h.z0).2, (lead_p h.f1 h.z1).1, (lead_p h.f1 h.z1).2⟩
theorem cat_segm {q : List Nat} (h : Bytes 27 q) : cat3 (segm q 0 9) (segm q 9 9) (segm q 18 9) = q := by
  obtain ⟨A, B, C, rfl, hA, hB, hC⟩ := parts3 h
  rw [segm_a hA.len, segm_b hA.len hB.len, segm_c hA.len hB.len hC.len]
theorem norm_id {p : Int} {q : List Nat} (hp : primeB p = true) (h : GR p q) : normQ p q = q := by
  unfold normQ
  rw [h.l0, h.l1, Int.natCast_one, inv_one hp, Int.one_mul, sc_one hp h.f0, sc_one hp h.f1, sc_one hp h.f2, cat_segm h.b]
theorem pm_mul {p a b : Int} (hp : primeB p = true) (ha : 1 ≤ a ∧ a < p) (hb : 1 ≤ b ∧ b < p) : a * b % p ≠ 0 := fun h => by
  have := pm_zero hp (k := a) (by rw [Int.emod_eq_of_lt (by omega) ha.2]; omega) ⟨by omega, hb.2⟩ h
  omega
theorem norm_segm {p : Int} (q : List Nat) : segm (normQ p q) 0 9 = scF p (inv p (lead (segm q 0 9))) (segm q 0 9) ∧ segm (normQ p q) 9 9 = scF p (inv p (lead (segm q 9 9))) (segm q 9 9) ∧ segm (normQ p q) 18 9 = scF p ((lead (segm q 0 9) : Int) * (lead (segm q 9 9) : Int)) (segm q 18 9) := by
  unfold normQ
  exact ⟨segm_a (adF_len _ _ _ _), segm_b (adF_len _ _ _ _) (adF_len _ _ _ _), segm_c (adF_len _ _ _ _) (adF_len _ _ _ _) (adF_len _ _ _ _)⟩
theorem norm_nz {p : Int} {q : List Nat} (hp : primeB p = true) (h : HR p q) : nzB (normQ p q) = nzB q := by
  obtain ⟨e0, e1, e2⟩ := norm_segm (p := p) q
  have a := lead_p h.f0 h.z0
  have b := lead_p h.f1 h.z1
  have ia := inv_range hp a.1 a.2
  have ib := inv_range hp b.1 b.2
  unfold nzB
  rw [e0, e1, e2, sc_zero hp h.f0 (by rw [Int.emod_eq_of_lt (by omega) ia.2]; omega), sc_zero hp h.f1 (by rw [Int.emod_eq_of_lt (by omega) ib.2]; omega), sc_zero hp h.f2 (pm_mul hp a b)]
theorem norm_gr {p : Int} {q : List Nat} (hp : primeB p = true) (h : HR p q) (hz : nzB (normQ p q) = true) : GR p (normQ p q) := by
  have hp0 := (primeB_5 hp).1
  obtain ⟨e0, e1, e2⟩ := norm_segm (p := p) q
  exact ⟨normQ_bytes q hp, by rw [e0]; exact ad_fm _ _ _ hp0, by rw [e1]; exact ad_fm _ _ _ hp0, by rw [e2]; exact ad_fm _ _ _ hp0, hz, by rw [e0]; exact sc_lead hp h.f0 h.z0, by rw [e1]; exact sc_lead hp h.f1 h.z1⟩
theorem add_nz {p t : Int} {f g : List Nat} (hp : primeB p = true) (hf : FmP p f) (hg : FmP p g) (lf : lead f = 1) (lg : lead g = 1) (zf : zeroB f = false) (zg : zeroB g = false) (hne : f ≠ g) (ht : 0 ≤ t ∧ t < p) : zeroB (adF p t f g) = false := by
  rw [Bool.eq_false_iff]
  intro hz
  have hp0 := (primeB_5 hp).1
  have ha : ∀ i, i < 9 → (((f[i]?.getD 0 : Nat) : Int) + t * ((g[i]?.getD 0 : Nat) : Int)) % p = 0 := fun i hi => by
    rw [← ad_get hp0 hi, zero_get hz hi]
    rfl
  obtain ⟨i, hi, hzi, hvi, _⟩ := lead_ex hf.1 zf
  obtain ⟨j, hj, hzj, hvj, _⟩ := lead_ex hg.1 zg
  rw [lf] at hvi
  rw [lg] at hvj
  have hpc : p = 2 ∨ p = 3 ∨ p = 5 := by simp only [primeB, Bool.or_eq_true, beq_iff_eq] at hp; omega
  have hij : i = j := by
    rcases Nat.lt_trichotomy i j with h | h | h
    · have h1 := ha i hi
      rw [hzj i h, hvi] at h1
      rcases hpc with rfl | rfl | rfl <;> simp at h1
    · exact h
    · have h1 := ha j hj
      rw [hzi j h, hvj] at h1
      have h2 := ha i hi
      have h3 : t = 0 := by rcases hpc with rfl | rfl | rfl <;> omega
      rw [h3, hvi] at h2
      rcases hpc with rfl | rfl | rfl <;> simp at h2
  subst hij
  have h1 := ha i hi
  rw [hvi, hvj] at h1
  have ht1 : t = p - 1 := by rcases hpc with rfl | rfl | rfl <;> omega
  apply hne
  refine fm_ext hf.1 hg.1 (fun k hk => ?_)
  have h2 := ha k hk
  have b1 := hf.2 k hk
  have b2 := hg.2 k hk
  rw [ht1] at h2
  generalize f[k]?.getD 0 = x at *
  generalize g[k]?.getD 0 = y at *
  rcases hpc with rfl | rfl | rfl <;> omega
/-- The number with which a form becomes another one, 0 if there is none. -/
def timF (p : Int) (f g : List Nat) : Int := if scF p ((lead g : Int) * inv p (lead f) % p) f = g then (lead g : Int) * inv p (lead f) % p else 0
theorem timF_in {p : Int} (hp : primeB p = true) (f g : List Nat) : 0 ≤ timF p f g ∧ timF p f g < p := by
  have hp0 := (primeB_5 hp).1
  unfold timF
  split
  · exact ⟨Int.emod_nonneg _ (by omega), Int.emod_lt_of_pos _ hp0⟩
  · omega
/-- Two products as one, not normal yet, and normal. -/
def joF (p : Int) (q r : List Nat) : Option (List Nat) := opF p (timF p (segm q 18 9) (segm r 18 9)) q r
def reF (p : Int) (q r : List Nat) : Option (List Nat) := (joF p q r).map (normQ p)
theorem joF_hr {p : Int} {q r one : List Nat} (hp : primeB p = true) (hq : GR p q) (hr : GR p r) (h : joF p q r = some one) : HR p one := by
  have hp0 := (primeB_5 hp).1
  have hp5 : 2 ≤ p ∧ p ≤ 5 := by have := primeB_5 hp; simp only [primeB, Bool.or_eq_true, beq_iff_eq] at hp; omega
  have hb := opF_bytes hq.b hp5 h
  have ht := timF_in hp (segm q 18 9) (segm r 18 9)
  obtain ⟨zq0, zq1, _⟩ := nz_parts hq.z
  obtain ⟨zr0, zr1, _⟩ := nz_parts hr.z
  unfold joF opF at h
  generalize timF p (segm q 18 9) (segm r 18 9) = t at *
  obtain ⟨f0, f1, f2, l0, l1⟩ : FmP p (segm q 0 9) ∧ FmP p (segm q 9 9) ∧ FmP p (segm q 18 9) ∧ lead (segm q 0 9) = 1 ∧ lead (segm q 9 9) = 1 := ⟨hq.f0, hq.f1, hq.f2, hq.l0, hq.l1⟩
  obtain ⟨A, B, C, rfl, hA, hB, hC⟩ := parts3 hq.b
  rw [segm_a hA.len] at *
  rw [segm_b hA.len hB.len] at *
  rw [segm_c hA.len hB.len hC.len] at *
  split at h
  · cases h
    have e : withQ (cat3 A B C) 2 (adF p 1 C (segm r 18 9)) = cat3 A B (adF p 1 C (segm r 18 9)) := over_c hA.len hB.len hC.len (adF_len _ _ _ _)
    rw [e] at hb ⊢
    exact ⟨hb, by rw [segm_a hA.len]; exact f0, by rw [segm_b hA.len hB.len]; exact f1, by rw [segm_c hA.len hB.len (adF_len _ _ _ _)]; exact ad_fm _ _ _ hp0, by rw [segm_a hA.len]; exact zq0, by rw [segm_b hA.len hB.len]; exact zq1⟩
  · rename_i hn
    split at h
    · rename_i h1
      cases h
      have e : withQ (cat3 A B C) 1 (adF p t B (segm r 9 9)) = cat3 A (adF p t B (segm r 9 9)) C := over_b hA.len hB.len (adF_len _ _ _ _)
      rw [e] at hb ⊢
      exact ⟨hb, by rw [segm_a hA.len]; exact f0, by rw [segm_b hA.len (adF_len _ _ _ _)]; exact ad_fm _ _ _ hp0, by rw [segm_c hA.len (adF_len _ _ _ _) hC.len]; exact f2, by rw [segm_a hA.len]; exact zq0, by rw [segm_b hA.len (adF_len _ _ _ _)]; exact add_nz hp f1 hr.f1 l1 hr.l1 zq1 zr1 (fun e => hn ⟨h1.1, e⟩) ht⟩
    · split at h
      · rename_i h1
        cases h
        have e : withQ (cat3 A B C) 0 (adF p t A (segm r 0 9)) = cat3 (adF p t A (segm r 0 9)) B C := over_a hA.len (adF_len _ _ _ _)
        rw [e] at hb ⊢
        exact ⟨hb, by rw [segm_a (adF_len _ _ _ _)]; exact ad_fm _ _ _ hp0, by rw [segm_b (adF_len _ _ _ _) hB.len]; exact f1, by rw [segm_c (adF_len _ _ _ _) hB.len hC.len]; exact f2, by rw [segm_a (adF_len _ _ _ _)]; exact add_nz hp f0 hr.f0 l0 hr.l0 zq0 zr0 (fun e => hn ⟨e, h1.1⟩) ht, by rw [segm_b (adF_len _ _ _ _) hB.len]; exact zq1⟩
      · cases h
theorem reF_good {p : Int} (hp : primeB p = true) (q r one : List Nat) (hq : GR p q) (hr : GR p r) (h : reF p q r = some one) : Bytes 27 one ∧ (nzB one = true → GR p one) := by
  unfold reF at h
  obtain ⟨o, h1, rfl⟩ := Option.map_eq_some_iff.1 h
  have h2 := joF_hr hp hq hr h1
  exact ⟨normQ_bytes o hp, fun hz => norm_gr hp h2 hz⟩
/-- A step of the spec: zeros taken away, and all made normal. -/
theorem red_list {p : Int} {cur : List (List Nat)} {i k : Nat} {one : List Nat} (hp : primeB p = true) (hG : ∀ q ∈ cur, GR p q) (h1 : HR p one) :
    (((cur.set i one).eraseIdx k).filter nzB).map (normQ p) = stepL cur i k (normQ p one) := by
  have hid : cur.map (normQ p) = cur := by
    conv => rhs; rw [← List.map_id cur]
    exact List.map_congr_left (fun q hq => norm_id hp (hG q hq))
  have hm : ((cur.set i one).eraseIdx k).map (normQ p) = (cur.set i (normQ p one)).eraseIdx k := by
    rw [List.eraseIdx_eq_take_drop_succ, List.eraseIdx_eq_take_drop_succ, List.map_append, List.map_take, List.map_drop, List.map_set, hid]
  have hf : ((cur.set i one).eraseIdx k).filter nzB = ((cur.set i one).eraseIdx k).filter (nzB ∘ normQ p) := by
    refine List.filter_congr (fun x hx => ?_)
    rcases List.mem_or_eq_of_mem_set (List.mem_of_mem_eraseIdx hx) with h | rfl
    · rw [Function.comp, norm_id hp (hG x h)]
    · exact (norm_nz hp h1).symm
  unfold stepL
  rw [← hm, List.filter_map, hf]
theorem scheme_hr {p n m k : Int} {qs : List (List Nat)} (hb : ∀ q ∈ qs, Bytes 27 q) (h : schemeB p n m k qs = true) : ∀ q ∈ qs, HR p q ∧ nzB q = true := by
  intro q hm
  simp only [schemeB, Bool.and_eq_true, List.all_eq_true] at h
  have h1 := h.2 q hm
  simp only [prodB, Bool.and_eq_true, Bool.not_eq_true'] at h1
  obtain ⟨⟨⟨⟨⟨f0, f1⟩, f2⟩, z0⟩, z1⟩, z2⟩ := h1
  have fm : ∀ {o : Nat} {N : Int}, o + 9 ≤ 27 → formB p (segm q o 9) N = true → FmP p (segm q o 9) := fun {o N} ho hf => ⟨((hb q hm).part (a := o) (n := 9) ho).len, fun i hi => by
    simp only [formB, List.all_eq_true, List.mem_range] at hf
    have := hf i hi
    simp only [okAt, Bool.and_eq_true, decide_eq_true_eq] at this
    exact this.1⟩
  exact ⟨⟨hb q hm, fm (by omega) f0, fm (by omega) f1, fm (by omega) f2, z0, z1⟩, by simp [nzB, z0, z1, z2]⟩
theorem scheme_gr {p n m k : Int} {qs : List (List Nat)} (hp : primeB p = true) (hb : ∀ q ∈ qs, Bytes 27 q) (h : schemeB p n m k qs = true) : ∀ q ∈ qs.map (normQ p), GR p q := by
  intro q hm
  obtain ⟨q0, h0, rfl⟩ := List.mem_map.1 hm
  obtain ⟨h1, h2⟩ := scheme_hr hb h q0 h0
  exact norm_gr hp h1 (by rw [norm_nz hp h1]; exact h2)
end Go.Proofs.Ytemkhlokpinecaa
