/-
  The rank of rows modulo p: both ways of elimination as plain functions, and that they take the same pivots.
-/
import Derived.Test.YtebmkmkhfhmfbaaNrm1
namespace Go.Proofs.Ytebmkmkhfhmfbaa
def ent (R : Nat → List Int) (i t : Nat) : Int := (R i)[t]?.getD 0
/-- The first row from i on with a number other than 0 in a column. -/
def pvF (R : Nat → List Int) (c : Nat) : Nat → Nat → Nat
  | 0, i => i
  | f + 1, i => if ent R i c = 0 then pvF R c f (i + 1) else i
def pv (R : Nat → List Int) (n r c : Nat) : Nat := pvF R c (n - r) r
section
variable {R S : Nat → List Int} {n i c : Nat}
theorem pvF_zero (hi : i < n) (h : ent R i c = 0) : pvF R c (n - i) i = pvF R c (n - (i + 1)) (i + 1) := by
  rw [show n - i = (n - (i + 1)) + 1 by omega, pvF, if_pos h]
theorem pvF_some (hi : i < n) (h : ent R i c ≠ 0) : pvF R c (n - i) i = i := by
  rw [show n - i = (n - (i + 1)) + 1 by omega, pvF, if_neg h]
theorem pvF_end : pvF R c (n - n) n = n := by rw [Nat.sub_self, pvF]
theorem pvF_bd : ∀ f i, i ≤ pvF R c f i ∧ pvF R c f i ≤ i + f ∧ (pvF R c f i < i + f → ent R (pvF R c f i) c ≠ 0)
  | 0, i => by simp [pvF]
  | f + 1, i => by
    rw [pvF]
    split
    · have := pvF_bd f (i + 1)
      exact ⟨by omega, by omega, fun h => this.2.2 (by omega)⟩
    · next h => exact ⟨by omega, by omega, fun _ => h⟩
theorem pv_bd {r : Nat} (h : r ≤ n) : r ≤ pv R n r c ∧ pv R n r c ≤ n ∧ (pv R n r c < n → ent R (pv R n r c) c ≠ 0) := by
  have := pvF_bd (R := R) (c := c) (n - r) r
  exact ⟨this.1, by unfold pv; omega, fun h9 => this.2.2 (by unfold pv at h9; omega)⟩
theorem pvF_eq : ∀ f i, (∀ j, i ≤ j → j < i + f → (ent R j c = 0 ↔ ent S j c = 0)) → pvF R c f i = pvF S c f i
  | 0, _, _ => rfl
  | f + 1, i, h => by
    rw [pvF, pvF, pvF_eq f (i + 1) (fun j h1 h2 => h j (by omega) (by omega))]
    have h0 := h i (by omega) (by omega)
    by_cases e : ent R i c = 0
    · rw [if_pos e, if_pos (h0.1 e)]
    · rw [if_neg e, if_neg (fun h9 => e (h0.2 h9))]
end
def swp (R : Nat → List Int) (a b : Nat) : Nat → List Int := fun i => if i = b then R a else if i = a then R b else R i
def updR (R : Nat → List Int) (k : Nat) (l : List Int) : Nat → List Int := fun i => if i = k then l else R i
/-- impl: a row, cleared in a column by multiplication with the number of the pivot's row. -/
def combI (p : Int) (C : Nat) (x y : List Int) (c : Nat) : List Int := (List.range C).map fun t => (x[t]?.getD 0 * y[c]?.getD 0 + (p - x[c]?.getD 0) * y[t]?.getD 0) % p
def clI (p : Int) (C : Nat) (R : Nat → List Int) (r c k : Nat) : Nat → List Int := fun i => if r < i ∧ i < k then combI p C (R i) (R r) c else R i
def stI (p : Int) (n C c : Nat) (q : (Nat → List Int) × Nat) : (Nat → List Int) × Nat :=
  if pv q.1 n q.2 c = n then q else (clI p C (swp q.1 q.2 (pv q.1 n q.2 c)) q.2 c n, q.2 + 1)
def rkI (p : Int) (n C : Nat) (R : Nat → List Int) : Nat → (Nat → List Int) × Nat
  | 0 => (R, 0)
  | c + 1 => stI p n C c (rkI p n C R c)
/-- spec: a row less a multiple of the pivot's row. -/
def facS (p : Int) (x y : List Int) (c : Nat) : Int := x[c]?.getD 0 * inv p (y[c]?.getD 0) % p
def combS (p : Int) (C : Nat) (x y : List Int) (c : Nat) : List Int := if facS p x y c = 0 then x else (List.range C).map fun t => (x[t]?.getD 0 - facS p x y c * y[t]?.getD 0) % p
def clS (p : Int) (C : Nat) (R : Nat → List Int) (r c k : Nat) : Nat → List Int := fun i => if r < i ∧ i < k then combS p C (R i) (R r) c else R i
def stS (p : Int) (n C c : Nat) (q : (Nat → List Int) × Nat) : (Nat → List Int) × Nat :=
  if pv q.1 n q.2 c = n then q else (clS p C (swp q.1 q.2 (pv q.1 n q.2 c)) q.2 c n, q.2 + 1)
def rkS (p : Int) (n C : Nat) (R : Nat → List Int) : Nat → (Nat → List Int) × Nat
  | 0 => (R, 0)
  | c + 1 => stS p n C c (rkS p n C R c)
/-- Rows of C numbers modulo p. -/
def Rg (p : Int) (n C : Nat) (R : Nat → List Int) : Prop := ∀ i, i < n → (R i).length = C ∧ ∀ t, t < C → 0 ≤ ent R i t ∧ ent R i t < p
def Rl (p : Int) (n C : Nat) (R S : Nat → List Int) (r : Nat) : Prop := ∀ i, r ≤ i → i < n → ∃ u : Int, 1 ≤ u ∧ u < p ∧ ∀ t, t < C → ent R i t = u * ent S i t % p
section
variable {p : Int} {n C : Nat} {R S : Nat → List Int}
theorem Rg.swp {a b : Nat} (h : Rg p n C R) (ha : a < n) (hb : b < n) : Rg p n C (swp R a b) := fun i hi => by
  have h1 := h a ha
  have h2 := h b hb
  have h3 := h i hi
  unfold ent at *
  unfold Proofs.Ytebmkmkhfhmfbaa.swp
  split
  · exact h1
  · split
    · exact h2
    · exact h3
theorem combI_len (p : Int) (C : Nat) (x y : List Int) (c : Nat) : (combI p C x y c).length = C := by simp [combI]
theorem combI_at {x y : List Int} {c t : Nat} (ht : t < C) : (combI p C x y c)[t]?.getD 0 = (x[t]?.getD 0 * y[c]?.getD 0 + (p - x[c]?.getD 0) * y[t]?.getD 0) % p := by simp [combI, ht]
theorem combS_len {x y : List Int} {c : Nat} (hx : x.length = C) : (combS p C x y c).length = C := by
  unfold combS
  split
  · exact hx
  · simp
theorem combS_at {x y : List Int} {c t : Nat} (ht : t < C) (hx : 0 ≤ x[t]?.getD 0 ∧ x[t]?.getD 0 < p) : (combS p C x y c)[t]?.getD 0 = (x[t]?.getD 0 - facS p x y c * y[t]?.getD 0) % p := by
  unfold combS
  split
  · next h => rw [h, Int.zero_mul, Int.sub_zero, Int.emod_eq_of_lt hx.1 hx.2]
  · simp [ht]
theorem Rg.clI {r c k : Nat} (hp : 0 < p) (h : Rg p n C R) : Rg p n C (clI p C R r c k) := fun i hi => by
  have h3 := h i hi
  unfold ent at *
  unfold Proofs.Ytebmkmkhfhmfbaa.clI
  split
  · refine ⟨combI_len _ _ _ _ _, fun t ht => ?_⟩
    rw [combI_at ht]
    exact ⟨Int.emod_nonneg _ (by omega), Int.emod_lt_of_pos _ hp⟩
  · exact h3
theorem Rg.clS {r c k : Nat} (hp : 0 < p) (h : Rg p n C R) : Rg p n C (clS p C R r c k) := fun i hi => by
  have h3 := h i hi
  unfold ent at *
  unfold Proofs.Ytebmkmkhfhmfbaa.clS
  split
  · refine ⟨combS_len h3.1, fun t ht => ?_⟩
    rw [combS_at ht (h3.2 t ht)]
    exact ⟨Int.emod_nonneg _ (by omega), Int.emod_lt_of_pos _ hp⟩
  · exact h3
theorem Rg.stI {c : Nat} {q : (Nat → List Int) × Nat} (hp : 0 < p) (h : Rg p n C q.1) (hr : q.2 ≤ n) : Rg p n C (stI p n C c q).1 ∧ (Proofs.Ytebmkmkhfhmfbaa.stI p n C c q).2 ≤ n := by
  unfold Proofs.Ytebmkmkhfhmfbaa.stI
  have hb := pv_bd (R := q.1) (c := c) hr
  split
  · exact ⟨h, hr⟩
  · exact ⟨(h.swp (by omega) (by omega)).clI hp, by show q.2 + 1 ≤ n; omega⟩
theorem Rg.stS {c : Nat} {q : (Nat → List Int) × Nat} (hp : 0 < p) (h : Rg p n C q.1) (hr : q.2 ≤ n) : Rg p n C (stS p n C c q).1 ∧ (Proofs.Ytebmkmkhfhmfbaa.stS p n C c q).2 ≤ n := by
  unfold Proofs.Ytebmkmkhfhmfbaa.stS
  have hb := pv_bd (R := q.1) (c := c) hr
  split
  · exact ⟨h, hr⟩
  · exact ⟨(h.swp (by omega) (by omega)).clS hp, by show q.2 + 1 ≤ n; omega⟩
theorem rkI_rg (hp : 0 < p) (h : Rg p n C R) : ∀ c, Rg p n C (rkI p n C R c).1 ∧ (rkI p n C R c).2 ≤ n
  | 0 => ⟨h, Nat.zero_le _⟩
  | c + 1 => (rkI_rg hp h c).1.stI hp (rkI_rg hp h c).2
theorem rkS_rg (hp : 0 < p) (h : Rg p n C R) : ∀ c, Rg p n C (rkS p n C R c).1 ∧ (rkS p n C R c).2 ≤ n
  | 0 => ⟨h, Nat.zero_le _⟩
  | c + 1 => (rkS_rg hp h c).1.stS hp (rkS_rg hp h c).2
end
theorem mul_nz {p u s : Int} (hp : primeB p = true) (hu : 1 ≤ u ∧ u < p) (hs : 0 ≤ s ∧ s < p) : u * s % p = 0 ↔ s = 0 := by
  simp only [primeB, Bool.or_eq_true, beq_iff_eq] at hp
  rcases hp with (rfl | rfl) | rfl
  · obtain rfl : u = 1 := by omega
    omega
  · have h : u = 1 ∨ u = 2 := by omega
    rcases h with rfl | rfl <;> omega
  · have h : u = 1 ∨ u = 2 ∨ u = 3 ∨ u = 4 := by omega
    rcases h with rfl | rfl | rfl | rfl <;> omega
theorem core_ring (p u v s a b y i q1 q2 q3 q4 q5 q6 q7 q8 : Int) (h : b * i = 1 + p * q8) : ((u * s - p * q1) * (v * b - p * q2) + (p - (u * a - p * q3)) * (v * y - p * q4)) - (u * v * b - p * q7) * (s - (a * i - p * q5) * y - p * q6)
    = p * (- u * s * q2 - q1 * (v * b) + p * q1 * q2 + v * y - p * q4 + u * a * q4 + q3 * (v * y) - p * q3 * q4 + q8 * u * v * a * y - u * v * b * q5 * y + u * v * b * q6 + q7 * (s - (a * i - p * q5) * y - p * q6)) := by
  grind
theorem rk_core {p u v s a b y : Int} (hp : primeB p = true) (hb : 1 ≤ b ∧ b < p) :
    ((u * s % p) * (v * b % p) + (p - u * a % p) * (v * y % p)) % p = (u * v * b % p) * ((s - (a * inv p b % p) * y) % p) % p := by
  have hi : ∃ q8, b * inv p b = 1 + p * q8 := by
    rcases inv_cases hp hb.1 hb.2 with ⟨rfl, rfl, h3⟩ | ⟨rfl, rfl, h3⟩ | ⟨rfl, rfl, h3⟩ | ⟨rfl, rfl, h3⟩ | ⟨rfl, rfl, h3⟩ | ⟨rfl, rfl, h3⟩ | ⟨rfl, rfl, h3⟩ <;> rw [h3]
    · exact ⟨0, rfl⟩
    · exact ⟨0, rfl⟩
    · exact ⟨1, rfl⟩
    · exact ⟨0, rfl⟩
    · exact ⟨1, rfl⟩
    · exact ⟨1, rfl⟩
    · exact ⟨3, rfl⟩
  obtain ⟨q8, hi⟩ := hi
  rw [Int.emod_eq_emod_iff_emod_sub_eq_zero]
  apply Int.emod_eq_zero_of_dvd
  have h := core_ring p u v s a b y (inv p b) (u * s / p) (v * b / p) (u * a / p) (v * y / p) (a * inv p b / p) ((s - (a * inv p b - p * (a * inv p b / p)) * y) / p) (u * v * b / p) q8 hi
  rw [← Int.emod_def, ← Int.emod_def, ← Int.emod_def, ← Int.emod_def, ← Int.emod_def, ← Int.emod_def, ← Int.emod_def] at h
  rw [h]
  exact ⟨_, rfl⟩
section
variable {p : Int} {n C : Nat} {R S : Nat → List Int}
theorem Rl.zero {r c i : Nat} (hp : primeB p = true) (hS : Rg p n C S) (h : Rl p n C R S r) (hr : r ≤ i) (hi : i < n) (hc : c < C) : ent R i c = 0 ↔ ent S i c = 0 := by
  obtain ⟨u, h1, h2, h3⟩ := h i hr hi
  rw [h3 c hc]
  exact mul_nz hp ⟨h1, h2⟩ ((hS i hi).2 c hc)
theorem Rl.pv {r c : Nat} (hp : primeB p = true) (hS : Rg p n C S) (h : Rl p n C R S r) (hr : r ≤ n) (hc : c < C) : pv R n r c = pv S n r c :=
  pvF_eq _ _ fun _ h1 h2 => h.zero hp hS h1 (by omega) hc
theorem Rl.swp {r b : Nat} (h : Rl p n C R S r) (hr : r < n) (hrb : r ≤ b) (hb : b < n) : Rl p n C (swp R r b) (swp S r b) r := fun i h1 h2 => by
  have ha := h r (Nat.le_refl _) hr
  have hb' := h b hrb hb
  have hi := h i h1 h2
  unfold ent at *
  unfold Proofs.Ytebmkmkhfhmfbaa.swp
  by_cases e : i = b
  · simp only [if_pos e]
    exact ha
  · by_cases e2 : i = r
    · simp only [if_neg e, if_pos e2]
      exact hb'
    · simp only [if_neg e, if_neg e2]
      exact hi
theorem Rl.cl {r c : Nat} (hp : primeB p = true) (hS : Rg p n C S) (h : Rl p n C R S r) (hr : r < n) (hc : c < C) (hz : ent S r c ≠ 0) : Rl p n C (clI p C R r c n) (clS p C S r c n) (r + 1) := fun i h1 h2 => by
  obtain ⟨v, v1, v2, hv⟩ := h r (Nat.le_refl _) hr
  obtain ⟨u, u1, u2, hu⟩ := h i (by omega) h2
  have hb := (hS r hr).2 c hc
  have hpp := primeB_5 hp
  have hw : u * v * ent S r c % p ≠ 0 := by
    intro h9
    have e1 : u * v % p ≠ 0 := fun h8 => by
      have := (mul_nz hp ⟨u1, u2⟩ ⟨by omega, v2⟩).1 h8
      omega
    have e2 := Int.emod_nonneg (u * v) (show p ≠ 0 by omega)
    have e3 := Int.emod_lt_of_pos (u * v) (show 0 < p by omega)
    rw [Int.mul_emod, Int.emod_eq_of_lt hb.1 hb.2] at h9
    exact hz ((mul_nz hp ⟨by omega, e3⟩ hb).1 h9)
  refine ⟨u * v * ent S r c % p, ?_, Int.emod_lt_of_pos _ (by omega), fun t ht => ?_⟩
  · have := Int.emod_nonneg (u * v * ent S r c) (show p ≠ 0 by omega)
    omega
  · have hRt := hu t ht
    have hRc := hu c hc
    have hrt := hv t ht
    have hrc := hv c hc
    have hst := (hS i h2).2 t ht
    unfold ent at *
    unfold Proofs.Ytebmkmkhfhmfbaa.clI Proofs.Ytebmkmkhfhmfbaa.clS
    rw [if_pos ⟨by omega, h2⟩, if_pos ⟨by omega, h2⟩, combI_at ht, combS_at ht hst, hRt, hRc, hrt, hrc]
    unfold facS
    exact rk_core hp ⟨by omega, hb.2⟩
theorem rk_eq (hp : primeB p = true) (hR : Rg p n C R) : ∀ c, c ≤ C → (rkI p n C R c).2 = (rkS p n C R c).2 ∧ Rl p n C (rkI p n C R c).1 (rkS p n C R c).1 (rkS p n C R c).2
  | 0, _ => ⟨rfl, fun i _ h2 => ⟨1, by omega, by have := primeB_5 hp; simp only [primeB, Bool.or_eq_true, beq_iff_eq] at hp; omega, fun t ht => by
      have := (hR i h2).2 t ht
      show ent R i t = 1 * ent R i t % p
      rw [Int.one_mul, Int.emod_eq_of_lt this.1 this.2]⟩⟩
  | c + 1, hc => by
    have hpp := primeB_5 hp
    obtain ⟨h1, h2⟩ := rk_eq hp hR c (by omega)
    obtain ⟨g1, g2⟩ := rkS_rg (C := C) (show 0 < p by omega) hR c
    rw [rkI, rkS]
    unfold stI stS
    rw [h1, h2.pv hp g1 g2 (by omega)]
    have hb := pv_bd (R := (rkS p n C R c).1) (c := c) g2
    by_cases e : pv (rkS p n C R c).1 n (rkS p n C R c).2 c = n
    · rw [if_pos e, if_pos e]
      exact ⟨h1, h2⟩
    · rw [if_neg e, if_neg e]
      refine ⟨rfl, Rl.cl hp (g1.swp (by omega) (by omega)) (h2.swp (by omega) hb.1 (by omega)) (by omega) (by omega) ?_⟩
      have h9 := hb.2.2 (by omega)
      unfold ent swp at *
      split
      · next e9 => rw [← e9] at h9; exact h9
      · rw [if_pos rfl]
        exact h9
theorem rank_eq (hp : primeB p = true) (hR : Rg p n C R) : (rkI p n C R C).2 = (rkS p n C R C).2 := (rk_eq hp hR C (Nat.le_refl _)).1
end
end Go.Proofs.Ytebmkmkhfhmfbaa
