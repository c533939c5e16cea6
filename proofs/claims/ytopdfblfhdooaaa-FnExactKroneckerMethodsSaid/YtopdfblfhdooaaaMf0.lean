/-
  Products of two forms: plain functions.
-/
import Derived.Test.YtopdfblfhdooaaaBase
namespace Go.Proofs.Ytopdfblfhdooaaa
open Go.RowKit
set_option maxRecDepth 100000
/-- Of a place of the product of two matrices: the place of the first one, the place of the second one. -/
def plK (c1 c2 r2 t : Nat) : Nat := t / (c1 * c2) / r2 * c1 + t % (c1 * c2) / c2
def inK (c1 c2 r2 t : Nat) : Nat := t / (c1 * c2) % r2 * c2 + t % (c1 * c2) % c2
/-- The place of the product at which two places come together. -/
def idxK (c1 c2 r2 a b : Nat) : Nat := (a / c1 * r2 + b / c2) * (c1 * c2) + (a % c1 * c2 + b % c2)
def mulV (p c1 c2 r2 : Nat) (f g : List Nat) (t : Nat) : Nat := f[plK c1 c2 r2 t]?.getD 0 * g[inK c1 c2 r2 t]?.getD 0 % p
/-- The product of two forms for matrices of r1 rows and c1 columns, and of r2 rows and c2 columns, as far as the first S pairs of places go. -/
def mulP (p r1 c1 r2 c2 : Nat) (f g : List Nat) (S : Nat) : List Nat := (List.range 9).map fun t => if t < r1 * c1 * (r2 * c2) ∧ plK c1 c2 r2 t * (r2 * c2) + inK c1 c2 r2 t < S then mulV p c1 c2 r2 f g t else 0
def mulF (p r1 c1 r2 c2 : Nat) (f g : List Nat) : List Nat := (List.range 9).map fun t => if t < r1 * c1 * (r2 * c2) then mulV p c1 c2 r2 f g t else 0
def okK (r1 c1 r2 c2 : Nat) : Bool := decide (0 < r1) && decide (0 < c1) && decide (0 < r2) && decide (0 < c2) && decide (r1 * c1 * (r2 * c2) ≤ 9)
def chK (r1 c1 r2 c2 : Nat) : Bool :=
  (List.range (r1 * c1)).all (fun a => (List.range (r2 * c2)).all fun b => decide (idxK c1 c2 r2 a b < r1 * c1 * (r2 * c2)) && plK c1 c2 r2 (idxK c1 c2 r2 a b) == a && inK c1 c2 r2 (idxK c1 c2 r2 a b) == b) &&
  (List.range (r1 * c1 * (r2 * c2))).all (fun t => decide (plK c1 c2 r2 t < r1 * c1) && decide (inK c1 c2 r2 t < r2 * c2) && idxK c1 c2 r2 (plK c1 c2 r2 t) (inK c1 c2 r2 t) == t)
theorem chK_all : ((List.range 10).all fun r1 => (List.range 10).all fun c1 => (List.range 10).all fun r2 => (List.range 10).all fun c2 => !okK r1 c1 r2 c2 || chK r1 c1 r2 c2) = true := by decide +kernel
theorem okK_le {r1 c1 r2 c2 : Nat} (h : okK r1 c1 r2 c2 = true) : 0 < r1 ∧ 0 < c1 ∧ 0 < r2 ∧ 0 < c2 ∧ r1 * c1 * (r2 * c2) ≤ 9 := by
  simpa [okK, and_assoc] using h
theorem okK_ch {r1 c1 r2 c2 : Nat} (h : okK r1 c1 r2 c2 = true) : chK r1 c1 r2 c2 = true := by
  obtain ⟨h1, h2, h3, h4, h5⟩ := okK_le h
  have a1 : r1 * 1 ≤ r1 * c1 := Nat.mul_le_mul_left _ h2
  have a2 : 1 * c1 ≤ r1 * c1 := Nat.mul_le_mul_right _ h1
  have a3 : r2 * 1 ≤ r2 * c2 := Nat.mul_le_mul_left _ h4
  have a4 : 1 * c2 ≤ r2 * c2 := Nat.mul_le_mul_right _ h3
  have b1 : r1 * c1 * 1 ≤ r1 * c1 * (r2 * c2) := Nat.mul_le_mul_left _ (by omega)
  have b2 : 1 * (r2 * c2) ≤ r1 * c1 * (r2 * c2) := Nat.mul_le_mul_right _ (by omega)
  have k := chK_all
  simp only [List.all_eq_true, List.mem_range] at k
  have := k r1 (by omega) c1 (by omega) r2 (by omega) c2 (by omega)
  rw [h] at this
  simpa using this
section
variable {r1 c1 r2 c2 : Nat} (h : okK r1 c1 r2 c2 = true)
include h
theorem okK_ab {a b : Nat} (ha : a < r1 * c1) (hb : b < r2 * c2) : idxK c1 c2 r2 a b < r1 * c1 * (r2 * c2) ∧ plK c1 c2 r2 (idxK c1 c2 r2 a b) = a ∧ inK c1 c2 r2 (idxK c1 c2 r2 a b) = b := by
  have k := okK_ch h
  simp only [chK, Bool.and_eq_true, List.all_eq_true, List.mem_range, decide_eq_true_eq, beq_iff_eq] at k
  have := k.1 a ha b hb
  exact ⟨this.1.1, this.1.2, this.2⟩
theorem okK_t {t : Nat} (ht : t < r1 * c1 * (r2 * c2)) : plK c1 c2 r2 t < r1 * c1 ∧ inK c1 c2 r2 t < r2 * c2 ∧ idxK c1 c2 r2 (plK c1 c2 r2 t) (inK c1 c2 r2 t) = t := by
  have k := okK_ch h
  simp only [chK, Bool.and_eq_true, List.all_eq_true, List.mem_range, decide_eq_true_eq, beq_iff_eq] at k
  have := k.2 t ht
  exact ⟨this.1.1, this.1.2, this.2⟩
end
theorem mulP_len (p r1 c1 r2 c2 : Nat) (f g : List Nat) (S : Nat) : (mulP p r1 c1 r2 c2 f g S).length = 9 := by simp [mulP]
theorem mulF_len (p r1 c1 r2 c2 : Nat) (f g : List Nat) : (mulF p r1 c1 r2 c2 f g).length = 9 := by simp [mulF]
theorem mulP_zero (p r1 c1 r2 c2 : Nat) (f g : List Nat) : mulP p r1 c1 r2 c2 f g 0 = List.replicate 9 0 := by
  apply List.ext_getElem (by simp [mulP])
  intro i h1 h2
  rw [List.getElem_replicate]
  simp only [mulP, List.getElem_map, List.getElem_range]
  rw [if_neg (by omega)]
theorem mulP_all {p r1 c1 r2 c2 : Nat} (h : okK r1 c1 r2 c2 = true) (f g : List Nat) : mulP p r1 c1 r2 c2 f g (r1 * c1 * (r2 * c2)) = mulF p r1 c1 r2 c2 f g := by
  apply List.ext_getElem (by simp [mulP, mulF])
  intro t h1 h2
  simp only [mulP, mulF, List.getElem_map, List.getElem_range]
  by_cases ht : t < r1 * c1 * (r2 * c2)
  · obtain ⟨k1, k2, _⟩ := okK_t h ht
    have := Nat.mul_le_mul_right (r2 * c2) (show plK c1 c2 r2 t + 1 ≤ r1 * c1 from k1)
    rw [Nat.add_mul, Nat.one_mul] at this
    rw [if_pos ⟨ht, by omega⟩, if_pos ht]
  · rw [if_neg (fun x => ht x.1), if_neg ht]
theorem mulP_set {p r1 c1 r2 c2 : Nat} (h : okK r1 c1 r2 c2 = true) (f g : List Nat) {a b : Nat} (ha : a < r1 * c1) (hb : b < r2 * c2) :
    (mulP p r1 c1 r2 c2 f g (a * (r2 * c2) + b)).set (idxK c1 c2 r2 a b) (f[a]?.getD 0 * g[b]?.getD 0 % p) = mulP p r1 c1 r2 c2 f g (a * (r2 * c2) + (b + 1)) := by
  obtain ⟨i1, i2, i3⟩ := okK_ab h ha hb
  apply List.ext_getElem (by simp [mulP])
  intro t h1 h2
  have ht9 : t < 9 := by simpa [mulP] using h2
  rw [List.getElem_set]
  by_cases he : idxK c1 c2 r2 a b = t
  · subst he
    rw [if_pos rfl]
    simp only [mulP, List.getElem_map, List.getElem_range]
    rw [i2, i3, if_pos ⟨i1, by omega⟩]
    simp only [mulV]
    rw [i2, i3]
  · rw [if_neg he]
    simp only [mulP, List.getElem_map, List.getElem_range]
    by_cases ht : t < r1 * c1 * (r2 * c2)
    · obtain ⟨k1, k2, k3⟩ := okK_t h ht
      have hne : plK c1 c2 r2 t * (r2 * c2) + inK c1 c2 r2 t ≠ a * (r2 * c2) + b := by
        intro e
        have e1 : (plK c1 c2 r2 t * (r2 * c2) + inK c1 c2 r2 t) / (r2 * c2) = (a * (r2 * c2) + b) / (r2 * c2) := by rw [e]
        have hpos : 0 < r2 * c2 := by omega
        rw [Nat.mul_comm, Nat.mul_add_div hpos, Nat.div_eq_of_lt k2, Nat.mul_comm a, Nat.mul_add_div hpos, Nat.div_eq_of_lt hb, Nat.add_zero, Nat.add_zero] at e1
        rw [e1] at e
        have e2 : inK c1 c2 r2 t = b := by omega
        rw [e1, e2] at k3
        exact he k3
      by_cases hlt : plK c1 c2 r2 t * (r2 * c2) + inK c1 c2 r2 t < a * (r2 * c2) + b
      · rw [if_pos ⟨ht, hlt⟩, if_pos ⟨ht, by omega⟩]
      · rw [if_neg (fun x => hlt x.2), if_neg (fun x => by omega)]
    · rw [if_neg (fun x => ht x.1), if_neg (fun x => ht x.1)]
end Go.Proofs.Ytopdfblfhdooaaa
