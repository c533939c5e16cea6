/-
  What a tensor is: spec.l05Is and impl.IsTensor; areNumbers, isAllowed, places, boxOf, has, numberAt, l05At.
-/
import Derived.Test.YtebmkmkhfhmfbaaTen1
import Derived.Test.YtebmkmkhfhmfbaaRight1
import Derived.BigQuiet
namespace Go.Proofs.Ytebmkmkhfhmfbaa
open Go.RowKit
set_option maxRecDepth 100000
def sideB (n : Int) : Bool := decide (1 ≤ n) && decide (n ≤ 9)
def numsB (p : Int) (xs : List Int) : Bool := xs.all (fun x => inB x p)
def tenB (p i j k : Int) (xs : List Int) : Bool := primeB p && sideB i && sideB j && sideB k && decide ((xs.length : Int) = i * j * k) && numsB p xs
theorem prime_le5 {p : Int} (h : primeB p = true) : 2 ≤ p ∧ p ≤ 5 := by
  simp only [primeB, Bool.or_eq_true, beq_iff_eq] at h
  omega
theorem numsB_no {p : Int} {xs : List Int} {i : Nat} (hi : i < xs.length) (h : inB xs[i] p = false) : numsB p xs = false := by
  unfold numsB
  rw [List.all_eq_false]
  exact ⟨xs[i], List.getElem_mem hi, by simp [h]⟩
theorem numsB_yes {p : Int} {xs : List Int} (h : ∀ (i : Nat) (hi : i < xs.length), inB xs[i] p = true) : numsB p xs = true := by
  unfold numsB
  rw [List.all_eq_true]
  intro q hq
  obtain ⟨i, hi, rfl⟩ := List.getElem_of_mem hq
  exact h i hi
theorem sideB_in {n : Int} (h : sideB n = true) : 1 ≤ n ∧ n ≤ 9 := by
  simpa [sideB] using h
theorem side_mul {a b : Int} (ha : sideB a = true) (hb : sideB b = true) : 1 ≤ a * b ∧ a * b ≤ 81 := by
  obtain ⟨h1, h2⟩ := sideB_in ha
  obtain ⟨h3, h4⟩ := sideB_in hb
  constructor
  · have := Int.mul_le_mul h1 h3 (by omega) (by omega)
    omega
  · have := Int.mul_le_mul h2 h4 (by omega) (by omega)
    omega
theorem side_mul3 {a b c : Int} (ha : sideB a = true) (hb : sideB b = true) (hc : sideB c = true) : 1 ≤ a * b * c ∧ a * b * c ≤ 729 := by
  obtain ⟨h1, h2⟩ := side_mul ha hb
  obtain ⟨h3, h4⟩ := sideB_in hc
  constructor
  · have := Int.mul_le_mul h1 h3 (by omega) (by omega)
    omega
  · have := Int.mul_le_mul h2 h4 (by omega) (by omega)
    omega
theorem wrap_side2 {a b : Int} (ha : sideB a = true) (hb : sideB b = true) : IntKind.i64.wrap (a * b) = a * b := by
  have := side_mul ha hb
  exact IntWalk.i64_in _ (by omega)
theorem wrap_side3 {a b c : Int} (ha : sideB a = true) (hb : sideB b = true) (hc : sideB c = true) : IntKind.i64.wrap (a * b * c) = a * b * c := by
  have := side_mul3 ha hb hc
  exact IntWalk.i64_in _ (by omega)
theorem l01In_side (n : Int) (w : World) : Calls Try.prog 56 #[.int .i64 n, .int .i64 1, .int .i64 9] w fun e w' => e = .returned (.bool (sideB n)) ∧ w = w' := l01In_c n 1 9 w
theorem l01In_num (x p q : Int) (hq : q = p - 1) (w : World) : Calls Try.prog 56 #[.int .i64 x, .int .i64 0, .int .i64 q] w fun e w' => e = .returned (.bool (inB x p)) ∧ w = w' := by
  have h : (decide (0 ≤ x) && decide (x ≤ q)) = inB x p := by
    unfold inB
    subst hq
    congr 1
    simp only [decide_eq_decide]
    omega
  rw [← h]
  exact l01In_c x 0 q w
section
variable {p i j k : Int} {xs : List Int}
theorem tenB_parts (h : tenB p i j k xs = true) : primeB p = true ∧ sideB i = true ∧ sideB j = true ∧ sideB k = true ∧ (xs.length : Int) = i * j * k ∧ numsB p xs = true := by
  simp only [tenB, Bool.and_eq_true, decide_eq_true_eq] at h
  exact ⟨h.1.1.1.1.1, h.1.1.1.1.2, h.1.1.1.2, h.1.1.2, h.1.2, h.2⟩
theorem tenB_p (h : primeB p = false) : tenB p i j k xs = false := by simp [tenB, h]
theorem tenB_i (h : sideB i = false) : tenB p i j k xs = false := by simp [tenB, h]
theorem tenB_j (h : sideB j = false) : tenB p i j k xs = false := by simp [tenB, h]
theorem tenB_k (h : sideB k = false) : tenB p i j k xs = false := by simp [tenB, h]
theorem tenB_l (h : (xs.length : Int) ≠ i * j * k) : tenB p i j k xs = false := by simp [tenB, h]
theorem tenB_n (h : numsB p xs = false) : tenB p i j k xs = false := by simp [tenB, h]
theorem tenB_yes (h1 : primeB p = true) (h2 : sideB i = true) (h3 : sideB j = true) (h4 : sideB k = true) (h5 : (xs.length : Int) = i * j * k) (h6 : numsB p xs = true) : tenB p i j k xs = true := by
  simp only [tenB, h1, h2, h3, h4, h6, Bool.and_true, Bool.true_and, decide_eq_true_eq]
  exact h5
end
end Go.Proofs.Ytebmkmkhfhmfbaa
