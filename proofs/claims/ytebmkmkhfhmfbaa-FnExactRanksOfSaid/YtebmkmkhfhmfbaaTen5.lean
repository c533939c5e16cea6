/-
  numberAt, l05At, has, NumberAt of both sides.
-/
import Derived.Test.YtebmkmkhfhmfbaaTen4
namespace Go.Proofs.Ytebmkmkhfhmfbaa
open Go.RowKit
set_option maxRecDepth 100000
/-- The number at a place. -/
def nthI (xs : List Int) (t : Int) : Int := xs[t.toNat]?.getD 0
theorem place_le {i j k a b c : Int} (hi : 0 ≤ i) (hi' : i < a) (hj : 0 ≤ j) (hj' : j < b) (hk : 0 ≤ k) (hk' : k < c) (ha : a ≤ 9) (hb : b ≤ 9) (hc : c ≤ 9) :
    0 ≤ i * b ∧ i * b ≤ 81 ∧ 0 ≤ (i * b + j) * c ∧ (i * b + j) * c ≤ 729 ∧ 0 ≤ (i * b + j) * c + k ∧ (i * b + j) * c + k < a * b * c := by
  have h1 : 0 ≤ i * b := Int.mul_nonneg hi (by omega)
  have h2 : i * b ≤ 8 * b := Int.mul_le_mul_of_nonneg_right (by omega) (by omega)
  have h3 : 0 ≤ (i * b + j) * c := Int.mul_nonneg (by omega) (by omega)
  have h4 : (i * b + j) * c ≤ 80 * c := Int.mul_le_mul_of_nonneg_right (by omega) (by omega)
  have h5 : (i + 1) * b ≤ a * b := Int.mul_le_mul_of_nonneg_right (by omega) (by omega)
  have h6 : (i * b + j + 1) * c ≤ (i + 1) * b * c := Int.mul_le_mul_of_nonneg_right (by rw [Int.add_mul]; omega) (by omega)
  have h7 : (i + 1) * b * c ≤ a * b * c := Int.mul_le_mul_of_nonneg_right h5 (by omega)
  rw [Int.add_mul] at h6
  omega
/-! ### has -/
def hasB (a b c i j k : Int) : Bool := inB i a && inB j b && inB k c
theorem inB_iff {x n : Int} : inB x n = true ↔ 0 ≤ x ∧ x < n := by simp [inB]
theorem hasB_in {a b c i j k : Int} (h : hasB a b c i j k = true) : 0 ≤ i ∧ i < a ∧ 0 ≤ j ∧ j < b ∧ 0 ≤ k ∧ k < c := by
  simp only [hasB, Bool.and_eq_true, inB_iff] at h
  omega
/-! ### NumberAt -/
def naCode (p a b c : Int) (xs : List Int) (i j k : Int) : Int := if tenB p a b c xs = true then (if hasB a b c i j k = true then 0 else 2) else 1
def naR (p a b c : Int) (xs : List Int) (i j k : Int) : Int := if naCode p a b c xs i j k = 0 then nthI xs ((i * b + j) * c + k) else 0
theorem l01In_idx (x n q : Int) (hq : q = n - 1) (w : World) : Calls Try.prog 56 #[.int .i64 x, .int .i64 0, .int .i64 q] w fun e w' => e = .returned (.bool (inB x n)) ∧ w = w' := l01In_num x n q hq w
end Go.Proofs.Ytebmkmkhfhmfbaa
