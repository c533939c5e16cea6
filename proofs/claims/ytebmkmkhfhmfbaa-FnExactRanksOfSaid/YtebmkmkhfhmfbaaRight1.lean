/-
  Places and right sides: spec.l01Want; impl.isIndex, unitForm, rightSides.
-/
import Derived.Test.YtebmkmkhfhmfbaaImplIs
namespace Go.Proofs.Ytebmkmkhfhmfbaa
open Go.RowKit
set_option maxRecDepth 100000
def inB (a N : Int) : Bool := decide (0 ≤ a) && decide (a < N)
def wantI (m k a b c : Int) : Int := if a % m = b / k ∧ a / m = c / k ∧ b % k = c % k then 1 else 0
theorem isIndex_c (a N : Int) (w : World) : Calls Try.prog 78 #[.int .i64 a, .int .i64 N] w fun e w' => e = .returned (.bool (inB a N)) ∧ w = w' := by
  by_cases h : 0 ≤ a
  · have Hr : Hid (inB a N = decide (a < N)) := Lib.hid (by simp [inB, h])
    have h1 : decide (0 ≤ a) = true := by simp [h]
    go_enter Try.func78, Try.ntmps78
    go_wp2_with fail
    go_ret
    exact ⟨by rw [Hr.out]; rfl, rfl⟩
  · have Hr : Hid (inB a N = false) := Lib.hid (by simp [inB, h])
    have h1 : decide (0 ≤ a) = false := by simp [h]
    go_enter Try.func78, Try.ntmps78
    go_wp2_with fail
    go_ret
    exact ⟨by rw [Hr.out]; rfl, rfl⟩
def unitL (j : Nat) : List Nat := (List.replicate 9 0).set j 1
theorem unitL_len (j : Nat) : (unitL j).length = 9 := by simp [unitL]
def rightL (m k a b : Int) : List Nat := if a % m = b / k then unitL (a / m * k + b % k).toNat else List.replicate 9 0
theorem place_bounds {n m k a b : Int} (hn : 1 ≤ n ∧ n ≤ 3) (hm : 1 ≤ m ∧ m ≤ 3) (hk : 1 ≤ k ∧ k ≤ 3) (ha : 0 ≤ a ∧ a < n * m) : 0 ≤ a / m * k ∧ a / m * k ≤ 6 ∧ 0 ≤ a / m * k + b % k ∧ a / m * k + b % k < 9 := by
  have hn' : n = 1 ∨ n = 2 ∨ n = 3 := by omega
  have hm' : m = 1 ∨ m = 2 ∨ m = 3 := by omega
  have hk' : k = 1 ∨ k = 2 ∨ k = 3 := by omega
  rcases hn' with rfl | rfl | rfl <;> rcases hm' with rfl | rfl | rfl <;> rcases hk' with rfl | rfl | rfl <;> omega
end Go.Proofs.Ytebmkmkhfhmfbaa
