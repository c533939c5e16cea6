/-
  Primes, sizes, places: spec.l01Prime, l01In, l01Sizes, l01Lengths; impl.isPrime, isSize, places, shapesOf, factorsOf.
-/
import Derived.Test.YtolgfpcadfjliaaEqs
namespace Go.Proofs.Ytolgfpcadfjliaa
open Go.RowKit
def primeB (p : Int) : Bool := p == 2 || p == 3 || p == 5
def sizeB (n : Int) : Bool := decide (1 ≤ n) && decide (n ≤ 3)
def sizesB (p n m k : Int) : Bool := primeB p && sizeB n && sizeB m && sizeB k
theorem ret_bool {a b : Bool} (h : a = b) : Ending.returned (.bool a) = .returned (.bool b) := by rw [h]
set_option maxRecDepth 100000
theorem mul_bounds {a b : Int} (h1 : 1 ≤ a) (h2 : a ≤ 3) (h3 : 1 ≤ b) (h4 : b ≤ 3) : 1 ≤ a * b ∧ a * b ≤ 9 := by
  have ha : a = 1 ∨ a = 2 ∨ a = 3 := by omega
  rcases ha with rfl | rfl | rfl <;> omega
theorem mul_in {a b : Int} (h1 : 1 ≤ a) (h2 : a ≤ 3) (h3 : 1 ≤ b) (h4 : b ≤ 3) : IntKind.i64.wrap (a * b) = a * b := by
  have := mul_bounds h1 h2 h3 h4
  exact IntWalk.i64_in _ (by omega)
theorem l01Prime_c (p : Int) (w : World) : Calls Try.prog 42 #[.int .i64 p] w fun e w' => e = .returned (.bool (primeB p)) ∧ w = w' := by
  by_cases h2 : p = 2
  · subst h2
    go_enter Try.func42, Try.ntmps42
    go_wp2_with fail
    go_ret
    exact ⟨rfl, rfl⟩
  · by_cases h3 : p = 3
    · subst h3
      go_enter Try.func42, Try.ntmps42
      go_wp2_with fail
      go_ret
      exact ⟨rfl, rfl⟩
    · have b2 : (p == 2) = false := by simp [h2]
      have b3 : (p == 3) = false := by simp [h3]
      have Hr : Hid (primeB p = (p == 5)) := Lib.hid (by simp [primeB, b2, b3])
      clear h2 h3
      go_enter Try.func42, Try.ntmps42
      go_wp2_with fail
      go_ret
      exact ⟨by rw [Hr.out]; rfl, rfl⟩
theorem isPrime_c (p : Int) (w : World) : Calls Try.prog 45 #[.int .i64 p] w fun e w' => e = .returned (.bool (primeB p)) ∧ w = w' := by
  by_cases h2 : p = 2
  · subst h2
    go_enter Try.func45, Try.ntmps45
    go_wp2_with fail
    go_ret
    exact ⟨rfl, rfl⟩
  · by_cases h3 : p = 3
    · subst h3
      go_enter Try.func45, Try.ntmps45
      go_wp2_with fail
      go_ret
      exact ⟨rfl, rfl⟩
    · have b2 : (p == 2) = false := by simp [h2]
      have b3 : (p == 3) = false := by simp [h3]
      have Hr : Hid (primeB p = (p == 5)) := Lib.hid (by simp [primeB, b2, b3])
      clear h2 h3
      go_enter Try.func45, Try.ntmps45
      go_wp2_with fail
      go_ret
      exact ⟨by rw [Hr.out]; rfl, rfl⟩
theorem l01In_c (n a b : Int) (w : World) : Calls Try.prog 26 #[.int .i64 n, .int .i64 a, .int .i64 b] w fun e w' => e = .returned (.bool (decide (a ≤ n) && decide (n ≤ b))) ∧ w = w' := by
  by_cases h : a ≤ n
  · have h1 : decide (a ≤ n) = true := by simp [h]
    go_enter Try.func26, Try.ntmps26
    go_wp2_with fail
    go_ret
    exact ⟨by simp [h], rfl⟩
  · have h1 : decide (a ≤ n) = false := by simp [h]
    go_enter Try.func26, Try.ntmps26
    go_wp2_with fail
    go_ret
    exact ⟨by simp, rfl⟩
theorem l01In_size (n : Int) (w : World) : Calls Try.prog 26 #[.int .i64 n, .int .i64 1, .int .i64 3] w fun e w' => e = .returned (.bool (sizeB n)) ∧ w = w' := l01In_c n 1 3 w
end Go.Proofs.Ytolgfpcadfjliaa
