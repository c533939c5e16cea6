/-
  impl.isMatrix: slices.ContainsFunc over rows by its literal. (Made by mkism.py.)
-/
import Derived.Test.YtokmchadckcilaaMat1
import Derived.Test.YtokmchadckcilaaTen3
import Derived.Test.YtokmchadckcilaaAre
namespace Go.Proofs.Ytokmchadckcilaa
open Go.RowKit
set_option maxRecDepth 100000
attribute [local irreducible] wpList
def rowsL (p m : Int) (row : Nat → List Int) (a : Nat) : Bool := (List.range a).all fun i => listB p m (row i)
/-- Where a list has a row that is none, or -1. -/
def IdxRow (p m : Int) (N : Nat) (row : Nat → List Int) (r : Int) : Prop := (r = -1 ∧ rowsL p m row N = true) ∨ (0 ≤ r ∧ rowsL p m row N = false)
theorem rowsL_step {p m : Int} {row : Nat → List Int} {a : Nat} (h1 : rowsL p m row a = true) (h2 : listB p m (row a) = true) : rowsL p m row (a + 1) = true := by
  unfold rowsL at *
  rw [List.range_succ, List.all_append, h1]
  simp [h2]
theorem rowsL_no {p m : Int} {N : Nat} {row : Nat → List Int} {i : Nat} (hi : i < N) (h : listB p m (row i) = false) : rowsL p m row N = false := by
  unfold rowsL
  rw [List.all_eq_false]
  exact ⟨i, List.mem_range.2 hi, by simp [h]⟩
end Go.Proofs.Ytokmchadckcilaa
