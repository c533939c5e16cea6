/-
  Tensor.sides, places, isAllowed (slices.Min, slices.Max), isList.
-/
import Derived.Test.YtmbjpnkedepijaaTen2
namespace Go.Proofs.Ytmbjpnkedepijaa
open Go.RowKit
set_option maxRecDepth 100000
def min3 (i j k : Int) : Nat → Int
  | 0 => i
  | 1 => i
  | 2 => if j < i then j else i
  | _ => if k < (if j < i then j else i) then k else (if j < i then j else i)
theorem min3_eq (i j k : Int) : min3 i j k 3 = min (min i j) k := by
  simp only [min3]
  split <;> split <;> omega
def max3 (i j k : Int) : Nat → Int
  | 0 => i
  | 1 => i
  | 2 => if i < j then j else i
  | _ => if (if i < j then j else i) < k then k else (if i < j then j else i)
theorem max3_eq (i j k : Int) : max3 i j k 3 = max (max i j) k := by
  simp only [max3]
  split <;> split <;> omega
theorem min3_s1 (i j k : Int) : min (min3 i j k 1) j = min3 i j k 2 := by
  simp only [min3]
  split <;> omega
theorem min3_s2 (i j k : Int) : min (min3 i j k 2) k = min3 i j k 3 := by
  have h : min3 i j k 3 = min (min3 i j k 2) k := by
    simp only [min3]
    split <;> split <;> omega
  exact h.symm
theorem max3_s1 (i j k : Int) : max (max3 i j k 1) j = max3 i j k 2 := by
  simp only [max3]
  split <;> omega
theorem max3_s2 (i j k : Int) : max (max3 i j k 2) k = max3 i j k 3 := by
  have h : max3 i j k 3 = max (max3 i j k 2) k := by
    simp only [max3]
    split <;> split <;> omega
  exact h.symm
/-! ### isList -/
/-- Where a list has a number that is none, or -1. -/
def IdxNum (p : Int) (xs : List Int) (r : Int) : Prop := (r = -1 ∧ numsB p xs = true) ∨ (0 ≤ r ∧ numsB p xs = false)
def listB (p n : Int) (xs : List Int) : Bool := decide ((xs.length : Int) = n) && numsB p xs
end Go.Proofs.Ytmbjpnkedepijaa
