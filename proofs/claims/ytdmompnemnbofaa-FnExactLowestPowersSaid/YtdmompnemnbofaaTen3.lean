/-
  impl.boxOf, places, isAllowed (slices.Min, slices.Max), areNumbers.
-/
import Derived.Test.YtdmompnemnbofaaTen2
namespace Go.Proofs.Ytdmompnemnbofaa
open Go.RowKit
set_option maxRecDepth 100000
def min3 (i j k : Int) : Nat → Int
  | 0 => i
  | 1 => i
  | 2 => if j < i then j else i
  | _ => if k < (if j < i then j else i) then k else (if j < i then j else i)
theorem min3_eq (i j k : Int) : min3 i j k 3 = min (min i j) k := by
  simp only [min3]
  split <;> split <;> omega
def max3 (i j k : Int) : Nat → Int
  | 0 => i
  | 1 => i
  | 2 => if i < j then j else i
  | _ => if (if i < j then j else i) < k then k else (if i < j then j else i)
theorem max3_eq (i j k : Int) : max3 i j k 3 = max (max i j) k := by
  simp only [max3]
  split <;> split <;> omega
/-! ### areNumbers -/
/-- Where a list has a number that is none, or -1. -/
def IdxNum (p : Int) (xs : List Int) (r : Int) : Prop := (r = -1 ∧ numsB p xs = true) ∨ (0 ≤ r ∧ numsB p xs = false)
end Go.Proofs.Ytdmompnemnbofaa
