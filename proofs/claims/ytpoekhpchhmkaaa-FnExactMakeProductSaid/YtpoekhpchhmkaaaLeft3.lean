/-
  spec.LeftSide; impl.sideAt (of leftSides), impl.LeftSide.
-/
import Derived.Test.YtpoekhpchhmkaaaLeft2
namespace Go.Proofs.Ytpoekhpchhmkaaa
open Go.RowKit
set_option maxRecDepth 100000
def leftI (p : Int) (qs : List (List Nat)) (a b c : Int) : Int := (sumN qs a.toNat b.toNat c.toNat : Nat) % p
theorem primeB_bounds {p : Int} (h : primeB p = true) : 2 ≤ p ∧ p ≤ 5 := by
  simp only [primeB, Bool.or_eq_true, beq_iff_eq] at h
  omega
end Go.Proofs.Ytpoekhpchhmkaaa
