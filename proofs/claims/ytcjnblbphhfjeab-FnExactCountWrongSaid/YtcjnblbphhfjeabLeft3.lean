
/-
  spec.LeftSide; impl.sideAt (of leftSides), impl.LeftSide.
-/
import Derived.Test.YtcjnblbphhfjeabLeft2
namespace Go.Proofs.Ytcjnblbphhfjeab
open Go.RowKit
set_option maxRecDepth 100000
def leftI (p : Int) (qs : List (List Nat)) (a b c : Int) : Int := (sumN qs a.toNat b.toNat c.toNat : Nat) % p
theorem schemeB_len {p n m k : Int} {qs : List (List Nat)} (h : schemeB p n m k qs = true) : qs.length ≤ 30 := by
  simp only [schemeB, Bool.and_eq_true, decide_eq_true_eq] at h
  exact h.1.2
theorem primeB_bounds {p : Int} (h : primeB p = true) : 2 ≤ p ∧ p ≤ 5 := by
  simp only [primeB, Bool.or_eq_true, beq_iff_eq] at h
  omega
end Go.Proofs.Ytcjnblbphhfjeab
