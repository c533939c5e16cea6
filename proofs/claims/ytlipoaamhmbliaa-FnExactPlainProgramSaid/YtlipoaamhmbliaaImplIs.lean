/-
  impl.IsScheme answers as spec.IsScheme does.
-/
import Derived.Test.YtlipoaamhmbliaaIs
namespace Go.Proofs.Ytlipoaamhmbliaa
open Go.RowKit
set_option maxRecDepth 100000
theorem schemeB_len {p n m k : Int} {qs : List (List Nat)} (h : schemeB p n m k qs = true) : qs.length ≤ 30 := by
  simp only [schemeB, Bool.and_eq_true, decide_eq_true_eq] at h
  exact h.1.2
theorem schemeB_sizes {p n m k : Int} {qs : List (List Nat)} (h : schemeB p n m k qs = true) : sizesB p n m k = true := by
  simp only [schemeB, Bool.and_eq_true] at h
  exact h.1.1
end Go.Proofs.Ytlipoaamhmbliaa
