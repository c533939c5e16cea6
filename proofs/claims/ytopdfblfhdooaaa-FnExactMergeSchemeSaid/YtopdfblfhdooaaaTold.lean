/-
  spec.l03Told: a scheme with those of some products that have no factor 0.
-/
import Derived.Test.YtopdfblfhdooaaaOwnSet
namespace Go.Proofs.Ytopdfblfhdooaaa
open Go.RowKit
set_option maxRecDepth 100000
def nzB (q : List Nat) : Bool := !zeroB (segm q 0 9) && !zeroB (segm q 9 9) && !zeroB (segm q 18 9)
theorem filter_snoc (ps : List (List Nat)) {j : Nat} (hj : j < ps.length) : (ps.take (j + 1)).filter nzB = (ps.take j).filter nzB ++ (if nzB ps[j] then [ps[j]] else []) := by
  rw [List.take_succ_eq_append_getElem hj, List.filter_append]
  congr 1
  by_cases h : nzB ps[j] = true
  · simp [h]
  · simp [h]
theorem filter_le (ps : List (List Nat)) (j : Nat) : ((ps.take j).filter nzB).length ≤ ps.length := Nat.le_trans (List.length_filter_le _ _) (by simp; omega)
end Go.Proofs.Ytopdfblfhdooaaa
