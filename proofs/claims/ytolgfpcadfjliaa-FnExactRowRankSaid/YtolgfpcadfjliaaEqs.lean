/-
  laws.eqForm, eqProduct, eqProductS, eqScheme: they answer whether the lists are equal; nothing that was there is written.
-/
import Derived.Test.YtolgfpcadfjliaaSchemes
import Derived.Maps.RangeWalk
namespace Go.Proofs.Ytolgfpcadfjliaa
open Go.RowKit
theorem eq_of_getD {f g : List Nat} {n : Nat} (hf : f.length = n) (hg : g.length = n) (h : ∀ j, j < n → f[j]?.getD 0 = g[j]?.getD 0) : f = g := by
  apply List.ext_getElem (by omega)
  intro i h1 h2
  have := h i (by omega)
  simpa [h1, h2] using this
def EqProdsRel (w : World) (qs rs : List (List Nat)) (i : Value) (wr : World) : Prop :=
  ∃ k : Nat, k ≤ qs.length ∧ i = .int .i64 k ∧ Below w.heap.size w wr ∧ qs.take k = rs.take k
end Go.Proofs.Ytolgfpcadfjliaa
