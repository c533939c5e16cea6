/-
  Calls that answer a scheme and a code; what the marks of a law leave.
-/
import Derived.Test.YtlipoaamhmbliaaMark
namespace Go.Proofs.Ytlipoaamhmbliaa
open Go.RowKit
set_option maxRecDepth 100000
theorem At.grown {w w' : World} {g : Nat} {o : Obj} {r : Option Nat} (h : At w g o) (hb : w.grownBy w' r) (hne : some g ≠ r) : At w' g o := (hb.block g h.lt hne).trans h
theorem Held.below {w w' : World} {v : Value} {k n : Nat} (h : Held w v k n) (hb : Below w.heap.size w w') : Held w' v k n := fun g hg i hi => by
  have := h g hg i hi
  rw [hb.cell (p := ⟨g, i, none⟩) (block_lt_of_cell this)]
  exact this
theorem Rd.after {w w' : World} {A : Option Addr} {qs : List (List Nat)} (h : Rd w A qs) (hb : Below w.heap.size w w') : Rd w' A qs := h.keep hb
end Go.Proofs.Ytlipoaamhmbliaa
