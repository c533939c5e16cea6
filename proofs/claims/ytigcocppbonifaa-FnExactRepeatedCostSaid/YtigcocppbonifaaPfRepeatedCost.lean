/-
  PROVED: laws.FnExactRepeatedCost returns true for every argument that comes in, and its arguments read afterwards as they read before: impl.RepeatedCost answers as spec.RepeatedCost does
  CONDITIONS: none beyond the row's own.
-/
import Derived.Test.YtigcocppbonifaaRows
import Derived.Test.YtigcocppbonifaaLawRc
import Derived.Test.YtigcocppbonifaaOpen
import Derived.ShutString
import Derived.ChangeOld
import Derived.Below
import Derived.Carry
namespace Go.Proofs.Ytigcocppbonifaa.repeatedCostLaw
open Go.ChangeShapes Go.WideShapes Go.ChangeAt Go.RowKit
theorem own : ownKnob Try.prog.godebug = none := by kernel_rfl
theorem laidOut : laidOutB Try.prog = true := by kernel_rfl
theorem k1 : Try.pinned.checked.prog.funcNamed Rows.fnExactRepeatedCostRow.func = some 3 := by kernel_rfl
theorem k2 : joinedFacts Try.pinned.checked.prog 3 Try.f3 Rows.fnExactRepeatedCostSpec Rows.fnExactRepeatedCostRow = true := by kernel_rfl
theorem k3 : Try.f3.isInstance Try.pinned.checked.prog Rows.fnExactRepeatedCostRow.origin Rows.fnExactRepeatedCostRow.targs := of_decide_eq_true (by kernel_rfl)
theorem k4 : Try.f3.isWrapper Try.pinned.checked.prog Rows.fnExactRepeatedCostRow.wrapper Rows.fnExactRepeatedCostRow.mainSum := by unfold Func.isWrapper; first | (rw [if_pos (by decide +kernel)]; kernel_rfl) | (rw [if_neg (by decide +kernel)]; exact ⟨rfl, rfl⟩)
end Go.Proofs.Ytigcocppbonifaa.repeatedCostLaw
