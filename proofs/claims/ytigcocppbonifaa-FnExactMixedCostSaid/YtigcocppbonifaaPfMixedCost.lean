/-
  PROVED: laws.FnExactMixedCost returns true for every argument that comes in, and its arguments read afterwards as they read before: impl.MixedCost answers as spec.MixedCost does
  CONDITIONS: none beyond the row's own.
-/
import Derived.Test.YtigcocppbonifaaRows
import Derived.Test.YtigcocppbonifaaLawMc
import Derived.Test.YtigcocppbonifaaOpen
import Derived.ShutString
import Derived.ChangeOld
import Derived.Below
import Derived.Carry
namespace Go.Proofs.Ytigcocppbonifaa.mixedCostLaw
open Go.ChangeShapes Go.WideShapes Go.ChangeAt Go.RowKit
theorem own : ownKnob Try.prog.godebug = none := by kernel_rfl
theorem laidOut : laidOutB Try.prog = true := by kernel_rfl
theorem k1 : Try.pinned.checked.prog.funcNamed Rows.fnExactMixedCostRow.func = some 4 := by kernel_rfl
theorem k2 : joinedFacts Try.pinned.checked.prog 4 Try.f4 Rows.fnExactMixedCostSpec Rows.fnExactMixedCostRow = true := by kernel_rfl
theorem k3 : Try.f4.isInstance Try.pinned.checked.prog Rows.fnExactMixedCostRow.origin Rows.fnExactMixedCostRow.targs := of_decide_eq_true (by kernel_rfl)
theorem k4 : Try.f4.isWrapper Try.pinned.checked.prog Rows.fnExactMixedCostRow.wrapper Rows.fnExactMixedCostRow.mainSum := by unfold Func.isWrapper; first | (rw [if_pos (by decide +kernel)]; kernel_rfl) | (rw [if_neg (by decide +kernel)]; exact ⟨rfl, rfl⟩)
end Go.Proofs.Ytigcocppbonifaa.mixedCostLaw
