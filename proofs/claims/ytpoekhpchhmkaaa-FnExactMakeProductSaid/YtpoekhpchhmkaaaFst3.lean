/-
  impl.IsCorrect, impl.FirstWrong; spec.FirstWrong.
-/
import Derived.Test.YtpoekhpchhmkaaaFst2
namespace Go.Proofs.Ytpoekhpchhmkaaa
open Go.RowKit
set_option maxRecDepth 100000
theorem okB_of {p n m k : Int} {qs : List (List Nat)} (h : schemeB p n m k qs = true) : okB p n m k qs = (wrS p n m k qs).2.isNone := by
  have hw := wrS_wf p n m k qs
  unfold okB
  rw [h, Bool.true_and]
  cases h2 : (wrS p n m k qs).2 with
  | none => simp [hw.2 h2]
  | some t =>
    have : (wrS p n m k qs).1 ≠ 0 := fun e => by rw [hw.1 e] at h2; cases h2
    simp; omega
end Go.Proofs.Ytpoekhpchhmkaaa
