/-
  impl.withProducts, spec.l01Empty; an append of products that are read.
-/
import Derived.Test.YtlipoaamhmbliaaConcat
import Derived.Test.YtlipoaamhmbliaaApp
namespace Go.Proofs.Ytlipoaamhmbliaa
open Go.RowKit
set_option maxRecDepth 100000
end Go.Proofs.Ytlipoaamhmbliaa
