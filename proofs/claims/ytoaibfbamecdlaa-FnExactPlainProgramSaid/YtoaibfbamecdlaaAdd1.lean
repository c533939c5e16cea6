/-
  impl.withProducts, spec.l01Empty; an append of products that are read.
-/
import Derived.Test.YtoaibfbamecdlaaConcat
import Derived.Test.YtoaibfbamecdlaaLK1
namespace Go.Proofs.Ytoaibfbamecdlaa
open Go.RowKit
set_option maxRecDepth 100000
end Go.Proofs.Ytoaibfbamecdlaa
