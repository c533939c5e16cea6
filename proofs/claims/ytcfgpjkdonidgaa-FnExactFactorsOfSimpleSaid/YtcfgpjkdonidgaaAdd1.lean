/-
  impl.withProducts, spec.l01Empty; an append of products that are read.
-/
import Derived.Test.YtcfgpjkdonidgaaConcat
import Derived.Test.YtcfgpjkdonidgaaLK1
namespace Go.Proofs.Ytcfgpjkdonidgaa
open Go.RowKit
set_option maxRecDepth 100000
end Go.Proofs.Ytcfgpjkdonidgaa
