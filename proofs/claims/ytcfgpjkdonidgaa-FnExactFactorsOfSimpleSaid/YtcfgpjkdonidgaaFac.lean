/-
  impl.isFactor. (Made by mkfac.py.)
-/
import Derived.Test.YtcfgpjkdonidgaaOk
import Derived.Test.YtcfgpjkdonidgaaSx
namespace Go.Proofs.Ytcfgpjkdonidgaa
open Go.RowKit
set_option maxRecDepth 100000
attribute [local irreducible] wpList
end Go.Proofs.Ytcfgpjkdonidgaa
