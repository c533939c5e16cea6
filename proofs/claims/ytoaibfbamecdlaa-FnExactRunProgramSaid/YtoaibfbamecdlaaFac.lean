/-
  impl.isFactor. (Made by mkfac.py.)
-/
import Derived.Test.YtoaibfbamecdlaaOk
import Derived.Test.YtoaibfbamecdlaaSx
namespace Go.Proofs.Ytoaibfbamecdlaa
open Go.RowKit
set_option maxRecDepth 100000
attribute [local irreducible] wpList
end Go.Proofs.Ytoaibfbamecdlaa
