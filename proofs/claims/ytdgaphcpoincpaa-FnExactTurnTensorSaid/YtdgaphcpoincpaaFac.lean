/-
  impl.isFactor. (Made by mkfac.py.)
-/
import Derived.Test.YtdgaphcpoincpaaOk
import Derived.Test.YtdgaphcpoincpaaSx
namespace Go.Proofs.Ytdgaphcpoincpaa
open Go.RowKit
set_option maxRecDepth 100000
attribute [local irreducible] wpList
end Go.Proofs.Ytdgaphcpoincpaa
