/-
  impl.isFactor. (Made by mkfac.py.)
-/
import Derived.Test.YtolgfpcadfjliaaOk
import Derived.Test.YtolgfpcadfjliaaSx
namespace Go.Proofs.Ytolgfpcadfjliaa
open Go.RowKit
set_option maxRecDepth 100000
attribute [local irreducible] wpList
end Go.Proofs.Ytolgfpcadfjliaa
