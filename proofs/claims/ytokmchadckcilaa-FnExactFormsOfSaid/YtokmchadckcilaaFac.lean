/-
  impl.isFactor. (Made by mkfac.py.)
-/
import Derived.Test.YtokmchadckcilaaOk
import Derived.Test.YtokmchadckcilaaSx
namespace Go.Proofs.Ytokmchadckcilaa
open Go.RowKit
set_option maxRecDepth 100000
attribute [local irreducible] wpList
end Go.Proofs.Ytokmchadckcilaa
