/-
  impl.IsTensor. (Made by mkten4.py.)
-/
import Derived.Test.YtebmkmkhfhmfbaaSx
import Derived.Test.YtebmkmkhfhmfbaaTen3
namespace Go.Proofs.Ytebmkmkhfhmfbaa
open Go.RowKit
set_option maxRecDepth 100000
end Go.Proofs.Ytebmkmkhfhmfbaa
