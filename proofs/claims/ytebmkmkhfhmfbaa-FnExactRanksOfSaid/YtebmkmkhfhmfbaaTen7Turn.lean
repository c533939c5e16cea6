/-
  impl.tensorWith with the function literal turned$1. (Made by mkten7.py.)
-/
import Derived.Test.YtebmkmkhfhmfbaaTen6
namespace Go.Proofs.Ytebmkmkhfhmfbaa
open Go.RowKit
set_option maxRecDepth 100000
end Go.Proofs.Ytebmkmkhfhmfbaa
