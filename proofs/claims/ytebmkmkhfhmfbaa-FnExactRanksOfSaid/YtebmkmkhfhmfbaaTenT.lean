/-
  spec.l05Turn. (Made by mktent.py.)
-/
import Derived.Test.YtebmkmkhfhmfbaaTenK
namespace Go.Proofs.Ytebmkmkhfhmfbaa
open Go.RowKit
set_option maxRecDepth 100000
end Go.Proofs.Ytebmkmkhfhmfbaa
