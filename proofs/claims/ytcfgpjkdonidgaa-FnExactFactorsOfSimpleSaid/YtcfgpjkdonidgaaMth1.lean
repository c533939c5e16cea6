/-
  Methods as arguments and answers: laws.toMethod, szMethod, eqMethod, markMethod, heldMethod. (Made by mkmth.py.)
-/
import Derived.Test.YtcfgpjkdonidgaaMat1
namespace Go.Proofs.Ytcfgpjkdonidgaa
open Go.RowKit
set_option maxRecDepth 100000
end Go.Proofs.Ytcfgpjkdonidgaa
