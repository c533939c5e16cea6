/-
  spec.l05Turn. (Made by mktent.py.)
-/
import Derived.Test.YtcndfakbenombaaTenK
namespace Go.Proofs.Ytcndfakbenombaa
open Go.RowKit
set_option maxRecDepth 100000
end Go.Proofs.Ytcndfakbenombaa
