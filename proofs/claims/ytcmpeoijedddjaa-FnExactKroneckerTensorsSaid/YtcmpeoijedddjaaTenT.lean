/-
  spec.l05Turn. (Made by mktent.py.)
-/
import Derived.Test.YtcmpeoijedddjaaTenK
namespace Go.Proofs.Ytcmpeoijedddjaa
open Go.RowKit
set_option maxRecDepth 100000
end Go.Proofs.Ytcmpeoijedddjaa
