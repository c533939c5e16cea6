/-
  impl.normalProduct. (Made by mknrm5.py.)
-/
import Derived.Test.YtpojlfdgggjlcaaNrm4
namespace Go.Proofs.Ytpojlfdgggjlcaa
open Go.RowKit
set_option maxRecDepth 100000
end Go.Proofs.Ytpojlfdgggjlcaa
