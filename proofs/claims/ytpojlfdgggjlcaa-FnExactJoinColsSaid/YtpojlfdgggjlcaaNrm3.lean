/-
  spec.l03AllNormal. (Made by mknrm3.py.)
-/
import Derived.Test.YtpojlfdgggjlcaaNrm0
namespace Go.Proofs.Ytpojlfdgggjlcaa
open Go.RowKit
set_option maxRecDepth 100000
end Go.Proofs.Ytpojlfdgggjlcaa
