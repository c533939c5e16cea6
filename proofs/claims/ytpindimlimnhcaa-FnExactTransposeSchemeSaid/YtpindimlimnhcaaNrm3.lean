/-
  spec.l03AllNormal. (Made by mknrm3.py.)
-/
import Derived.Test.YtpindimlimnhcaaNrm0
namespace Go.Proofs.Ytpindimlimnhcaa
open Go.RowKit
set_option maxRecDepth 100000
end Go.Proofs.Ytpindimlimnhcaa
