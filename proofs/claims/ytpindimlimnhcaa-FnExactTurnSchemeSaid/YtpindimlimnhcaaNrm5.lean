/-
  impl.normalProduct. (Made by mknrm5.py.)
-/
import Derived.Test.YtpindimlimnhcaaNrm4
namespace Go.Proofs.Ytpindimlimnhcaa
open Go.RowKit
set_option maxRecDepth 100000
end Go.Proofs.Ytpindimlimnhcaa
