/-
  spec.l03AllNormal. (Made by mknrm3.py.)
-/
import Derived.Test.YtelicajipilhjaaNrm0
namespace Go.Proofs.Ytelicajipilhjaa
open Go.RowKit
set_option maxRecDepth 100000
end Go.Proofs.Ytelicajipilhjaa
