/-
  impl.normalProduct. (Made by mknrm5.py.)
-/
import Derived.Test.YtelicajipilhjaaNrm4
namespace Go.Proofs.Ytelicajipilhjaa
open Go.RowKit
set_option maxRecDepth 100000
end Go.Proofs.Ytelicajipilhjaa
