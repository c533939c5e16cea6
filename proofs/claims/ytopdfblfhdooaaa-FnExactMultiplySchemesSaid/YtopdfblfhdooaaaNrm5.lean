/-
  impl.normalProduct. (Made by mknrm5.py.)
-/
import Derived.Test.YtopdfblfhdooaaaNrm4
namespace Go.Proofs.Ytopdfblfhdooaaa
open Go.RowKit
set_option maxRecDepth 100000
end Go.Proofs.Ytopdfblfhdooaaa
