/-
  spec.l03AllNormal. (Made by mknrm3.py.)
-/
import Derived.Test.YtopdfblfhdooaaaNrm0
namespace Go.Proofs.Ytopdfblfhdooaaa
open Go.RowKit
set_option maxRecDepth 100000
end Go.Proofs.Ytopdfblfhdooaaa
