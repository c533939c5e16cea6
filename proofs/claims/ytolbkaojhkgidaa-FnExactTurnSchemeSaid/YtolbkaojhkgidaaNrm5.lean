/-
  impl.normalProduct. (Made by mknrm5.py.)
-/
import Derived.Test.YtolbkaojhkgidaaNrm4
namespace Go.Proofs.Ytolbkaojhkgidaa
open Go.RowKit
set_option maxRecDepth 100000
end Go.Proofs.Ytolbkaojhkgidaa
