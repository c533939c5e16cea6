/-
  spec.l03AllNormal. (Made by mknrm3.py.)
-/
import Derived.Test.YtolbkaojhkgidaaNrm0
namespace Go.Proofs.Ytolbkaojhkgidaa
open Go.RowKit
set_option maxRecDepth 100000
end Go.Proofs.Ytolbkaojhkgidaa
