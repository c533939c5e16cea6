/-
  spec.l03AllNormal. (Made by mknrm3.py.)
-/
import Derived.Test.YtmbjpnkedepijaaNrm0
namespace Go.Proofs.Ytmbjpnkedepijaa
open Go.RowKit
set_option maxRecDepth 100000
end Go.Proofs.Ytmbjpnkedepijaa
