/-
  laws.toForm, laws.toProduct: the copies are equal; nothing that was there is written.
-/
import Derived.Test.YtmgagljapiaipaaBase
import Derived.Test.YtmgagljapiaipaaChecked
import Derived.Outline
namespace Go.Proofs.Ytmgagljapiaipaa
open Go.RowKit
end Go.Proofs.Ytmgagljapiaipaa
