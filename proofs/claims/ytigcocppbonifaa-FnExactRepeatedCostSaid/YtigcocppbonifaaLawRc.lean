/-
  laws.FnExactRepeatedCost: it returns true. (Made by mkglue.py.)
-/
import Derived.Test.YtigcocppbonifaaLawRepeatedCost
import Derived.Test.YtigcocppbonifaaCsA
namespace Go.Proofs.Ytigcocppbonifaa
open Go.RowKit
end Go.Proofs.Ytigcocppbonifaa
