/-
  laws.FnExactMixedCost: it returns true. (Made by mkglue.py.)
-/
import Derived.Test.YtigcocppbonifaaLawMixedCost
import Derived.Test.YtigcocppbonifaaCsA
namespace Go.Proofs.Ytigcocppbonifaa
open Go.RowKit
end Go.Proofs.Ytigcocppbonifaa
