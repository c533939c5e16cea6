/-
  laws.FnExactPlainCost: it returns true. (Made by mkglue.py.)
-/
import Derived.Test.YtokmchadckcilaaLawPlainCost
import Derived.Test.YtokmchadckcilaaCs1
namespace Go.Proofs.Ytokmchadckcilaa
open Go.RowKit
theorem lawPlainCost (x : Int) (w : World)  :
    Calls Try.prog 4 #[.int .i64 x] w fun e w' => e = .returned (.bool true) ∧ Below w.heap.size w w' :=
  lawPlainCost_walk x _ _ w   (fun  w  => specPlainCost_c x w ) (fun  w  => implPlainCost_c x w )
end Go.Proofs.Ytokmchadckcilaa
