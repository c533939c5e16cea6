/-
  laws.FnExactCountInvertible: it returns true.
-/
import Derived.Test.YtokmchadckcilaaLawCountInvertible
import Derived.Test.YtokmchadckcilaaCi1
namespace Go.Proofs.Ytokmchadckcilaa
open Go.RowKit
theorem lawCountInvertible (p n : Int) (w : World) :
    Calls Try.prog 3 #[.int .i64 p, .int .i64 n] w fun e w' => e = .returned (.bool true) ∧ Below w.heap.size w w' :=
  lawCountInvertible_walk p n _ _ w (fun w => specCountInvertible_c p n w) (fun w => implCountInvertible_c p n w)
end Go.Proofs.Ytokmchadckcilaa
