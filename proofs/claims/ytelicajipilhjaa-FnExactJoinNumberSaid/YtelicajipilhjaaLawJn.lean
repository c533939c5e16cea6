/-
  laws.FnExactJoinNumber: it returns true.
-/
import Derived.Test.YtelicajipilhjaaLawJoinNumber
import Derived.Test.YtelicajipilhjaaNum5
namespace Go.Proofs.Ytelicajipilhjaa
open Go.RowKit
theorem lawJoinNumber (n m k : Int) (w : World) :
    Calls Try.prog 7 #[.int .i64 n, .int .i64 m, .int .i64 k] w fun e w' => e = .returned (.bool true) ∧ Below w.heap.size w w' :=
  lawJoinNumber_walk n m k _ _ w (fun w => specJoinNumber_c n m k w) (fun w => implJoinNumber_c n m k w)
end Go.Proofs.Ytelicajipilhjaa
