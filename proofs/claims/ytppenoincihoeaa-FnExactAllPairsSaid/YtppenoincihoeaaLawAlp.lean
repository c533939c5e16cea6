/-
  laws.FnExactAllPairs: it returns true. (Made by mkglue.py.)
-/
import Derived.Test.YtppenoincihoeaaLawAllPairs
import Derived.Test.YtppenoincihoeaaAp
namespace Go.Proofs.Ytppenoincihoeaa
open Go.RowKit
theorem lawAllPairs (x : Int) (y : Int) (z : Int) (w : World)  :
    Calls Try.prog 6 #[.int .i64 x, .int .i64 y, .int .i64 z] w fun e w' => e = .returned (.bool true) ∧ Below w.heap.size w w' :=
  lawAllPairs_walk x y z _ _ w  ap_bytes ap_len (fun  w  => specAllPairs_c x y z w ) (fun  w  => implAllPairs_c x y z w )
end Go.Proofs.Ytppenoincihoeaa
