/-
  laws.FnExactPolynomialTensor: it returns true. (Made by mkglue.py.)
-/
import Derived.Test.YtdbcgbbokodndaaLawPolynomialTensor
import Derived.Test.YtdbcgbbokodndaaPol
namespace Go.Proofs.Ytdbcgbbokodndaa
open Go.RowKit
theorem lawPolynomialTensor (x : Int) (y : Int) (z : Int) (w : World)  :
    Calls Try.prog 5 #[.int .i64 x, .int .i64 y, .int .i64 z] w fun e w' => e = .returned (.bool true) ∧ Below w.heap.size w w' :=
  lawPolynomialTensor_walk x y z _ _ _ _ _ _ w  pol_len (fun  w  => specPolynomialTensor_c x y z w ) (fun  w  => implPolynomialTensor_c x y z w )
end Go.Proofs.Ytdbcgbbokodndaa
