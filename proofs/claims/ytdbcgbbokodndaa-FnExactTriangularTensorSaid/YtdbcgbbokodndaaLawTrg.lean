/-
  laws.FnExactTriangularTensor: it returns true. (Made by mkglue.py.)
-/
import Derived.Test.YtdbcgbbokodndaaLawTriangularTensor
import Derived.Test.YtdbcgbbokodndaaTri
namespace Go.Proofs.Ytdbcgbbokodndaa
open Go.RowKit
theorem lawTriangularTensor (x : Int) (y : Int) (w : World)  :
    Calls Try.prog 6 #[.int .i64 x, .int .i64 y] w fun e w' => e = .returned (.bool true) ∧ Below w.heap.size w w' :=
  lawTriangularTensor_walk x y _ _ _ _ _ _ w  tri_len (fun  w  => specTriangularTensor_c x y w ) (fun  w  => implTriangularTensor_c x y w )
end Go.Proofs.Ytdbcgbbokodndaa
