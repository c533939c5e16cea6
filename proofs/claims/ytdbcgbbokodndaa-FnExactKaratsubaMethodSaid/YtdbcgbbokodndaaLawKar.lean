/-
  laws.FnExactKaratsubaMethod: it returns true. (Made by mkglue.py.)
-/
import Derived.Test.YtdbcgbbokodndaaLawKaratsubaMethod
import Derived.Test.YtdbcgbbokodndaaMt3
namespace Go.Proofs.Ytdbcgbbokodndaa
open Go.RowKit
theorem lawKaratsubaMethod (x : Int) (w : World)  :
    Calls Try.prog 7 #[.int .i64 x] w fun e w' => e = .returned (.bool true) ∧ Below w.heap.size w w' :=
  lawKaratsubaMethod_walk x _ _ _ _ _ _ w  kar_bytes kar_len (fun  w  => specKaratsubaMethod_c x w ) (fun  w  => implKaratsubaMethod_c x w )
end Go.Proofs.Ytdbcgbbokodndaa
