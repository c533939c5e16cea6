/-
  laws.FnExactRestTensor: it returns true. (Made by mkglue.py.)
-/
import Derived.Test.YtdbcgbbokodndaaLawRestTensor
import Derived.Test.YtdbcgbbokodndaaRts
namespace Go.Proofs.Ytdbcgbbokodndaa
open Go.RowKit
theorem lawRestTensor (x : Int) (yA : Option Addr) (yc : Nat) (y : List Int) (w : World) (hm_y : RdI w yA y) (hn_y : y.length ≤ 9223372036854775807) :
    Calls Try.prog 4 #[.int .i64 x, .slice yA y.length yc] w fun e w' => e = .returned (.bool true) ∧ Below w.heap.size w w' :=
  lawRestTensor_walk x yA yc y _ _ _ _ _ _ w hm_y hn_y rs_len (fun t_y _g_y w h_y => specRestTensor_c x _ _ y w h_y t_y) (fun t_y _g_y w h_y => implRestTensor_c x _ _ y w h_y t_y)
end Go.Proofs.Ytdbcgbbokodndaa
