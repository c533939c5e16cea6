/-
  laws.FnExactContractTensor: it returns true. (Made by mkglue.py.)
-/
import Derived.Test.YtolgfpcadfjliaaLawContractTensor
import Derived.Test.YtolgfpcadfjliaaCt2
namespace Go.Proofs.Ytolgfpcadfjliaa
open Go.RowKit
theorem lawContractTensor (xp xn xm xk : Int) (xA : Option Addr) (xc : Nat) (xq : List Int) (y : Int) (zA : Option Addr) (zc : Nat) (z : List Int) (w : World) (hr_x : RdI w xA xq) (hn_x : xq.length ≤ 9223372036854775807) (hm_z : RdI w zA z) (hn_z : z.length ≤ 9223372036854775807) :
    Calls Try.prog 4 #[.agg #[.int .i64 xp, .int .i64 xn, .int .i64 xm, .int .i64 xk, .slice xA xq.length xc], .int .i64 y, .slice zA z.length zc] w fun e w' => e = .returned (.bool true) ∧ Below w.heap.size w w' :=
  lawContractTensor_walk xp xn xm xk xA xc xq y zA zc z _ _ _ w hr_x hn_x hm_z hn_z cn_ok (fun t_x t_z _g_x _g_z w h_x h_z => specContractTensor_c xp xn xm xk _ _ xq y _ _ z w h_x t_x (Nat.le_refl _) h_z t_z) (fun t_x t_z _g_x _g_z w h_x h_z => implContractTensor_c xp xn xm xk _ _ xq y _ _ z w h_x t_x (Nat.le_refl _) h_z t_z)
end Go.Proofs.Ytolgfpcadfjliaa
