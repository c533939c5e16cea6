/-
  laws.FnExactSortScheme: it returns true. (Made by mkglue.py.)
-/
import Derived.Test.YtmbjpnkedepijaaLawSortScheme
import Derived.Test.YtmbjpnkedepijaaSo5
namespace Go.Proofs.Ytmbjpnkedepijaa
open Go.RowKit
theorem lawSortScheme (xp xn xm xk : Int) (xA : Option Addr) (xc : Nat) (xq : List (List Nat)) (w : World) (hr_x : Rd w xA xq) (hn_x : xq.length ≤ 9223372036854775807) :
    Calls Try.prog 3 #[.agg #[.int .i64 xp, .int .i64 xn, .int .i64 xm, .int .i64 xk, .slice xA xq.length xc]] w fun e w' => e = .returned (.bool true) ∧ Below w.heap.size w w' :=
  lawSortScheme_walk xp xn xm xk xA xc xq _ _ _ _ _ _ w hr_x hn_x (so_res hr_x.good).1 (so_res hr_x.good).2 (fun t_x _g_x w h_x => specSortScheme_c xp xn xm xk _ _ xq w h_x t_x) (fun t_x _g_x w h_x => implSortScheme_c xp xn xm xk _ _ xq w h_x t_x)
end Go.Proofs.Ytmbjpnkedepijaa
