/-
  laws.FnExactFactorsOfSimple: it returns true. (Made by mkglue.py.)
-/
import Derived.Test.YtcfgpjkdonidgaaLawFactorsOfSimple
import Derived.Test.YtcfgpjkdonidgaaSf4
namespace Go.Proofs.Ytcfgpjkdonidgaa
open Go.RowKit
theorem lawFactorsOfSimple (xp xn xm xk : Int) (xA : Option Addr) (xc : Nat) (xq : List Int) (w : World) (hr_x : RdI w xA xq) (hn_x : xq.length ≤ 9223372036854775807) :
    Calls Try.prog 4 #[.agg #[.int .i64 xp, .int .i64 xn, .int .i64 xm, .int .i64 xk, .slice xA xq.length xc]] w fun e w' => e = .returned (.bool true) ∧ Below w.heap.size w w' :=
  lawFactorsOfSimple_walk xp xn xm xk xA xc xq _ _ _ w hr_x hn_x fs_ok (fun t_x _g_x w h_x => specFactorsOfSimple_c xp xn xm xk _ _ xq w h_x t_x) (fun t_x _g_x w h_x => implFactorsOfSimple_c xp xn xm xk _ _ xq w h_x t_x)
end Go.Proofs.Ytcfgpjkdonidgaa
