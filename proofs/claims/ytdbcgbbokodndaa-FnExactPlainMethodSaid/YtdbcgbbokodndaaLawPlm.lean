/-
  laws.FnExactPlainMethod: it returns true. (Made by mkglue.py.)
-/
import Derived.Test.YtdbcgbbokodndaaLawPlainMethod
import Derived.Test.YtdbcgbbokodndaaPmi
namespace Go.Proofs.Ytdbcgbbokodndaa
open Go.RowKit
theorem lawPlainMethod (xp xn xm xk : Int) (xA : Option Addr) (xc : Nat) (xq : List Int) (w : World) (hr_x : RdI w xA xq) (hn_x : xq.length ≤ 9223372036854775807) :
    Calls Try.prog 3 #[.agg #[.int .i64 xp, .int .i64 xn, .int .i64 xm, .int .i64 xk, .slice xA xq.length xc]] w fun e w' => e = .returned (.bool true) ∧ Below w.heap.size w w' :=
  lawPlainMethod_walk xp xn xm xk xA xc xq _ _ _ _ _ _ w hr_x hn_x pl_ok.1 pl_ok.2 (fun t_x _g_x w h_x => specPlainMethod_c xp xn xm xk _ _ xq w h_x t_x) (fun t_x _g_x w h_x => implPlainMethod_c xp xn xm xk _ _ xq w h_x t_x)
end Go.Proofs.Ytdbcgbbokodndaa
