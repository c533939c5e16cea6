/-
  laws.FnExactLowestPowers: it returns true. (Made by mkglue.py.)
-/
import Derived.Test.YtlpdglmjejfmhaaLawLowestPowers
import Derived.Test.YtlpdglmjejfmhaaTwB
namespace Go.Proofs.Ytlpdglmjejfmhaa
open Go.RowKit
theorem lawLowestPowers (xp xn xm xk : Int) (xA : Option Addr) (xc : Nat) (xq : List (List Nat)) (w : World) (hr_x : RdT w xA xq) (hn_x : xq.length ≤ 9223372036854775807) :
    Calls Try.prog 7 #[.agg #[.int .i64 xp, .int .i64 xn, .int .i64 xm, .int .i64 xk, .slice xA xq.length xc]] w fun e w' => e = .returned (.bool true) ∧ Below w.heap.size w w' :=
  lawLowestPowers_walk xp xn xm xk xA xc xq _ _ _ w hr_x hn_x (lp_small _ _ _ _ _) (fun t_x _g_x w h_x => specLowestPowers_c xp xn xm xk _ _ xq w h_x t_x) (fun t_x _g_x w h_x => implLowestPowers_c xp xn xm xk _ _ xq w h_x t_x)
end Go.Proofs.Ytlpdglmjejfmhaa
