/-
  laws.FnExactRanksOf: it returns true. (Made by mkglue.py.)
-/
import Derived.Test.YtebmkmkhfhmfbaaLawRanksOf
import Derived.Test.YtebmkmkhfhmfbaaRb6
namespace Go.Proofs.Ytebmkmkhfhmfbaa
open Go.RowKit
theorem lawRanksOf (xp xn xm xk : Int) (xA : Option Addr) (xc : Nat) (xq : List (List Nat)) (w : World) (hr_x : Rd w xA xq) (hn_x : xq.length ≤ 9223372036854775807) :
    Calls Try.prog 3 #[.agg #[.int .i64 xp, .int .i64 xn, .int .i64 xm, .int .i64 xk, .slice xA xq.length xc]] w fun e w' => e = .returned (.bool true) ∧ Below w.heap.size w w' :=
  lawRanksOf_walk xp xn xm xk xA xc xq _ _ _ w hr_x hn_x ra_ok (fun t_x _g_x w h_x => specRanksOf_c xp xn xm xk _ _ xq w h_x t_x) (fun t_x _g_x w h_x => implRanksOf_c xp xn xm xk _ _ xq w h_x t_x)
end Go.Proofs.Ytebmkmkhfhmfbaa
