/-
  laws.FnExactGreaterSize: it returns true. (Made by mkglue.py.)
-/
import Derived.Test.YtphccbilldfdpaaLawGreaterSize
import Derived.Test.YtphccbilldfdpaaCs2
namespace Go.Proofs.Ytphccbilldfdpaa
open Go.RowKit
theorem lawGreaterSize (xp xn xm xk : Int) (xA : Option Addr) (xc : Nat) (xq : List (List Nat)) (y : Int) (w : World) (hr_x : Rd w xA xq) (hn_x : xq.length ≤ 9223372036854775807) :
    Calls Try.prog 4 #[.agg #[.int .i64 xp, .int .i64 xn, .int .i64 xm, .int .i64 xk, .slice xA xq.length xc], .int .i64 y] w fun e w' => e = .returned (.bool true) ∧ Below w.heap.size w w' :=
  lawGreaterSize_walk xp xn xm xk xA xc xq y _ _ w hr_x hn_x  (fun t_x _g_x w h_x => specGreaterSize_c xp xn xm xk _ _ xq y w h_x t_x) (fun t_x _g_x w h_x => implGreaterSize_c xp xn xm xk _ _ xq y w h_x t_x)
end Go.Proofs.Ytphccbilldfdpaa
