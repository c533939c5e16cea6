/-
  laws.FnExactSliceOf: it returns true. (Made by mkglue.py.)
-/
import Derived.Test.YtolgfpcadfjliaaLawSliceOf
import Derived.Test.YtolgfpcadfjliaaSl5
namespace Go.Proofs.Ytolgfpcadfjliaa
open Go.RowKit
theorem lawSliceOf (xp xn xm xk : Int) (xA : Option Addr) (xc : Nat) (xq : List Int) (y : Int) (z : Int) (w : World) (hr_x : RdI w xA xq) (hn_x : xq.length ≤ 9223372036854775807) :
    Calls Try.prog 3 #[.agg #[.int .i64 xp, .int .i64 xn, .int .i64 xm, .int .i64 xk, .slice xA xq.length xc], .int .i64 y, .int .i64 z] w fun e w' => e = .returned (.bool true) ∧ Below w.heap.size w w' :=
  lawSliceOf_walk xp xn xm xk xA xc xq y z _ _ _ w hr_x hn_x sl_ok (fun t_x _g_x w h_x => specSliceOf_c xp xn xm xk _ _ xq y z w h_x t_x (Nat.le_refl _)) (fun t_x _g_x w h_x => implSliceOf_c xp xn xm xk _ _ xq y z w h_x t_x (Nat.le_refl _))
end Go.Proofs.Ytolgfpcadfjliaa
