/-
  laws.FnExactKroneckerMethods: it returns true. (Made by mkglue.py.)
-/
import Derived.Test.YtopdfblfhdooaaaLawKroneckerMethods
import Derived.Test.YtopdfblfhdooaaaKm2
namespace Go.Proofs.Ytopdfblfhdooaaa
open Go.RowKit
theorem lawKroneckerMethods (xp xn xm xk : Int) (xA : Option Addr) (xc : Nat) (xq : List (List Nat)) (yp yn ym yk : Int) (yA : Option Addr) (yc : Nat) (yq : List (List Nat)) (w : World) (hr_x : Rd w xA xq) (hn_x : xq.length ≤ 9223372036854775807) (hr_y : Rd w yA yq) (hn_y : yq.length ≤ 9223372036854775807) :
    Calls Try.prog 3 #[.agg #[.int .i64 xp, .int .i64 xn, .int .i64 xm, .int .i64 xk, .slice xA xq.length xc], .agg #[.int .i64 yp, .int .i64 yn, .int .i64 ym, .int .i64 yk, .slice yA yq.length yc]] w fun e w' => e = .returned (.bool true) ∧ Below w.heap.size w w' :=
  lawKroneckerMethods_walk xp xn xm xk xA xc xq yp yn ym yk yA yc yq _ _ _ _ _ _ w hr_x hn_x hr_y hn_y km_bytes km_len (fun t_x t_y _g_x _g_y w h_x h_y => specKroneckerMethods_c xp xn xm xk _ _ xq yp yn ym yk _ _ yq w h_x t_x h_y t_y) (fun t_x t_y _g_x _g_y w h_x h_y => implKroneckerMethods_c xp xn xm xk _ _ xq yp yn ym yk _ _ yq w h_x t_x h_y t_y)
end Go.Proofs.Ytopdfblfhdooaaa
