/-
  laws.FnExactMakeList: it returns true. (Made by mkglue.py.)
-/
import Derived.Test.YtbahcbmmkbokgaaLawMakeList
import Derived.Test.YtbahcbmmkbokgaaMl
namespace Go.Proofs.Ytbahcbmmkbokgaa
open Go.RowKit
theorem lawMakeList (xp xn xm xk : Int) (xA : Option Addr) (xc : Nat) (xq : List (List Nat)) (yA : Option Addr) (yc : Nat) (y : List Int) (zA : Option Addr) (zc : Nat) (z : List Int) (w : World) (hr_x : Rd w xA xq) (hn_x : xq.length ≤ 9223372036854775807) (hm_y : RdI w yA y) (hn_y : y.length ≤ 9223372036854775807) (hm_z : RdI w zA z) (hn_z : z.length ≤ 9223372036854775807) :
    Calls Try.prog 4 #[.agg #[.int .i64 xp, .int .i64 xn, .int .i64 xm, .int .i64 xk, .slice xA xq.length xc], .slice yA y.length yc, .slice zA z.length zc] w fun e w' => e = .returned (.bool true) ∧ Below w.heap.size w w' :=
  lawMakeList_walk xp xn xm xk xA xc xq yA yc y zA zc z _ _ w hr_x hn_x hm_y hn_y hm_z hn_z mk_len (fun t_x t_y t_z _g_x _g_y _g_z w h_x h_y h_z => specMakeList_c xp xn xm xk _ _ xq _ _ y _ _ z w h_x t_x h_y t_y h_z t_z) (fun t_x t_y t_z _g_x _g_y _g_z w h_x h_y h_z => implMakeList_c xp xn xm xk _ _ xq _ _ y _ _ z w h_x t_x h_y t_y h_z t_z)
end Go.Proofs.Ytbahcbmmkbokgaa
