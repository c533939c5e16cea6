/-
  laws.FnExactJoinCols: it returns true.
-/
import Derived.Test.YtelicajipilhjaaLawJoinCols
import Derived.Test.YtelicajipilhjaaJn6C
namespace Go.Proofs.Ytelicajipilhjaa
open Go.RowKit
theorem lawJoinCols (xp xn xm xk : Int) (xA : Option Addr) (xc : Nat) (xq : List (List Nat)) (yp yn ym yk : Int) (yA : Option Addr) (yc : Nat) (yq : List (List Nat)) (w : World) (hrx : Rd w xA xq) (hnx : xq.length ≤ 9223372036854775807) (hry : Rd w yA yq) (hny : yq.length ≤ 9223372036854775807) :
    Calls Try.prog 5 #[.agg #[.int .i64 xp, .int .i64 xn, .int .i64 xm, .int .i64 xk, .slice xA xq.length xc], .agg #[.int .i64 yp, .int .i64 yn, .int .i64 ym, .int .i64 yk, .slice yA yq.length yc]] w fun e w' => e = .returned (.bool true) ∧ Below w.heap.size w w' := by
  have G := joR2_good (p := xp) (n := xn) (m := xm) (k := xk) (p' := yp) (n' := yn) (m' := ym) (k' := yk) hrx.good hry.good
  exact lawJoinCols_walk xp xn xm xk xA xc xq yp yn ym yk yA yc yq (joZ2 xp xn xm xk xq yp yn ym yk yq xp) (joZ2 xp xn xm xk xq yp yn ym yk yq xn) (joZ2 xp xn xm xk xq yp yn ym yk yq xm) (joZ2 xp xn xm xk xq yp yn ym yk yq (xk + yk)) (joR2 xp xn xm xk xq yp yn ym yk yq) (joCode2 xp xn xm xk xq yp yn ym yk yq) w hrx hnx hry hny G.1 (by omega)
    (fun hx hy gx gy w h1 h2 => specJoinCols_c xp xn xm xk _ _ xq yp yn ym yk _ _ yq w h1 h2 hx hy) (fun hx hy gx gy w h1 h2 => implJoinCols_c xp xn xm xk _ _ xq yp yn ym yk _ _ yq w h1 h2 hx hy)
end Go.Proofs.Ytelicajipilhjaa
