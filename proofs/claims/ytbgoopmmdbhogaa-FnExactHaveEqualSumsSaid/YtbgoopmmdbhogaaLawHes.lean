/-
  laws.FnExactHaveEqualSums: it returns true.
-/
import Derived.Test.YtbgoopmmdbhogaaLawHaveEqualSums
import Derived.Test.YtbgoopmmdbhogaaHe4
namespace Go.Proofs.Ytbgoopmmdbhogaa
open Go.RowKit
theorem lawHaveEqualSums (xp xn xm xk : Int) (xA : Option Addr) (xc : Nat) (xq : List (List Nat)) (yp yn ym yk : Int) (yA : Option Addr) (yc : Nat) (yq : List (List Nat)) (w : World) (hrx : Rd w xA xq) (hnx : xq.length ≤ 9223372036854775807) (hry : Rd w yA yq) (hny : yq.length ≤ 9223372036854775807) :
    Calls Try.prog 6 #[.agg #[.int .i64 xp, .int .i64 xn, .int .i64 xm, .int .i64 xk, .slice xA xq.length xc], .agg #[.int .i64 yp, .int .i64 yn, .int .i64 ym, .int .i64 yk, .slice yA yq.length yc]] w fun e w' => e = .returned (.bool true) ∧ Below w.heap.size w w' :=
  lawHaveEqualSums_walk xp xn xm xk xA xc xq yp yn ym yk yA yc yq _ _ w hrx hnx hry hny
    (fun tx ty _gx _gy w hx hy => specHaveEqualSums_c xp xn xm xk _ _ xq yp yn ym yk _ _ yq w hx tx hy ty)
    (fun tx ty _gx _gy w hx hy => implHaveEqualSums_c xp xn xm xk _ _ xq yp yn ym yk _ _ yq w hx tx hy ty)
end Go.Proofs.Ytbgoopmmdbhogaa
