/-
  laws.FnExactFlipProducts: it returns true. (Made by mkglue.py.)
-/
import Derived.Test.YtppenoincihoeaaLawFlipProducts
import Derived.Test.YtppenoincihoeaaFq
namespace Go.Proofs.Ytppenoincihoeaa
open Go.RowKit
theorem lawFlipProducts (xp xn xm xk : Int) (xA : Option Addr) (xc : Nat) (xq : List (List Nat)) (y : Int) (z : Int) (u : Int) (v : Int) (w : World) (hr_x : Rd w xA xq) (hn_x : xq.length ≤ 9223372036854775807) :
    Calls Try.prog 3 #[.agg #[.int .i64 xp, .int .i64 xn, .int .i64 xm, .int .i64 xk, .slice xA xq.length xc], .int .i64 y, .int .i64 z, .int .i64 u, .int .i64 v] w fun e w' => e = .returned (.bool true) ∧ Below w.heap.size w w' :=
  lawFlipProducts_walk xp xn xm xk xA xc xq y z u v _ _ _ _ _ _ w hr_x hn_x (fp_ok hr_x.good).1 (fp_ok hr_x.good).2 (fun t_x _g_x w h_x => specFlipProducts_c xp xn xm xk _ _ xq y z u v w h_x t_x) (fun t_x _g_x w h_x => implFlipProducts_c xp xn xm xk _ _ xq y z u v w h_x t_x)
end Go.Proofs.Ytppenoincihoeaa
