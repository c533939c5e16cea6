/-
  laws.FnExactRaiseBorder: it returns true. (Made by mkglue.py.)
-/
import Derived.Test.YtlpdglmjejfmhaaLawRaiseBorder
import Derived.Test.YtlpdglmjejfmhaaTw9
namespace Go.Proofs.Ytlpdglmjejfmhaa
open Go.RowKit
theorem lawRaiseBorder (xp xn xm xk : Int) (xA : Option Addr) (xc : Nat) (xq : List (List Nat)) (y : Int) (w : World) (hr_x : RdT w xA xq) (hn_x : xq.length ≤ 9223372036854775807) :
    Calls Try.prog 5 #[.agg #[.int .i64 xp, .int .i64 xn, .int .i64 xm, .int .i64 xk, .slice xA xq.length xc], .int .i64 y] w fun e w' => e = .returned (.bool true) ∧ Below w.heap.size w w' :=
  lawRaiseBorder_walk xp xn xm xk xA xc xq y _ _ _ _ _ _ w hr_x hn_x (rai_bytes hr_x.good) rai_len (fun t_x _g_x w h_x => specRaiseBorder_c xp xn xm xk _ _ xq y w h_x t_x) (fun t_x _g_x w h_x => implRaiseBorder_c xp xn xm xk _ _ xq y w h_x t_x)
end Go.Proofs.Ytlpdglmjejfmhaa
