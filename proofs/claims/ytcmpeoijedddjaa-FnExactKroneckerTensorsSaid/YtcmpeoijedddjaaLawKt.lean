/-
  laws.FnExactKroneckerTensors: it returns true.
-/
import Derived.Test.YtcmpeoijedddjaaLawKroneckerTensors
import Derived.Test.YtcmpeoijedddjaaTenH
namespace Go.Proofs.Ytcmpeoijedddjaa
open Go.RowKit
theorem lawKroneckerTensors (xp xn xm xk : Int) (xA : Option Addr) (xc : Nat) (xq : List Int) (yp yn ym yk : Int) (yA : Option Addr) (yc : Nat) (yq : List Int) (w : World) (hr : RdI w xA xq) (hn : xq.length ≤ 9223372036854775807) (hs : RdI w yA yq) (hm : yq.length ≤ 9223372036854775807) :
    Calls Try.prog 3 #[.agg #[.int .i64 xp, .int .i64 xn, .int .i64 xm, .int .i64 xk, .slice xA xq.length xc], .agg #[.int .i64 yp, .int .i64 yn, .int .i64 ym, .int .i64 yk, .slice yA yq.length yc]] w fun e w' => e = .returned (.bool true) ∧ Below w.heap.size w w' :=
  lawKroneckerTensors_walk xp xn xm xk xA xc xq yp yn ym yk yA yc yq _ _ _ _ _ _ w hr hn hs hm (krR_len xp xn xm xk xq yp yn ym yk yq) (fun ht1 ht2 _ _ w hr hs => specKroneckerTensors_c xp xn xm xk _ _ xq yp yn ym yk _ _ yq w hr ht1 hs ht2) (fun ht1 ht2 _ _ w hr hs => implKroneckerTensors_c xp xn xm xk _ _ xq yp yn ym yk _ _ yq w hr ht1 hs ht2)
end Go.Proofs.Ytcmpeoijedddjaa
