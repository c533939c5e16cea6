/-
  laws.FnExactIsTensor: it returns true.
-/
import Derived.Test.YtdgaphcpoincpaaLawIsTensor
import Derived.Test.YtdgaphcpoincpaaTen4
namespace Go.Proofs.Ytdgaphcpoincpaa
open Go.RowKit
theorem lawIsTensor (xp xn xm xk : Int) (xA : Option Addr) (xc : Nat) (xq : List Int) (w : World) (hr : RdI w xA xq) (hn : xq.length ≤ 9223372036854775807) :
    Calls Try.prog 3 #[.agg #[.int .i64 xp, .int .i64 xn, .int .i64 xm, .int .i64 xk, .slice xA xq.length xc]] w fun e w' => e = .returned (.bool true) ∧ Below w.heap.size w w' :=
  lawIsTensor_walk xp xn xm xk xA xc xq _ w hr hn (fun ht _ w hr => specIsTensor_c xp xn xm xk _ _ xq w hr ht) (fun ht _ w hr => implIsTensor_c xp xn xm xk _ _ xq w hr ht)
end Go.Proofs.Ytdgaphcpoincpaa
