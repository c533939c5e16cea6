/-
  laws.FnExactTurnTensor: it returns true.
-/
import Derived.Test.YtdgaphcpoincpaaLawTurnTensor
import Derived.Test.YtdgaphcpoincpaaTen10
namespace Go.Proofs.Ytdgaphcpoincpaa
open Go.RowKit
theorem lawTurnTensor (xp xn xm xk : Int) (xA : Option Addr) (xc : Nat) (xq : List Int) (w : World) (hr : RdI w xA xq) (hn : xq.length ≤ 9223372036854775807) :
    Calls Try.prog 5 #[.agg #[.int .i64 xp, .int .i64 xn, .int .i64 xm, .int .i64 xk, .slice xA xq.length xc]] w fun e w' => e = .returned (.bool true) ∧ Below w.heap.size w w' :=
  lawTurnTensor_walk xp xn xm xk xA xc xq _ _ _ _ _ _ w hr hn (ttR_len xp xn xm xk xq) (fun ht _ w hr => specTurnTensor_c xp xn xm xk _ _ xq w hr ht) (fun ht _ w hr => implTurnTensor_c xp xn xm xk _ _ xq w hr ht)
end Go.Proofs.Ytdgaphcpoincpaa
