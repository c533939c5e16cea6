/-
  laws.FnExactTensorOfScheme: it returns true.
-/
import Derived.Test.YtcmpeoijedddjaaLawTensorOfScheme
import Derived.Test.YtcmpeoijedddjaaTos3
namespace Go.Proofs.Ytcmpeoijedddjaa
open Go.RowKit
theorem lawTensorOfScheme (xp xn xm xk : Int) (xA : Option Addr) (xc : Nat) (xq : List (List Nat)) (w : World) (hr : Rd w xA xq) (hn : xq.length ≤ 9223372036854775807) :
    Calls Try.prog 5 #[.agg #[.int .i64 xp, .int .i64 xn, .int .i64 xm, .int .i64 xk, .slice xA xq.length xc]] w fun e w' => e = .returned (.bool true) ∧ Below w.heap.size w w' :=
  lawTensorOfScheme_walk xp xn xm xk xA xc xq _ _ _ _ _ _ w hr hn (tosR_len xp xn xm xk xq) (fun ht _ w hr => specTensorOfScheme_c xp xn xm xk _ _ xq w hr ht) (fun ht _ w hr => implTensorOfScheme_c xp xn xm xk _ _ xq w hr ht)
end Go.Proofs.Ytcmpeoijedddjaa
