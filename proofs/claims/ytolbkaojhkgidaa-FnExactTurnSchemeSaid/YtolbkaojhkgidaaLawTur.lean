/-
  laws.FnExactTurnScheme: it returns true.
-/
import Derived.Test.YtolbkaojhkgidaaLawTurnScheme
import Derived.Test.YtolbkaojhkgidaaTr6
namespace Go.Proofs.Ytolbkaojhkgidaa
open Go.RowKit
theorem lawTurnScheme (xp xn xm xk : Int) (xA : Option Addr) (xc : Nat) (xq : List (List Nat)) (w : World) (hr : Rd w xA xq) (hn : xq.length ≤ 9223372036854775807) :
    Calls Try.prog 3 #[.agg #[.int .i64 xp, .int .i64 xn, .int .i64 xm, .int .i64 xk, .slice xA xq.length xc]] w fun e w' => e = .returned (.bool true) ∧ Below w.heap.size w w' :=
  have G := eachQs_good (N := turQ xn.toNat xm.toNat xk.toNat) (p := xp) (n := xn) (m := xm) (k := xk) (fun q h => turQ_bytes h) hr.good
  lawTurnScheme_walk xp xn xm xk xA xc xq (nrmZ xp xn xm xk xq xp) (nrmZ xp xn xm xk xq xm) (nrmZ xp xn xm xk xq xk) (nrmZ xp xn xm xk xq xn) _ _ w hr hn G.1 (by have := G.2; omega)
    (fun ht g w hr => specTurnScheme_c xp xn xm xk _ _ xq w hr ht) (fun ht g w hr => implTurnScheme_c xp xn xm xk _ _ xq w hr ht)
end Go.Proofs.Ytolbkaojhkgidaa
