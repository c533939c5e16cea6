/-
  laws.FnExactNumberAt: it returns true.
-/
import Derived.Test.YtdgaphcpoincpaaLawNumberAt
import Derived.Test.YtdgaphcpoincpaaTen5
namespace Go.Proofs.Ytdgaphcpoincpaa
open Go.RowKit
theorem lawNumberAt (xp xn xm xk : Int) (xA : Option Addr) (xc : Nat) (xq : List Int) (i j l : Int) (w : World) (hr : RdI w xA xq) (hn : xq.length ≤ 9223372036854775807) :
    Calls Try.prog 4 #[.agg #[.int .i64 xp, .int .i64 xn, .int .i64 xm, .int .i64 xk, .slice xA xq.length xc], .int .i64 i, .int .i64 j, .int .i64 l] w fun e w' => e = .returned (.bool true) ∧ Below w.heap.size w w' :=
  lawNumberAt_walk xp xn xm xk xA xc xq i j l _ _ w hr hn (fun ht _ w hr => specNumberAt_c xp xn xm xk _ _ xq i j l w hr ht) (fun ht _ w hr => implNumberAt_c xp xn xm xk _ _ xq i j l w hr ht)
end Go.Proofs.Ytdgaphcpoincpaa
