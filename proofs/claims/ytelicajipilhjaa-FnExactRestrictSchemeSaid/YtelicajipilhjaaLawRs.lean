/-
  laws.FnExactRestrictScheme: it returns true.
-/
import Derived.Test.YtelicajipilhjaaLawRestrictScheme
import Derived.Test.YtelicajipilhjaaMo6
namespace Go.Proofs.Ytelicajipilhjaa
open Go.RowKit
theorem lawRestrictScheme (xp xn xm xk : Int) (xA : Option Addr) (xc : Nat) (xq : List (List Nat)) (a b c : Int) (w : World) (hr : Rd w xA xq) (hn : xq.length ≤ 9223372036854775807) :
    Calls Try.prog 6 #[.agg #[.int .i64 xp, .int .i64 xn, .int .i64 xm, .int .i64 xk, .slice xA xq.length xc], .int .i64 a, .int .i64 b, .int .i64 c] w fun e w' => e = .returned (.bool true) ∧ Below w.heap.size w w' := by
  by_cases hl : xq.length ≤ 1048576
  · have G := rsR_good (p := xp) (n := xn) (m := xm) (k := xk) (a := a) (b := b) (c := c) hr.good hl
    exact lawRestrictScheme_walk xp xn xm xk xA xc xq a b c _ _ _ _ _ _ w hr hn G.1 G.2
      (fun ht g w hr => specRestrictScheme_c xp xn xm xk _ _ xq a b c w hr ht) (fun ht g w hr => implRestrictScheme_c xp xn xm xk _ _ xq a b c w hr ht)
  · exact lawRestrictScheme_walk xp xn xm xk xA xc xq a b c 0 0 0 0 [] 0 w hr hn (by simp) (by simp) (fun ht => absurd ht hl) (fun ht => absurd ht hl)
end Go.Proofs.Ytelicajipilhjaa
