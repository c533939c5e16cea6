/-
  laws.FnExactPlusMove: it returns true.
-/
import Derived.Test.YtbgoopmmdbhogaaLawPlusMove
import Derived.Test.YtbgoopmmdbhogaaPm4
namespace Go.Proofs.Ytbgoopmmdbhogaa
open Go.RowKit
theorem lawPlusMove (p n m k : Int) (A : Option Addr) (c : Nat) (qs : List (List Nat)) (i j : Int) (w : World) (hr : Rd w A qs) (hn : qs.length ≤ 9223372036854775807) :
    Calls Try.prog 4 #[.agg #[.int .i64 p, .int .i64 n, .int .i64 m, .int .i64 k, .slice A qs.length c], .int .i64 i, .int .i64 j] w fun e w' => e = .returned (.bool true) ∧ Below w.heap.size w w' := by
  have good := (pmR_good (p := p) (n := n) (m := m) (k := k) (i := i) (j := j) hr.good)
  exact lawPlusMove_walk p n m k A c qs i j _ _ _ _ _ _ w hr hn good.1 (by omega)
    (fun t g w h => specPlusMove_c p n m k g qs i j w h t) (fun t g w h => implPlusMove_c p n m k g qs i j w h t)
end Go.Proofs.Ytbgoopmmdbhogaa
