/-
  Methods as arguments and answers: laws.toMethod, szMethod, eqMethod, markMethod, heldMethod. (Made by mkmth.py.)
-/
import Derived.Test.YtmbjpnkedepijaaMat1
namespace Go.Proofs.Ytmbjpnkedepijaa
open Go.RowKit
set_option maxRecDepth 100000
/-- The returned scheme has new products. -/
def NewMethod (w : World) (p n m k : Int) (qs : List (List Nat)) (e : Ending) (w' : World) : Prop :=
  ∃ g : Nat, e = .returned (.agg #[.int .i64 p, .int .i64 n, .int .i64 m, .int .i64 k, .slice (some ⟨g, 0, none⟩) qs.length qs.length]) ∧ w.heap.size ≤ g ∧ At w' g (.cells (u8s qs.flatten) 45 (0, 0)) ∧ Below w.heap.size w w'
/-- The call answers this scheme, its products in memory of its own, and this code. -/
def ResH (w : World) (p n m k : Int) (qs : List (List Nat)) (code : Int) (e : Ending) (w' : World) : Prop :=
  ∃ v, e = .returned (.tuple #[.agg #[.int .i64 p, .int .i64 n, .int .i64 m, .int .i64 k, v], .int .i64 code]) ∧ Own w' w.heap.size v qs ∧ Below w.heap.size w w'
end Go.Proofs.Ytmbjpnkedepijaa
