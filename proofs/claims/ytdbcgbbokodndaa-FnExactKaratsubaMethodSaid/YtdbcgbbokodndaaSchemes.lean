/-
  laws.toForm, laws.toProduct: the copies are equal; nothing that was there is written.
  laws.toProductS, toScheme, szProductS, szScheme: the copies are equal and lie in new memory; nothing that was there is written.
-/
import Derived.Test.YtdbcgbbokodndaaBase
import Derived.Test.YtdbcgbbokodndaaChecked
import Derived.Outline
namespace Go.Proofs.Ytdbcgbbokodndaa
open Go.RowKit
def ToFormRel (w : World) (f : List Nat) (i : Value) (wr : World) : Prop :=
  ∃ k : Nat, k ≤ 9 ∧ i = .int .i64 k ∧ Sz wr (w.heap.size + 1 + 1 + 1) ∧ Below w.heap.size w wr ∧ At wr w.heap.size (.cells (u8s f) 51 (0, 0)) ∧
    At wr (w.heap.size + 1) (.cells (u8s (List.replicate 9 0)) 52 (0, 0)) ∧ At wr (w.heap.size + 1 + 1) (.cells (u8s (f.take k ++ List.replicate (9 - k) 0)) 52 (0, 0))
end Go.Proofs.Ytdbcgbbokodndaa
namespace Go.Proofs.Ytdbcgbbokodndaa
open Go.RowKit
def ProdsRel (w : World) (g : Nat) (qs : List (List Nat)) (i : Value) (wr : World) : Prop :=
  ∃ k : Nat, k ≤ qs.length ∧ i = .int .i64 k ∧ Below w.heap.size w wr ∧ At wr g (.cells (u8s ((qs.take k).flatten ++ List.replicate ((qs.length - k) * 27) 0)) 54 (0, 0))
/-- The returned slice lies at the head of a new block, which holds just the products. -/
def NewProds (w : World) (qs : List (List Nat)) (e : Ending) (w' : World) : Prop :=
  ∃ g : Nat, e = .returned (.slice (some ⟨g, 0, none⟩) qs.length qs.length) ∧ w.heap.size ≤ g ∧ At w' g (.cells (u8s qs.flatten) 54 (0, 0)) ∧ Below w.heap.size w w'
/-- The returned scheme has new products. -/
def NewScheme (w : World) (p n m k : Int) (qs : List (List Nat)) (e : Ending) (w' : World) : Prop :=
  ∃ g : Nat, e = .returned (.agg #[.int .i64 p, .int .i64 n, .int .i64 m, .int .i64 k, .slice (some ⟨g, 0, none⟩) qs.length qs.length]) ∧ w.heap.size ≤ g ∧ At w' g (.cells (u8s qs.flatten) 54 (0, 0)) ∧ Below w.heap.size w w'
end Go.Proofs.Ytdbcgbbokodndaa
