/-
  laws.toForm, laws.toProduct: the copies are equal; nothing that was there is written.
-/
import Derived.Test.YtmibbggmcaikaaaBase
import Derived.Test.YtmibbggmcaikaaaChecked
import Derived.Outline
namespace Go.Proofs.Ytmibbggmcaikaaa
open Go.RowKit
def ToFormRel (w : World) (f : List Nat) (i : Value) (wr : World) : Prop :=
  ∃ k : Nat, k ≤ 9 ∧ i = .int .i64 k ∧ Sz wr (w.heap.size + 1 + 1 + 1) ∧ Below w.heap.size w wr ∧ At wr w.heap.size (.cells (u8s f) 55 (0, 0)) ∧
    At wr (w.heap.size + 1) (.cells (u8s (List.replicate 9 0)) 56 (0, 0)) ∧ At wr (w.heap.size + 1 + 1) (.cells (u8s (f.take k ++ List.replicate (9 - k) 0)) 56 (0, 0))
end Go.Proofs.Ytmibbggmcaikaaa
