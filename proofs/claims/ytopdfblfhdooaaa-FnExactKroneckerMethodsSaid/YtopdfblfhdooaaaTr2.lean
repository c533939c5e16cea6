/-
  impl.transposedForm: the transposed form.
-/
import Derived.Test.YtopdfblfhdooaaaTr0
import Derived.Test.YtopdfblfhdooaaaSizes
import Derived.Laws.Cover3
import Derived.BigRegion
import Derived.BigQuiet
import Derived.Deep.QuietTactic
namespace Go.Proofs.Ytopdfblfhdooaaa
open Go.RowKit
set_option maxRecDepth 100000
section
variable {P : Program} {ops : Array Oper} {rest : List Oper} {o : Oper} {a : Act} {w : World} {Q : Exit → Act → World → Prop}
theorem made_ones (z : Value) (n : Nat) : madeCells #[z] (n * 1) = Array.replicate n z := by
  apply Array.ext
  · simp [size_madeCells]
  · intro i h1 h2
    simp [madeCells, Nat.mod_one]
theorem wpList_make_cells (hg : o.guard = none) (l c : Operand) (t : TypeId) (hop : o.op = Op.makeSlice t l c) (e : TypeId) (z : Value) (b : Nat)
    (ht : P.underlying t = some (.slice e)) (hi : (P.info? e).map (fun i => (i.zero, i.size, i.bytes)) = some (some z, 1, b)) (hzc : z.cells = #[z])
    (n : Nat) (hl : a.eval l = .int .i64 n) (hc : a.eval c = .int .i64 n) (hb : b * n ≤ 281474976710656) (h63 : n ≤ 9223372036854775807)
    (h : ∀ w', New w w' (.cells (Array.replicate n z) e (0, 0)) → wpList P ops Q rest (a.put o.dst (.slice (some ⟨w.heap.size, 0, none⟩) n n)) w') : wpList P ops Q (o :: rest) a w := by
  obtain ⟨i, hi0, hz, h1, h2⟩ := info_parts hi
  refine wpList_plain hg fun K hK => ?_
  have hr := run_make (P := P) w t e i _ ht hi0 hz .i64 .i64 n n (by omega) (Int.le_refl _) (by rw [h2]; omega) (by omega)
  simp only [Int.toNat_natCast, h1, hzc, made_ones] at hr
  unfold Oper.wp
  simp [execOp, hop, hl, hc, hr, Result.andThen]
  exact hK _ _ (h _ (New.alloc _ _))
theorem wpList_toArr (hg : o.guard = none) (arr : TypeId) (x : Operand) (hop : o.op = Op.sliceToArrayPointer arr x) (A : Option Addr) (len cap : Nat) (hx : a.eval x = .slice A len cap) (e : TypeId) (n : Nat)
    (hu : P.underlying arr = some (.array n e)) (hn : n ≤ len)
    (h : wpList P ops Q rest (a.put o.dst (.pointer A)) w) : wpList P ops Q (o :: rest) a w := by
  refine wpList_plain hg fun K hK => ?_
  unfold Oper.wp
  simp [execOp, hop, hx, run_arrayAt w arr e n A len cap hu hn, Result.andThen]
  exact hK _ _ h
end
def ImRel (w : World) (f : List Nat) (rows cols s : Nat) (wr : World) : Prop :=
  Below w.heap.size w wr ∧ At wr w.heap.size (.cells (u8s f) 51 (0, 0)) ∧ At wr (w.heap.size + 1) (.cells #[.int .i64 rows, .int .i64 cols] 74 (0, 0)) ∧ At wr (w.heap.size + 1 + 1) (.cells (u8s (List.replicate 9 0)) 51 (0, 0)) ∧ At wr (w.heap.size + 1 + 1 + 1) (.cells (u8s (trP rows cols f s)) 5 (0, 0))
end Go.Proofs.Ytopdfblfhdooaaa
