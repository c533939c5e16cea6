/-
  impl.firstWrong.
-/
import Derived.Test.YtpoekhpchhmkaaaFst1
namespace Go.Proofs.Ytpoekhpchhmkaaa
open Go.RowKit
set_option maxRecDepth 100000
def FirstV (w w' : World) (v : Value) : Option (Nat × Nat × Nat) → Prop
  | none => v = .slice none 0 0
  | some (a, b, c) => ∃ g, v = .slice (some ⟨g, 0, none⟩) 3 3 ∧ w.heap.size ≤ g ∧ At w' g (.cells #[.int .i64 a, .int .i64 b, .int .i64 c] 2 (0, 0))
def FirstPost (w : World) (o : Option (Nat × Nat × Nat)) (e : Ending) (w' : World) : Prop := ∃ v, e = .returned v ∧ FirstV w w' v o ∧ Below w.heap.size w w'
def FwRel (w : World) (p n m k : Int) (A : Option Addr) (len cap g : Nat) (W : Nat → Nat → Nat → Bool) (N1 N2 N3 a : Nat) (v : Value) (wr : World) : Prop :=
  KC w p n m k A len cap g wr ∧ ((v = .slice none 0 0 ∧ (runA W N2 N3 a).1 = 0) ∨ ∃ t, FirstV w wr v (some t) ∧ (runA W N2 N3 N1).2 = some t)
def PairRel (w : World) (p n m k : Int) (A : Option Addr) (len cap g : Nat) (ff gg : List Nat) (s7 s8 : Value) (wx : World) : Prop :=
  ∃ g7 g8, s7 = .pointer (some ⟨g7, 0, none⟩) ∧ s8 = .pointer (some ⟨g8, 0, none⟩) ∧ At wx g7 (.cells (u8s ff) 35 (0, 0)) ∧ At wx g8 (.cells (u8s gg) 35 (0, 0)) ∧ KC w p n m k A len cap g wx
theorem FirstV.after {w w1 w2 : World} {v : Value} {t : Nat × Nat × Nat} (h : FirstV w w1 v (some t)) (hb : Below w1.heap.size w1 w2) : FirstV w w2 v (some t) := by
  obtain ⟨a, b, c⟩ := t
  obtain ⟨g, hv, hg, hA⟩ := h
  exact ⟨g, hv, hg, hA.after hb⟩
theorem FirstV.val {w w1 : World} {v : Value} {t : Nat × Nat × Nat} (h : FirstV w w1 v (some t)) : ∃ g, v = .slice (some ⟨g, 0, none⟩) 3 3 := by
  obtain ⟨a, b, c⟩ := t
  obtain ⟨g, hv, _⟩ := h
  exact ⟨g, hv⟩
end Go.Proofs.Ytpoekhpchhmkaaa
