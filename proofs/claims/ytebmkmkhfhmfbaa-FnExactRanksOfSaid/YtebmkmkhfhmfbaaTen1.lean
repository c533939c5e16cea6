/-
  laws.toTensor, szTensor, eqTensor, markTensor, heldTensor; a tensor that came in, read as data.
-/
import Derived.Test.YtebmkmkhfhmfbaaMat1
namespace Go.Proofs.Ytebmkmkhfhmfbaa
open Go.RowKit
set_option maxRecDepth 100000
abbrev TC (p i j k : Int) (A : Option Addr) (len c : Nat) : Array Value := #[.int .i64 p, .int .i64 i, .int .i64 j, .int .i64 k, .slice A len c]
/-- The returned tensor has new numbers. -/
def NewTen (w : World) (p i j k : Int) (xs : List Int) (e : Ending) (w' : World) : Prop :=
  ∃ g : Nat, e = .returned (.agg #[.int .i64 p, .int .i64 i, .int .i64 j, .int .i64 k, .slice (some ⟨g, 0, none⟩) xs.length xs.length]) ∧ w.heap.size ≤ g ∧ At w' g (.cells (iar xs) 2 (0, 0)) ∧ Below w.heap.size w w'
/-- The call answers this tensor, its numbers in memory of its own, and this code. -/
def ResT (w : World) (p i j k : Int) (xs : List Int) (code : Int) (e : Ending) (w' : World) : Prop :=
  ∃ v, e = .returned (.tuple #[.agg #[.int .i64 p, .int .i64 i, .int .i64 j, .int .i64 k, v], .int .i64 code]) ∧ OwnI w' w.heap.size v xs ∧ Below w.heap.size w w'
theorem OwnI.put {w w' : World} {lo g : Nat} {v : Value} {xs : List Int} {o : Obj} (h : OwnI w lo v xs) (hp : Put w w' g o) (hne : some g ≠ v.ownBlock) : OwnI w' lo v xs := by
  refine ⟨h.1, ?_⟩
  rcases h.2 with hn | ⟨g2, cap, cur, rfl, hb, hgg, rest⟩
  · exact .inl hn
  · exact .inr ⟨g2, cap, cur, rfl, hb, hp.other (k := g2) hgg (fun e => hne (by simp [Value.ownBlock, e])), rest⟩
theorem HeldI.put {w w' : World} {v : Value} {k n g : Nat} {o : Obj} (h : HeldI w v k n) (hp : Put w w' g o) (hne : some g ≠ v.ownBlock) : HeldI w' v k n := fun g' hg i hi => by
  have hc := h g' hg i hi
  have hlt := block_lt_of_cell hc
  have hat : At w g' (w.heap[g']) := Array.getElem?_eq_getElem hlt
  have hat' := hp.other hat (fun e => hne (by rw [← e, hg]))
  rw [World.cell?_of_block (a := ⟨g', i, none⟩) (w := w) (show w'.heap[g']? = w.heap[g']? by rw [hat', hat])]
  exact hc
end Go.Proofs.Ytebmkmkhfhmfbaa
