/-
  laws.markProductS, markScheme, heldProductS, heldScheme: the cells of a slice of products get numbers one after the other; such a slice still holds them.
  Calls that answer a scheme and a code; what the marks of a law leave.
-/
import Derived.Test.YtolgfpcadfjliaaEqs
import Derived.Laws.AppendOwn
namespace Go.Proofs.Ytolgfpcadfjliaa
open Go.RowKit
set_option maxRecDepth 100000
def markV (k i : Nat) : Value := .int .u8 (((k + i) % 256 : Nat) : Int)
def markC (cs : Array Value) (k N : Nat) : Array Value := ((List.range N).map (markV k) ++ cs.toList.drop N).toArray
theorem markC_zero (cs : Array Value) (k : Nat) : markC cs k 0 = cs := by simp [markC]
theorem markC_size {cs : Array Value} {k N : Nat} (h : N ≤ cs.size) : (markC cs k N).size = cs.size := by simp [markC]; omega
theorem markC_step {cs : Array Value} {k N : Nat} (h : N < cs.size) : (markC cs k N).setIfInBounds N (markV k N) = markC cs k (N + 1) := by
  apply Array.ext'
  have hl : ((List.range N).map (markV k)).length = N := by simp
  simp only [markC, Array.toList_setIfInBounds]
  rw [List.set_append_right _ _ (by omega), hl, Nat.sub_self, List.drop_eq_getElem_cons (by simpa using h), List.set_cons_zero, List.range_succ, List.map_append, List.append_assoc]
  rfl
theorem markC_get {cs : Array Value} {k N i : Nat} (h : i < N) : (markC cs k N)[i]? = some (markV k i) := by
  simp only [markC, List.getElem?_toArray]
  rw [List.getElem?_append_left (by simpa using h)]
  simp [h]
theorem grown_drew {w w' : World} {r : Option Nat} (h : w.grownBy w' r) : w.grownBy w'.drew r := ⟨h.os, h.tape, h.output, h.size, h.block⟩
theorem grown_refl (w : World) (r : Option Nat) : w.grownBy w r := ⟨rfl, rfl, rfl, Nat.le_refl _, fun _ _ _ => rfl⟩
theorem grown_trans {w w' w'' : World} {r : Option Nat} (h : w.grownBy w' r) (h' : w'.grownBy w'' r) : w.grownBy w'' r :=
  ⟨h'.os.trans h.os, h'.tape.trans h.tape, h'.output.trans h.output, Nat.le_trans h.size h'.size, fun k hk hne => (h'.block k (Nat.lt_of_lt_of_le hk h.size) hne).trans (h.block k hk hne)⟩
theorem grown_setCell {w w' : World} {g : Nat} (h : w.grownBy w' (some g)) (i : Nat) (v : Value) : w.grownBy (w'.setCell ⟨g, i, none⟩ v) (some g) :=
  ⟨h.os, h.tape, h.output, by rw [size_setCell']; exact h.size, fun k hk hne => (heap_setCell_ne _ _ _ _ _ (fun e => hne (by rw [e]))).trans (h.block k hk hne)⟩
def MarkRel (w : World) (g : Nat) (cs : Array Value) (t : TypeId) (k N : Nat) (kv : Value) (wr : World) : Prop :=
  kv = .int .i64 ((k + N : Nat) : Int) ∧ At wr g (.cells (markC cs k N) t (0, 0)) ∧ w.grownBy wr (some g)
theorem markC_old {w : World} {g k N : Nat} {cs : Array Value} {t : TypeId} (h : At w g (.cells (markC cs k N) t (0, 0))) (hN : N < cs.size) : w.cell? ⟨g, N, none⟩ = some ((markC cs k N)[N]?.getD undef) := by
  rw [h.at_ N, Array.getElem?_eq_getElem (by rw [markC_size (by omega)]; exact hN)]
  rfl
theorem markC_at {w : World} {g k N : Nat} {cs : Array Value} {t : TypeId} {v : Value} (h : At w g (.cells (markC cs k N) t (0, 0))) (hN : N < cs.size) (hv : v = markV k N) : At (w.setCell ⟨g, N, none⟩ v) g (.cells (markC cs k (N + 1)) t (0, 0)) := by
  have p := (Put.cell (i := N) h v).at_
  rw [hv, markC_step hN] at p
  rw [hv]
  exact p
/-! ### A scheme that a call has made: its products lie in a block of its own -/
def Held (w : World) (v : Value) (k n : Nat) : Prop := ∀ g, v.ownBlock = some g → ∀ i, i < n * 27 → w.cell? ⟨g, i, none⟩ = some (markV k i)
def Shp (v : Value) (n : Nat) : Prop := (v = .slice none 0 0 ∧ n = 0) ∨ ∃ g c, v = .slice (some ⟨g, 0, none⟩) n c
end Go.Proofs.Ytolgfpcadfjliaa
namespace Go.Proofs.Ytolgfpcadfjliaa
open Go.RowKit
set_option maxRecDepth 100000
theorem At.grown {w w' : World} {g : Nat} {o : Obj} {r : Option Nat} (h : At w g o) (hb : w.grownBy w' r) (hne : some g ≠ r) : At w' g o := (hb.block g h.lt hne).trans h
theorem Held.below {w w' : World} {v : Value} {k n : Nat} (h : Held w v k n) (hb : Below w.heap.size w w') : Held w' v k n := fun g hg i hi => by
  have := h g hg i hi
  rw [hb.cell (p := ⟨g, i, none⟩) (block_lt_of_cell this)]
  exact this
theorem Rd.after {w w' : World} {A : Option Addr} {qs : List (List Nat)} (h : Rd w A qs) (hb : Below w.heap.size w w') : Rd w' A qs := h.keep hb
end Go.Proofs.Ytolgfpcadfjliaa
