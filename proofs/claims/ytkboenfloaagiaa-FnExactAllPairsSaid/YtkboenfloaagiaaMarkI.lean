/-
  laws.eqInt64S, markInt64S, heldInt64S: lists of int64.
-/
import Derived.Test.YtkboenfloaagiaaMark
namespace Go.Proofs.Ytkboenfloaagiaa
open Go.RowKit
set_option maxRecDepth 100000
def i64s (xs : List Int) : List Value := xs.map (Value.int .i64)
theorem i64s_len (xs : List Int) : (i64s xs).length = xs.length := by simp [i64s]
/-- The slice value over 'A' reads as the numbers 'xs'. -/
def RdI (w : World) (A : Option Addr) (xs : List Int) : Prop := xs = [] ∨ ∃ b off, A = some ⟨b, off, none⟩ ∧ ∀ (i : Nat) (x : Int), xs[i]? = some x → w.cell? ⟨b, off + i, none⟩ = some (.int .i64 x)
theorem RdI.at_ {w : World} {A : Option Addr} {xs : List Int} (h : RdI w A xs) {i : Nat} (hi : i < xs.length) : ∃ b off, A = some ⟨b, off, none⟩ ∧ w.cell? ⟨b, off + i, none⟩ = some (.int .i64 xs[i]) := by
  rcases h with rfl | ⟨b, off, hA, hc⟩
  · simp at hi
  · exact ⟨b, off, hA, hc i xs[i] (List.getElem?_eq_getElem hi)⟩
theorem RdI.keep {w w' : World} {A : Option Addr} {xs : List Int} (h : RdI w A xs) (hb : Below w.heap.size w w') : RdI w' A xs := by
  rcases h with h0 | ⟨b, off, hA, hc⟩
  · exact .inl h0
  · refine .inr ⟨b, off, hA, fun i x hi => ?_⟩
    have := hc i x hi
    rw [hb.cell (p := ⟨b, off + i, none⟩) (block_lt_of_cell this)]
    exact this
def markVI (k i : Nat) : Value := .int .i64 ((k + i : Nat) : Int)
def markCI (cs : Array Value) (k N : Nat) : Array Value := ((List.range N).map (markVI k) ++ cs.toList.drop N).toArray
theorem markCI_zero (cs : Array Value) (k : Nat) : markCI cs k 0 = cs := by simp [markCI]
theorem markCI_size {cs : Array Value} {k N : Nat} (h : N ≤ cs.size) : (markCI cs k N).size = cs.size := by simp [markCI]; omega
theorem markCI_step {cs : Array Value} {k N : Nat} (h : N < cs.size) : (markCI cs k N).setIfInBounds N (markVI k N) = markCI cs k (N + 1) := by
  apply Array.ext'
  have hl : ((List.range N).map (markVI k)).length = N := by simp
  simp only [markCI, Array.toList_setIfInBounds]
  rw [List.set_append_right _ _ (by omega), hl, Nat.sub_self, List.drop_eq_getElem_cons (by simpa using h), List.set_cons_zero, List.range_succ, List.map_append, List.append_assoc]
  rfl
theorem markCI_get {cs : Array Value} {k N i : Nat} (h : i < N) : (markCI cs k N)[i]? = some (markVI k i) := by
  simp only [markCI, List.getElem?_toArray]
  rw [List.getElem?_append_left (by simpa using h)]
  simp [h]
theorem markCI_old {w : World} {g k N : Nat} {cs : Array Value} {t : TypeId} (h : At w g (.cells (markCI cs k N) t (0, 0))) (hN : N < cs.size) : w.cell? ⟨g, N, none⟩ = some ((markCI cs k N)[N]?.getD undef) := by
  rw [h.at_ N, Array.getElem?_eq_getElem (by rw [markCI_size (by omega)]; exact hN)]
  rfl
theorem markCI_at {w : World} {g k N : Nat} {cs : Array Value} {t : TypeId} {v : Value} (h : At w g (.cells (markCI cs k N) t (0, 0))) (hN : N < cs.size) (hv : v = markVI k N) : At (w.setCell ⟨g, N, none⟩ v) g (.cells (markCI cs k (N + 1)) t (0, 0)) := by
  have p := (Put.cell (i := N) h v).at_
  rw [hv, markCI_step hN] at p
  rw [hv]
  exact p
/-! ### A list that a call has made -/
def OwnI (w : World) (lo : Nat) (v : Value) (xs : List Int) : Prop := w.ownsRow lo 2 1 v xs.length (i64s xs)
def HeldI (w : World) (v : Value) (k n : Nat) : Prop := ∀ g, v.ownBlock = some g → ∀ i, i < n → w.cell? ⟨g, i, none⟩ = some (markVI k i)
theorem OwnI.shp {w : World} {lo : Nat} {v : Value} {xs : List Int} (h : OwnI w lo v xs) : Shp v xs.length := by
  rcases h.2 with ⟨hv, hn⟩ | ⟨g, cap, cur, hv, _⟩
  · exact .inl ⟨hv, hn⟩
  · exact .inr ⟨g, cap, hv⟩
theorem OwnI.lt {w : World} {lo : Nat} {v : Value} {xs : List Int} (h : OwnI w lo v xs) {g : Nat} (hg : v.ownBlock = some g) : lo ≤ g ∧ g < w.heap.size := by
  rcases h.2 with ⟨rfl, _⟩ | ⟨g', cap, cur, rfl, hb, hgg, _⟩
  · cases hg
  · simp only [Value.ownBlock, Option.some.injEq] at hg
    subst hg
    exact ⟨hb, (Array.getElem?_eq_some_iff.1 hgg).1⟩
theorem OwnI.below {w w' : World} {lo : Nat} {v : Value} {xs : List Int} (h : OwnI w lo v xs) (hb : Below w.heap.size w w') : OwnI w' lo v xs :=
  World.ownsRow.kept (row := none) h ⟨hb.os, hb.tape, hb.output, hb.size, fun k hk _ => hb.block k hk⟩ (by
    rcases hv : v.ownBlock with _ | g
    · exact .inl rfl
    · exact .inr (by simp))
theorem OwnI.grown {w w' : World} {lo : Nat} {v : Value} {xs : List Int} {r : Option Nat} (h : OwnI w lo v xs) (hb : w.grownBy w' r) (hne : v.ownBlock = none ∨ v.ownBlock ≠ r) : OwnI w' lo v xs :=
  World.ownsRow.kept h hb hne
theorem OwnI.rd {w : World} {lo : Nat} {v : Value} {xs : List Int} (h : OwnI w lo v xs) : ∃ A c, v = .slice A xs.length c ∧ RdI w A xs := by
  rcases h.2 with ⟨rfl, h0⟩ | ⟨g, cap, cur, rfl, hb, hgg, hle, hcap, hsz, ht⟩
  · have : xs = [] := List.length_eq_zero_iff.1 h0
    subst this
    exact ⟨none, 0, rfl, .inl rfl⟩
  · refine ⟨_, _, rfl, .inr ⟨g, 0, rfl, fun i x hi => ?_⟩⟩
    have hlt : i < xs.length := (List.getElem?_eq_some_iff.1 hi).1
    have hA : At w g (.cells cur 2 (0, 0)) := hgg
    rw [hA.at_, Nat.zero_add, ← Array.getElem?_toList]
    have h1 : (cur.toList.take (xs.length * 1))[i]? = (i64s xs)[i]? := by rw [ht]
    rw [List.getElem?_take, if_pos (by omega)] at h1
    rw [h1]
    simp [i64s, hi]
theorem HeldI.below {w w' : World} {v : Value} {k n : Nat} (h : HeldI w v k n) (hb : Below w.heap.size w w') : HeldI w' v k n := fun g hg i hi => by
  have := h g hg i hi
  rw [hb.cell (p := ⟨g, i, none⟩) (block_lt_of_cell this)]
  exact this
end Go.Proofs.Ytkboenfloaagiaa
