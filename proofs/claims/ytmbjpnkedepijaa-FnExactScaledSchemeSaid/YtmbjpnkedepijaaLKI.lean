/-
  laws.eqInt64S, markInt64S, heldInt64S: lists of int64.
  For the laws' walks: lists of int64.
-/
import Derived.Test.YtmbjpnkedepijaaMark
import Derived.Test.YtmbjpnkedepijaaLK1
namespace Go.Proofs.Ytmbjpnkedepijaa
open Go.RowKit
set_option maxRecDepth 100000
def i64s (xs : List Int) : List Value := xs.map (Value.int .i64)
theorem i64s_len (xs : List Int) : (i64s xs).length = xs.length := by simp [i64s]
/-- The slice value over 'A' reads as the numbers 'xs'. -/
def RdI (w : World) (A : Option Addr) (xs : List Int) : Prop := xs = [] ∨ ∃ b off, A = some ⟨b, off, none⟩ ∧ ∀ (i : Nat) (x : Int), xs[i]? = some x → w.cell? ⟨b, off + i, none⟩ = some (.int .i64 x)
theorem RdI.at_ {w : World} {A : Option Addr} {xs : List Int} (h : RdI w A xs) {i : Nat} (hi : i < xs.length) : ∃ b off, A = some ⟨b, off, none⟩ ∧ w.cell? ⟨b, off + i, none⟩ = some (.int .i64 xs[i]) := by
  rcases h with rfl | ⟨b, off, hA, hc⟩
  · simp at hi
  · exact ⟨b, off, hA, hc i xs[i] (List.getElem?_eq_getElem hi)⟩
theorem RdI.keep {w w' : World} {A : Option Addr} {xs : List Int} (h : RdI w A xs) (hb : Below w.heap.size w w') : RdI w' A xs := by
  rcases h with h0 | ⟨b, off, hA, hc⟩
  · exact .inl h0
  · refine .inr ⟨b, off, hA, fun i x hi => ?_⟩
    have := hc i x hi
    rw [hb.cell (p := ⟨b, off + i, none⟩) (block_lt_of_cell this)]
    exact this
def markVI (k i : Nat) : Value := .int .i64 ((k + i : Nat) : Int)
def markCI (cs : Array Value) (k N : Nat) : Array Value := ((List.range N).map (markVI k) ++ cs.toList.drop N).toArray
theorem markCI_zero (cs : Array Value) (k : Nat) : markCI cs k 0 = cs := by simp [markCI]
theorem markCI_size {cs : Array Value} {k N : Nat} (h : N ≤ cs.size) : (markCI cs k N).size = cs.size := by simp [markCI]; omega
theorem markCI_step {cs : Array Value} {k N : Nat} (h : N < cs.size) : (markCI cs k N).setIfInBounds N (markVI k N) = markCI cs k (N + 1) := by
  apply Array.ext'
  have hl : ((List.range N).map (markVI k)).length = N := by simp
  simp only [markCI, Array.toList_setIfInBounds]
  rw [List.set_append_right _ _ (by omega), hl, Nat.sub_self, List.drop_eq_getElem_cons (by simpa using h), List.set_cons_zero, List.range_succ, List.map_append, List.append_assoc]
  rfl
theorem markCI_get {cs : Array Value} {k N i : Nat} (h : i < N) : (markCI cs k N)[i]? = some (markVI k i) := by
  simp only [markCI, List.getElem?_toArray]
  rw [List.getElem?_append_left (by simpa using h)]
  simp [h]
theorem markCI_old {w : World} {g k N : Nat} {cs : Array Value} {t : TypeId} (h : At w g (.cells (markCI cs k N) t (0, 0))) (hN : N < cs.size) : w.cell? ⟨g, N, none⟩ = some ((markCI cs k N)[N]?.getD undef) := by
  rw [h.at_ N, Array.getElem?_eq_getElem (by rw [markCI_size (by omega)]; exact hN)]
  rfl
theorem markCI_at {w : World} {g k N : Nat} {cs : Array Value} {t : TypeId} {v : Value} (h : At w g (.cells (markCI cs k N) t (0, 0))) (hN : N < cs.size) (hv : v = markVI k N) : At (w.setCell ⟨g, N, none⟩ v) g (.cells (markCI cs k (N + 1)) t (0, 0)) := by
  have p := (Put.cell (i := N) h v).at_
  rw [hv, markCI_step hN] at p
  rw [hv]
  exact p
/-! ### A list that a call has made -/
def OwnI (w : World) (lo : Nat) (v : Value) (xs : List Int) : Prop := w.ownsRow lo 2 1 v xs.length (i64s xs)
def HeldI (w : World) (v : Value) (k n : Nat) : Prop := ∀ g, v.ownBlock = some g → ∀ i, i < n → w.cell? ⟨g, i, none⟩ = some (markVI k i)
theorem OwnI.shp {w : World} {lo : Nat} {v : Value} {xs : List Int} (h : OwnI w lo v xs) : Shp v xs.length := by
  rcases h.2 with ⟨hv, hn⟩ | ⟨g, cap, cur, hv, _⟩
  · exact .inl ⟨hv, hn⟩
  · exact .inr ⟨g, cap, hv⟩
theorem OwnI.lt {w : World} {lo : Nat} {v : Value} {xs : List Int} (h : OwnI w lo v xs) {g : Nat} (hg : v.ownBlock = some g) : lo ≤ g ∧ g < w.heap.size := by
  rcases h.2 with ⟨rfl, _⟩ | ⟨g', cap, cur, rfl, hb, hgg, _⟩
  · cases hg
  · simp only [Value.ownBlock, Option.some.injEq] at hg
    subst hg
    exact ⟨hb, (Array.getElem?_eq_some_iff.1 hgg).1⟩
theorem OwnI.below {w w' : World} {lo : Nat} {v : Value} {xs : List Int} (h : OwnI w lo v xs) (hb : Below w.heap.size w w') : OwnI w' lo v xs :=
  World.ownsRow.kept (row := none) h ⟨hb.os, hb.tape, hb.output, hb.size, fun k hk _ => hb.block k hk⟩ (by
    rcases hv : v.ownBlock with _ | g
    · exact .inl rfl
    · exact .inr (by simp))
theorem OwnI.grown {w w' : World} {lo : Nat} {v : Value} {xs : List Int} {r : Option Nat} (h : OwnI w lo v xs) (hb : w.grownBy w' r) (hne : v.ownBlock = none ∨ v.ownBlock ≠ r) : OwnI w' lo v xs :=
  World.ownsRow.kept h hb hne
theorem OwnI.rd {w : World} {lo : Nat} {v : Value} {xs : List Int} (h : OwnI w lo v xs) : ∃ A c, v = .slice A xs.length c ∧ RdI w A xs := by
  rcases h.2 with ⟨rfl, h0⟩ | ⟨g, cap, cur, rfl, hb, hgg, hle, hcap, hsz, ht⟩
  · have : xs = [] := List.length_eq_zero_iff.1 h0
    subst this
    exact ⟨none, 0, rfl, .inl rfl⟩
  · refine ⟨_, _, rfl, .inr ⟨g, 0, rfl, fun i x hi => ?_⟩⟩
    have hlt : i < xs.length := (List.getElem?_eq_some_iff.1 hi).1
    have hA : At w g (.cells cur 2 (0, 0)) := hgg
    rw [hA.at_, Nat.zero_add, ← Array.getElem?_toList]
    have h1 : (cur.toList.take (xs.length * 1))[i]? = (i64s xs)[i]? := by rw [ht]
    rw [List.getElem?_take, if_pos (by omega)] at h1
    rw [h1]
    simp [i64s, hi]
theorem HeldI.below {w w' : World} {v : Value} {k n : Nat} (h : HeldI w v k n) (hb : Below w.heap.size w w') : HeldI w' v k n := fun g hg i hi => by
  have := h g hg i hi
  rw [hb.cell (p := ⟨g, i, none⟩) (block_lt_of_cell this)]
  exact this
end Go.Proofs.Ytmbjpnkedepijaa
namespace Go.Proofs.Ytmbjpnkedepijaa
open Go.RowKit
set_option maxRecDepth 100000
theorem OwnI.off {w : World} {lo g : Nat} {v : Value} {xs : List Int} {cs : Array Value} {t : TypeId} (h : OwnI w lo v xs) (hg : At w g (.cells cs t (0, 0))) (ht : t ≠ 2) : some g ≠ v.ownBlock := fun e => by
  rcases h.2 with ⟨rfl, _⟩ | ⟨g', cap, cur, rfl, hb, hgg, _⟩
  · cases e
  · simp only [Value.ownBlock, Option.some.injEq] at e
    subst e
    have h1 : some (Obj.cells cs t (0, 0)) = some (Obj.cells cur 2 (0, 0)) := hg.symm.trans hgg
    simp only [Option.some.injEq, Obj.cells.injEq] at h1
    exact ht h1.2.1
/-- A list of numbers and a list of products lie apart. -/
theorem OwnI.apart {w : World} {lo lo' : Nat} {v v' : Value} {xs : List Int} {qs : List (List Nat)} (h : OwnI w lo v xs) (h' : Own w lo' v' qs) : v.ownBlock = none ∨ v.ownBlock ≠ v'.ownBlock := by
  rcases h.2 with ⟨rfl, _⟩ | ⟨g', cap, cur, rfl, hb, hgg, _⟩
  · exact .inl rfl
  · exact .inr (h'.off (g := g') (cs := cur) (t := 2) hgg (by decide))
theorem OwnI.ne {w w' : World} {lo lo' : Nat} {v v' : Value} {xs xs' : List Int} (h : OwnI w lo v xs) (h' : OwnI w' lo' v' xs') (hl : w.heap.size ≤ lo') : v.ownBlock = none ∨ v.ownBlock ≠ v'.ownBlock := by
  rcases hv : v.ownBlock with _ | g
  · exact .inl rfl
  · refine .inr fun e => ?_
    have h1 := (h.lt hv).2
    have h2 := (h'.lt e.symm).1
    omega
theorem below_grownI {w0 w w' : World} {v : Value} {lo : Nat} {xs : List Int} (h : Below w0.heap.size w0 w) (hb : w.grownBy w' v.ownBlock) (ho : OwnI w lo v xs) (hl : w0.heap.size ≤ lo) : Below w0.heap.size w0 w' :=
  h.grown hb h.size (fun k hk => by have := (ho.lt hk).1; omega)
/-- The call answers this list, in memory of its own, and this code. -/
def ResI (w : World) (xs : List Int) (code : Int) (e : Ending) (w' : World) : Prop :=
  ∃ v, e = .returned (.tuple #[v, .int .i64 code]) ∧ OwnI w' w.heap.size v xs ∧ Below w.heap.size w w'
theorem OwnI.mono {w : World} {lo lo' : Nat} {v : Value} {xs : List Int} (h : OwnI w lo v xs) (hl : lo' ≤ lo) : OwnI w lo' v xs := by
  refine ⟨h.1, ?_⟩
  rcases h.2 with hn | ⟨g, cap, cur, hv, hb, rest⟩
  · exact .inl hn
  · exact .inr ⟨g, cap, cur, hv, Nat.le_trans hl hb, rest⟩
theorem OwnI.nil (w : World) (lo : Nat) : OwnI w lo (.slice none 0 0) [] := World.ownsRow_nil _ _ _ _
theorem OwnI.rd' {w : World} {lo : Nat} {A : Option Addr} {c n : Nat} {xs : List Int} (h : OwnI w lo (.slice A n c) xs) : RdI w A xs := by
  obtain ⟨A', c', e, hr⟩ := h.rd
  simp only [Value.slice.injEq] at e
  rw [e.1]
  exact hr
theorem OwnI.inn {w : World} {lo : Nat} {v : Value} {xs : List Int} (h : OwnI w lo v xs) : In lo w.heap.size v := fun _ hg => h.lt hg
theorem OwnI.same {w w' : World} {lo hi lo' hi' : Nat} {v : Value} {xs : List Int} (h : OwnI w lo v xs) (i : In lo hi v) (hs : Same lo' hi' w w') (hd : hi ≤ lo' ∨ hi' ≤ lo) : OwnI w' lo v xs := kept_same (w := w) h i hs hd
theorem HeldI.same {w w' : World} {lo hi lo' hi' k n : Nat} {v : Value} (h : HeldI w v k n) (i : In lo hi v) (hs : Same lo' hi' w w') (hd : hi ≤ lo' ∨ hi' ≤ lo) : HeldI w' v k n := fun g hg j hj =>
  cell_same (h g hg j hj) hs (by have := i g hg; omega)
end Go.Proofs.Ytmbjpnkedepijaa
