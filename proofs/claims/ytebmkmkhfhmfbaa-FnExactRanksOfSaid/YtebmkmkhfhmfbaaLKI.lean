/-
  laws.eqInt64S, markInt64S, heldInt64S: lists of int64.
  For the laws' walks: lists of int64.
-/
import Derived.Test.YtebmkmkhfhmfbaaMark
import Derived.Test.YtebmkmkhfhmfbaaLK1
namespace Go.Proofs.Ytebmkmkhfhmfbaa
open Go.RowKit
set_option maxRecDepth 100000
def i64s (xs : List Int) : List Value := xs.map (Value.int .i64)
theorem i64s_len (xs : List Int) : (i64s xs).length = xs.length := by simp [i64s]
/-- The slice value over 'A' reads as the numbers 'xs'. -/
def RdI (w : World) (A : Option Addr) (xs : List Int) : Prop := xs = [] ∨ ∃ b off, A = some ⟨b, off, none⟩ ∧ ∀ (i : Nat) (x : Int), xs[i]? = some x → w.cell? ⟨b, off + i, none⟩ = some (.int .i64 x)
theorem RdI.at_ {w : World} {A : Option Addr} {xs : List Int} (h : RdI w A xs) {i : Nat} (hi : i < xs.length) : ∃ b off, A = some ⟨b, off, none⟩ ∧ w.cell? ⟨b, off + i, none⟩ = some (.int .i64 xs[i]) := by
  rcases h with rfl | ⟨b, off, hA, hc⟩
  · simp at hi
  · exact ⟨b, off, hA, hc i xs[i] (List.getElem?_eq_getElem hi)⟩
theorem RdI.keep {w w' : World} {A : Option Addr} {xs : List Int} (h : RdI w A xs) (hb : Below w.heap.size w w') : RdI w' A xs := by
  rcases h with h0 | ⟨b, off, hA, hc⟩
  · exact .inl h0
  · refine .inr ⟨b, off, hA, fun i x hi => ?_⟩
    have := hc i x hi
    rw [hb.cell (p := ⟨b, off + i, none⟩) (block_lt_of_cell this)]
    exact this
set_option maxHeartbeats 800000 in
theorem eqInt64S_c (A B : Option Addr) (c d : Nat) (xs : List Int) (w : World) (ha : RdI w A xs) (hb : RdI w B xs) (hn : xs.length ≤ 9000000000000000000) :
    Calls Try.prog 27 #[.slice A xs.length c, .slice B xs.length d] w fun e w' => e = .returned (.bool true) ∧ Below w.heap.size w w' := by
  have hbl : (((xs.length : Nat) : Int) != ((xs.length : Nat) : Int)) = false := by simp
  go_enter Try.func27, Try.ntmps27
  go_wp2_with fail
  go_loopw [5] (fun i wr => ∃ k : Nat, k ≤ xs.length ∧ i = .int .i64 k ∧ Below w.heap.size w wr) (fun i _ => xs.length - (intOf i).toNat)
  case atStart => exact ⟨0, by omega, rfl, Below.refl _ _⟩
  case round =>
    obtain ⟨k, hk, rfl, hB⟩ := hrel
    by_cases hlt : k < xs.length
    · obtain ⟨b, off, hA0, hc⟩ := (ha.keep hB).at_ hlt
      obtain ⟨b', off', hB0, hc'⟩ := (hb.keep hB).at_ hlt
      subst hA0 hB0
      have hlt' : (k : Int) < (xs.length : Int) := by omega
      generalize xs[k] = x at *
      have hx : (x != x) = false := by simp
      go_wp2_with fail
      go_quiet (fail)
      go_wp2_with fail
      go_roundw
      case rel => exact ⟨k + 1, by omega, by go_num, below_drawn hB _⟩
      case measure => simp [intOf]; omega
    · obtain rfl : k = xs.length := by omega
      go_wp2_with fail
      go_ret
      exact ⟨rfl, hB⟩
def markVI (k i : Nat) : Value := .int .i64 ((k + i : Nat) : Int)
def markCI (cs : Array Value) (k N : Nat) : Array Value := ((List.range N).map (markVI k) ++ cs.toList.drop N).toArray
theorem markCI_zero (cs : Array Value) (k : Nat) : markCI cs k 0 = cs := by simp [markCI]
theorem markCI_size {cs : Array Value} {k N : Nat} (h : N ≤ cs.size) : (markCI cs k N).size = cs.size := by simp [markCI]; omega
theorem markCI_step {cs : Array Value} {k N : Nat} (h : N < cs.size) : (markCI cs k N).setIfInBounds N (markVI k N) = markCI cs k (N + 1) := by
  apply Array.ext'
  have hl : ((List.range N).map (markVI k)).length = N := by simp
  simp only [markCI, Array.toList_setIfInBounds]
  rw [List.set_append_right _ _ (by omega), hl, Nat.sub_self, List.drop_eq_getElem_cons (by simpa using h), List.set_cons_zero, List.range_succ, List.map_append, List.append_assoc]
  rfl
theorem markCI_get {cs : Array Value} {k N i : Nat} (h : i < N) : (markCI cs k N)[i]? = some (markVI k i) := by
  simp only [markCI, List.getElem?_toArray]
  rw [List.getElem?_append_left (by simpa using h)]
  simp [h]
theorem markCI_old {w : World} {g k N : Nat} {cs : Array Value} {t : TypeId} (h : At w g (.cells (markCI cs k N) t (0, 0))) (hN : N < cs.size) : w.cell? ⟨g, N, none⟩ = some ((markCI cs k N)[N]?.getD undef) := by
  rw [h.at_ N, Array.getElem?_eq_getElem (by rw [markCI_size (by omega)]; exact hN)]
  rfl
theorem markCI_at {w : World} {g k N : Nat} {cs : Array Value} {t : TypeId} {v : Value} (h : At w g (.cells (markCI cs k N) t (0, 0))) (hN : N < cs.size) (hv : v = markVI k N) : At (w.setCell ⟨g, N, none⟩ v) g (.cells (markCI cs k (N + 1)) t (0, 0)) := by
  have p := (Put.cell (i := N) h v).at_
  rw [hv, markCI_step hN] at p
  rw [hv]
  exact p
set_option maxHeartbeats 800000 in
theorem markInt64S_at (g c len k : Nat) (cs : Array Value) (t : TypeId) (w : World) (h : At w g (.cells cs t (0, 0))) (hl : len ≤ cs.size) (hn : len ≤ 1048576) (hk : k ≤ 2000000000) :
    Calls Try.prog 30 #[.slice (some ⟨g, 0, none⟩) len c, .int .i64 k] w fun e w' => e = .returned (.int .i64 ((k + len : Nat) : Int)) ∧ At w' g (.cells (markCI cs k len) t (0, 0)) ∧ w.grownBy w' (some g) := by
  go_enter Try.func30, Try.ntmps30
  go_wp2_with fail
  go_loopw [1, 5] (fun kv i wr => ∃ a : Nat, a ≤ len ∧ i = .int .i64 a ∧ kv = .int .i64 ((k + a : Nat) : Int) ∧ At wr g (.cells (markCI cs k a) t (0, 0)) ∧ w.grownBy wr (some g)) (fun _ i _ => len - (intOf i).toNat)
  case atStart => exact ⟨0, by omega, rfl, by simp, by rw [markCI_zero]; exact h, grown_refl _ _⟩
  case round =>
    obtain ⟨a, ha, rfl, rfl, hA, hG⟩ := hrel
    by_cases hlt : a < len
    · have e0 : IntKind.i64.wrap ((a : Int) + 1) = (a : Int) + 1 := IntWalk.i64_in _ (by omega)
      have hN : a < cs.size := by omega
      have x0 : wr.cell? ⟨g, a, none⟩ = some ((markCI cs k a)[a]?.getD undef) := markCI_old hA hN
      have z0 := hA.free a
      go_wp2_with fail
      exact ⟨⟨a + 1, by omega, by go_num, by go_num, markCI_at hA hN (by simp [markVI]), grown_setCell hG _ _⟩, by simp [intOf]; omega⟩
    · obtain rfl : a = len := by omega
      go_wp2_with fail
      go_ret
      exact ⟨rfl, hA, hG⟩
set_option maxHeartbeats 800000 in
theorem heldInt64S_at (g c len k : Nat) (w : World) (hc : ∀ i, i < len → w.cell? ⟨g, i, none⟩ = some (markVI k i)) (hn : len ≤ 1048576) (hk : k ≤ 2000000000) :
    Calls Try.prog 31 #[.slice (some ⟨g, 0, none⟩) len c, .int .i64 k] w fun e w' => e = .returned (.int .i64 ((k + len : Nat) : Int)) ∧ w = w' := by
  have Hc := Lib.hid hc
  clear hc
  go_enter Try.func31, Try.ntmps31
  go_wp2_with fail
  go_loop [1, 5] (fun kv i => ∃ a : Nat, a ≤ len ∧ i = .int .i64 a ∧ kv = .int .i64 ((k + a : Nat) : Int)) (fun _ i => len - (intOf i).toNat)
  case atStart => exact ⟨0, by omega, rfl, by simp⟩
  case round =>
    obtain ⟨a, ha, rfl, rfl⟩ := hrel
    by_cases hlt : a < len
    · have e0 : IntKind.i64.wrap ((a : Int) + 1) = (a : Int) + 1 := IntWalk.i64_in _ (by omega)
      have x0 : w.cell? ⟨g, a, none⟩ = some (.int .i64 ((k : Int) + (a : Int))) := by rw [Hc.out _ hlt, markVI]; congr 1
      go_wp2_with fail
      exact ⟨⟨a + 1, by omega, by go_num, by go_num⟩, by simp [intOf]; omega⟩
    · obtain rfl : a = len := by omega
      go_wp2_with fail
      go_ret
      exact ⟨rfl, rfl⟩
set_option maxHeartbeats 400000 in
theorem markInt64S_nil (A : Option Addr) (c k : Nat) (w : World) :
    Calls Try.prog 30 #[.slice A 0 c, .int .i64 k] w fun e w' => e = .returned (.int .i64 (k : Int)) ∧ w = w' := by
  go_enter Try.func30, Try.ntmps30
  go_wp2_with fail
  go_loop [1, 5] (fun kv i => i = .int .i64 0 ∧ kv = .int .i64 (k : Int)) (fun _ _ => 0)
  case atStart => exact ⟨rfl, rfl⟩
  case round =>
    obtain ⟨rfl, rfl⟩ := hrel
    go_wp2_with fail
    go_ret
    exact ⟨rfl, rfl⟩
set_option maxHeartbeats 400000 in
theorem heldInt64S_nil (A : Option Addr) (c k : Nat) (w : World) :
    Calls Try.prog 31 #[.slice A 0 c, .int .i64 k] w fun e w' => e = .returned (.int .i64 (k : Int)) ∧ w = w' := by
  go_enter Try.func31, Try.ntmps31
  go_wp2_with fail
  go_loop [1, 5] (fun kv i => i = .int .i64 0 ∧ kv = .int .i64 (k : Int)) (fun _ _ => 0)
  case atStart => exact ⟨rfl, rfl⟩
  case round =>
    obtain ⟨rfl, rfl⟩ := hrel
    go_wp2_with fail
    go_ret
    exact ⟨rfl, rfl⟩
/-! ### A list that a call has made -/
def OwnI (w : World) (lo : Nat) (v : Value) (xs : List Int) : Prop := w.ownsRow lo 2 1 v xs.length (i64s xs)
def HeldI (w : World) (v : Value) (k n : Nat) : Prop := ∀ g, v.ownBlock = some g → ∀ i, i < n → w.cell? ⟨g, i, none⟩ = some (markVI k i)
theorem OwnI.shp {w : World} {lo : Nat} {v : Value} {xs : List Int} (h : OwnI w lo v xs) : Shp v xs.length := by
  rcases h.2 with ⟨hv, hn⟩ | ⟨g, cap, cur, hv, _⟩
  · exact .inl ⟨hv, hn⟩
  · exact .inr ⟨g, cap, hv⟩
theorem OwnI.lt {w : World} {lo : Nat} {v : Value} {xs : List Int} (h : OwnI w lo v xs) {g : Nat} (hg : v.ownBlock = some g) : lo ≤ g ∧ g < w.heap.size := by
  rcases h.2 with ⟨rfl, _⟩ | ⟨g', cap, cur, rfl, hb, hgg, _⟩
  · cases hg
  · simp only [Value.ownBlock, Option.some.injEq] at hg
    subst hg
    exact ⟨hb, (Array.getElem?_eq_some_iff.1 hgg).1⟩
theorem OwnI.below {w w' : World} {lo : Nat} {v : Value} {xs : List Int} (h : OwnI w lo v xs) (hb : Below w.heap.size w w') : OwnI w' lo v xs :=
  World.ownsRow.kept (row := none) h ⟨hb.os, hb.tape, hb.output, hb.size, fun k hk _ => hb.block k hk⟩ (by
    rcases hv : v.ownBlock with _ | g
    · exact .inl rfl
    · exact .inr (by simp))
theorem OwnI.grown {w w' : World} {lo : Nat} {v : Value} {xs : List Int} {r : Option Nat} (h : OwnI w lo v xs) (hb : w.grownBy w' r) (hne : v.ownBlock = none ∨ v.ownBlock ≠ r) : OwnI w' lo v xs :=
  World.ownsRow.kept h hb hne
theorem OwnI.rd {w : World} {lo : Nat} {v : Value} {xs : List Int} (h : OwnI w lo v xs) : ∃ A c, v = .slice A xs.length c ∧ RdI w A xs := by
  rcases h.2 with ⟨rfl, h0⟩ | ⟨g, cap, cur, rfl, hb, hgg, hle, hcap, hsz, ht⟩
  · have : xs = [] := List.length_eq_zero_iff.1 h0
    subst this
    exact ⟨none, 0, rfl, .inl rfl⟩
  · refine ⟨_, _, rfl, .inr ⟨g, 0, rfl, fun i x hi => ?_⟩⟩
    have hlt : i < xs.length := (List.getElem?_eq_some_iff.1 hi).1
    have hA : At w g (.cells cur 2 (0, 0)) := hgg
    rw [hA.at_, Nat.zero_add, ← Array.getElem?_toList]
    have h1 : (cur.toList.take (xs.length * 1))[i]? = (i64s xs)[i]? := by rw [ht]
    rw [List.getElem?_take, if_pos (by omega)] at h1
    rw [h1]
    simp [i64s, hi]
theorem markOwnI_c {lo : Nat} {v : Value} {xs : List Int} (k : Nat) (w : World) (h : OwnI w lo v xs) (hn : xs.length ≤ 1048576) (hk : k ≤ 2000000000) :
    Calls Try.prog 30 #[v, .int .i64 k] w fun e w' => e = .returned (.int .i64 ((k + xs.length : Nat) : Int)) ∧ w.grownBy w' v.ownBlock ∧ HeldI w' v k xs.length := by
  rcases h.2 with ⟨rfl, h0⟩ | ⟨g, cap, cur, rfl, hb, hgg, hle, hcap, hsz, ht⟩
  · refine (markInt64S_nil none 0 k w).mono ?_
    rintro e w' ⟨rfl, rfl⟩
    exact ⟨by rw [h0]; simp, grown_refl _ _, fun g hg => by cases hg⟩
  · refine (markInt64S_at g cap xs.length k cur _ w hgg (by omega) hn hk).mono ?_
    rintro e w' ⟨rfl, hA, hG⟩
    refine ⟨rfl, hG, fun g' hg i hi => ?_⟩
    simp only [Value.ownBlock, Option.some.injEq] at hg
    subst hg
    rw [hA.at_, markCI_get hi]
theorem heldOwnI_c {v : Value} {n : Nat} (k : Nat) (w : World) (h : Shp v n) (hh : HeldI w v k n) (hn : n ≤ 1048576) (hk : k ≤ 2000000000) :
    Calls Try.prog 31 #[v, .int .i64 k] w fun e w' => e = .returned (.int .i64 ((k + n : Nat) : Int)) ∧ w = w' := by
  rcases h with ⟨rfl, rfl⟩ | ⟨g, c, rfl⟩
  · refine (heldInt64S_nil none 0 k w).mono ?_
    rintro e w' ⟨rfl, rfl⟩
    exact ⟨by simp, rfl⟩
  · exact heldInt64S_at g c n k w (hh g rfl) hn hk
theorem HeldI.below {w w' : World} {v : Value} {k n : Nat} (h : HeldI w v k n) (hb : Below w.heap.size w w') : HeldI w' v k n := fun g hg i hi => by
  have := h g hg i hi
  rw [hb.cell (p := ⟨g, i, none⟩) (block_lt_of_cell this)]
  exact this
end Go.Proofs.Ytebmkmkhfhmfbaa
namespace Go.Proofs.Ytebmkmkhfhmfbaa
open Go.RowKit
set_option maxRecDepth 100000
theorem OwnI.off {w : World} {lo g : Nat} {v : Value} {xs : List Int} {cs : Array Value} {t : TypeId} (h : OwnI w lo v xs) (hg : At w g (.cells cs t (0, 0))) (ht : t ≠ 2) : some g ≠ v.ownBlock := fun e => by
  rcases h.2 with ⟨rfl, _⟩ | ⟨g', cap, cur, rfl, hb, hgg, _⟩
  · cases e
  · simp only [Value.ownBlock, Option.some.injEq] at e
    subst e
    have h1 : some (Obj.cells cs t (0, 0)) = some (Obj.cells cur 2 (0, 0)) := hg.symm.trans hgg
    simp only [Option.some.injEq, Obj.cells.injEq] at h1
    exact ht h1.2.1
/-- A list of numbers and a list of products lie apart. -/
theorem OwnI.apart {w : World} {lo lo' : Nat} {v v' : Value} {xs : List Int} {qs : List (List Nat)} (h : OwnI w lo v xs) (h' : Own w lo' v' qs) : v.ownBlock = none ∨ v.ownBlock ≠ v'.ownBlock := by
  rcases h.2 with ⟨rfl, _⟩ | ⟨g', cap, cur, rfl, hb, hgg, _⟩
  · exact .inl rfl
  · exact .inr (h'.off (g := g') (cs := cur) (t := 2) hgg (by decide))
theorem OwnI.ne {w w' : World} {lo lo' : Nat} {v v' : Value} {xs xs' : List Int} (h : OwnI w lo v xs) (h' : OwnI w' lo' v' xs') (hl : w.heap.size ≤ lo') : v.ownBlock = none ∨ v.ownBlock ≠ v'.ownBlock := by
  rcases hv : v.ownBlock with _ | g
  · exact .inl rfl
  · refine .inr fun e => ?_
    have h1 := (h.lt hv).2
    have h2 := (h'.lt e.symm).1
    omega
theorem below_grownI {w0 w w' : World} {v : Value} {lo : Nat} {xs : List Int} (h : Below w0.heap.size w0 w) (hb : w.grownBy w' v.ownBlock) (ho : OwnI w lo v xs) (hl : w0.heap.size ≤ lo) : Below w0.heap.size w0 w' :=
  h.grown hb h.size (fun k hk => by have := (ho.lt hk).1; omega)
/-- The call answers this list, in memory of its own, and this code. -/
def ResI (w : World) (xs : List Int) (code : Int) (e : Ending) (w' : World) : Prop :=
  ∃ v, e = .returned (.tuple #[v, .int .i64 code]) ∧ OwnI w' w.heap.size v xs ∧ Below w.heap.size w w'
theorem OwnI.mono {w : World} {lo lo' : Nat} {v : Value} {xs : List Int} (h : OwnI w lo v xs) (hl : lo' ≤ lo) : OwnI w lo' v xs := by
  refine ⟨h.1, ?_⟩
  rcases h.2 with hn | ⟨g, cap, cur, hv, hb, rest⟩
  · exact .inl hn
  · exact .inr ⟨g, cap, cur, hv, Nat.le_trans hl hb, rest⟩
theorem OwnI.nil (w : World) (lo : Nat) : OwnI w lo (.slice none 0 0) [] := World.ownsRow_nil _ _ _ _
theorem OwnI.rd' {w : World} {lo : Nat} {A : Option Addr} {c n : Nat} {xs : List Int} (h : OwnI w lo (.slice A n c) xs) : RdI w A xs := by
  obtain ⟨A', c', e, hr⟩ := h.rd
  simp only [Value.slice.injEq] at e
  rw [e.1]
  exact hr
theorem markInt64S_1 {lo : Nat} {v : Value} {xs : List Int} (w : World) (h : OwnI w lo v xs) (hn : xs.length ≤ 1048576) :
    Calls Try.prog 30 #[v, .int .i64 1] w fun e w' => e = .returned (.int .i64 ((1 + xs.length : Nat) : Int)) ∧ w.grownBy w' v.ownBlock ∧ HeldI w' v 1 xs.length := markOwnI_c 1 w h hn (by omega)
theorem heldInt64S_1 {v : Value} {n : Nat} (w : World) (h : Shp v n) (hh : HeldI w v 1 n) (hn : n ≤ 1048576) :
    Calls Try.prog 31 #[v, .int .i64 1] w fun e w' => e = .returned (.int .i64 ((1 + n : Nat) : Int)) ∧ w = w' := heldOwnI_c 1 w h hh hn (by omega)
theorem OwnI.inn {w : World} {lo : Nat} {v : Value} {xs : List Int} (h : OwnI w lo v xs) : In lo w.heap.size v := fun _ hg => h.lt hg
theorem OwnI.same {w w' : World} {lo hi lo' hi' : Nat} {v : Value} {xs : List Int} (h : OwnI w lo v xs) (i : In lo hi v) (hs : Same lo' hi' w w') (hd : hi ≤ lo' ∨ hi' ≤ lo) : OwnI w' lo v xs := kept_same (w := w) h i hs hd
theorem HeldI.same {w w' : World} {lo hi lo' hi' k n : Nat} {v : Value} (h : HeldI w v k n) (i : In lo hi v) (hs : Same lo' hi' w w') (hd : hi ≤ lo' ∨ hi' ≤ lo) : HeldI w' v k n := fun g hg j hj =>
  cell_same (h g hg j hj) hs (by have := i g hg; omega)
theorem markInt64S_2 {lo : Nat} {v : Value} {xs : List Int} (K : Nat) (kk : Int) (w : World) (hk' : kk = (K : Int)) (h : OwnI w lo v xs) (hn : xs.length ≤ 1048576) (hk : K ≤ 1000000000) :
    Calls Try.prog 30 #[v, .int .i64 kk] w fun e w' => e = .returned (.int .i64 ((K + xs.length : Nat) : Int)) ∧ w.grownBy w' v.ownBlock ∧ HeldI w' v K xs.length := by
  subst hk'
  exact markOwnI_c K w h hn (by omega)
end Go.Proofs.Ytebmkmkhfhmfbaa
