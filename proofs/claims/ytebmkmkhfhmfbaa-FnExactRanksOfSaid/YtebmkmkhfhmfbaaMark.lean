/-
  laws.markProductS, markScheme, heldProductS, heldScheme: the cells of a slice of products get numbers one after the other; such a slice still holds them.
  Calls that answer a scheme and a code; what the marks of a law leave.
-/
import Derived.Test.YtebmkmkhfhmfbaaEqs
import Derived.Laws.AppendOwn
namespace Go.Proofs.Ytebmkmkhfhmfbaa
open Go.RowKit
set_option maxRecDepth 100000
def markV (k i : Nat) : Value := .int .u8 (((k + i) % 256 : Nat) : Int)
def markC (cs : Array Value) (k N : Nat) : Array Value := ((List.range N).map (markV k) ++ cs.toList.drop N).toArray
theorem markC_zero (cs : Array Value) (k : Nat) : markC cs k 0 = cs := by simp [markC]
theorem markC_size {cs : Array Value} {k N : Nat} (h : N ≤ cs.size) : (markC cs k N).size = cs.size := by simp [markC]; omega
theorem markC_step {cs : Array Value} {k N : Nat} (h : N < cs.size) : (markC cs k N).setIfInBounds N (markV k N) = markC cs k (N + 1) := by
  apply Array.ext'
  have hl : ((List.range N).map (markV k)).length = N := by simp
  simp only [markC, Array.toList_setIfInBounds]
  rw [List.set_append_right _ _ (by omega), hl, Nat.sub_self, List.drop_eq_getElem_cons (by simpa using h), List.set_cons_zero, List.range_succ, List.map_append, List.append_assoc]
  rfl
theorem markC_get {cs : Array Value} {k N i : Nat} (h : i < N) : (markC cs k N)[i]? = some (markV k i) := by
  simp only [markC, List.getElem?_toArray]
  rw [List.getElem?_append_left (by simpa using h)]
  simp [h]
theorem grown_drew {w w' : World} {r : Option Nat} (h : w.grownBy w' r) : w.grownBy w'.drew r := ⟨h.os, h.tape, h.output, h.size, h.block⟩
theorem grown_refl (w : World) (r : Option Nat) : w.grownBy w r := ⟨rfl, rfl, rfl, Nat.le_refl _, fun _ _ _ => rfl⟩
theorem grown_trans {w w' w'' : World} {r : Option Nat} (h : w.grownBy w' r) (h' : w'.grownBy w'' r) : w.grownBy w'' r :=
  ⟨h'.os.trans h.os, h'.tape.trans h.tape, h'.output.trans h.output, Nat.le_trans h.size h'.size, fun k hk hne => (h'.block k (Nat.lt_of_lt_of_le hk h.size) hne).trans (h.block k hk hne)⟩
theorem grown_setCell {w w' : World} {g : Nat} (h : w.grownBy w' (some g)) (i : Nat) (v : Value) : w.grownBy (w'.setCell ⟨g, i, none⟩ v) (some g) :=
  ⟨h.os, h.tape, h.output, by rw [size_setCell']; exact h.size, fun k hk hne => (heap_setCell_ne _ _ _ _ _ (fun e => hne (by rw [e]))).trans (h.block k hk hne)⟩
def MarkRel (w : World) (g : Nat) (cs : Array Value) (t : TypeId) (k N : Nat) (kv : Value) (wr : World) : Prop :=
  kv = .int .i64 ((k + N : Nat) : Int) ∧ At wr g (.cells (markC cs k N) t (0, 0)) ∧ w.grownBy wr (some g)
theorem markC_old {w : World} {g k N : Nat} {cs : Array Value} {t : TypeId} (h : At w g (.cells (markC cs k N) t (0, 0))) (hN : N < cs.size) : w.cell? ⟨g, N, none⟩ = some ((markC cs k N)[N]?.getD undef) := by
  rw [h.at_ N, Array.getElem?_eq_getElem (by rw [markC_size (by omega)]; exact hN)]
  rfl
theorem markC_at {w : World} {g k N : Nat} {cs : Array Value} {t : TypeId} {v : Value} (h : At w g (.cells (markC cs k N) t (0, 0))) (hN : N < cs.size) (hv : v = markV k N) : At (w.setCell ⟨g, N, none⟩ v) g (.cells (markC cs k (N + 1)) t (0, 0)) := by
  have p := (Put.cell (i := N) h v).at_
  rw [hv, markC_step hN] at p
  rw [hv]
  exact p
set_option maxHeartbeats 1600000 in
theorem markProductS_at (g c len k : Nat) (cs : Array Value) (t : TypeId) (w : World) (h : At w g (.cells cs t (0, 0))) (hl : len * 27 ≤ cs.size) (hn : len ≤ 1048576) (hk : k ≤ 2000000000) :
    Calls Try.prog 29 #[.slice (some ⟨g, 0, none⟩) len c, .int .i64 k] w fun e w' => e = .returned (.int .i64 ((k + len * 27 : Nat) : Int)) ∧ At w' g (.cells (markC cs k (len * 27)) t (0, 0)) ∧ w.grownBy w' (some g) := by
  go_enter Try.func29, Try.ntmps29
  go_wp2_with fail
  go_loopw [1, 5] (fun kv i wr => ∃ a : Nat, a ≤ len ∧ i = .int .i64 a ∧ MarkRel w g cs t k (a * 27) kv wr) (fun _ i _ => len - (intOf i).toNat)
  case atStart => exact ⟨0, by omega, rfl, by simp, by rw [Nat.zero_mul, markC_zero]; exact h, grown_refl _ _⟩
  case round =>
    obtain ⟨a, ha, rfl, rfl, hA, hG⟩ := hrel
    by_cases hlt : a < len
    · have e0 : IntKind.i64.wrap ((a : Int) + 1) = (a : Int) + 1 := IntWalk.i64_in _ (by omega)
      obtain ⟨wo, rfl⟩ : ∃ wo : World, wo = wr := ⟨_, rfl⟩
      go_wp2_with fail
      go_loopw [1, 6] (fun kv i wr => ∃ b : Nat, b ≤ 9 ∧ i = .int .i64 b ∧ MarkRel w g cs t k (a * 27 + b) kv wr) (fun _ i _ => 9 - (intOf i).toNat)
      case atStart => exact ⟨0, by omega, rfl, rfl, hA, hG⟩
      case round =>
        clear hA hG
        obtain ⟨b, hb, rfl, rfl, hA, hG⟩ := hrel
        by_cases hlt2 : b < 9
        · have f0 : IntKind.i64.wrap ((b : Int) + 1) = (b : Int) + 1 := IntWalk.i64_in _ (by omega)
          have hN : a * 27 + b < cs.size := by omega
          have x0 : wr.cell? ⟨g, a * 27 + b, none⟩ = some ((markC cs k (a * 27 + b))[a * 27 + b]?.getD undef) := markC_old hA hN
          have z0 := hA.free (a * 27 + b)
          go_wp2_with fail
          exact ⟨⟨b + 1, by omega, by go_num, by go_num, markC_at hA hN (by simp [markV]; try omega), grown_setCell hG _ _⟩, by simp [intOf]; omega⟩
        · obtain rfl : b = 9 := by omega
          go_wp2_with fail
          go_loopw [1, 7] (fun kv i wr => ∃ b : Nat, b ≤ 9 ∧ i = .int .i64 b ∧ MarkRel w g cs t k (a * 27 + 9 + b) kv wr) (fun _ i _ => 9 - (intOf i).toNat)
          case atStart => exact ⟨0, by omega, rfl, rfl, hA, hG⟩
          case round =>
            clear hA hG
            obtain ⟨b, hb, rfl, rfl, hA, hG⟩ := hrel
            by_cases hlt2 : b < 9
            · have f0 : IntKind.i64.wrap ((b : Int) + 1) = (b : Int) + 1 := IntWalk.i64_in _ (by omega)
              have hN : a * 27 + 9 + b < cs.size := by omega
              have x0 : wr.cell? ⟨g, a * 27 + 9 + b, none⟩ = some ((markC cs k (a * 27 + 9 + b))[a * 27 + 9 + b]?.getD undef) := markC_old hA hN
              have z0 := hA.free (a * 27 + 9 + b)
              go_wp2_with fail
              exact ⟨⟨b + 1, by omega, by go_num, by go_num, markC_at hA hN (by simp [markV]; try omega), grown_setCell hG _ _⟩, by simp [intOf]; omega⟩
            · obtain rfl : b = 9 := by omega
              go_wp2_with fail
              go_loopw [1, 8] (fun kv i wr => ∃ b : Nat, b ≤ 9 ∧ i = .int .i64 b ∧ MarkRel w g cs t k (a * 27 + 9 + 9 + b) kv wr) (fun _ i _ => 9 - (intOf i).toNat)
              case atStart => exact ⟨0, by omega, rfl, rfl, hA, hG⟩
              case round =>
                clear hA hG
                obtain ⟨b, hb, rfl, rfl, hA, hG⟩ := hrel
                by_cases hlt2 : b < 9
                · have f0 : IntKind.i64.wrap ((b : Int) + 1) = (b : Int) + 1 := IntWalk.i64_in _ (by omega)
                  have hN : a * 27 + 9 + 9 + b < cs.size := by omega
                  have x0 : wr.cell? ⟨g, a * 27 + 9 + 9 + b, none⟩ = some ((markC cs k (a * 27 + 9 + 9 + b))[a * 27 + 9 + 9 + b]?.getD undef) := markC_old hA hN
                  have z0 := hA.free (a * 27 + 9 + 9 + b)
                  go_wp2_with fail
                  exact ⟨⟨b + 1, by omega, by go_num, by go_num, markC_at hA hN (by simp [markV]; try omega), grown_setCell hG _ _⟩, by simp [intOf]; omega⟩
                · obtain rfl : b = 9 := by omega
                  go_wp2_with fail
                  exact ⟨⟨a + 1, by omega, by go_num, by go_num, by rw [show (a + 1) * 27 = a * 27 + 9 + 9 + 9 by omega]; exact hA, hG⟩, by simp [intOf]; omega⟩
    · obtain rfl : a = len := by omega
      go_wp2_with fail
      go_ret
      exact ⟨rfl, hA, hG⟩
set_option maxHeartbeats 400000 in
theorem markProductS_nil (A : Option Addr) (c k : Nat) (w : World) :
    Calls Try.prog 29 #[.slice A 0 c, .int .i64 k] w fun e w' => e = .returned (.int .i64 (k : Int)) ∧ w = w' := by
  go_enter Try.func29, Try.ntmps29
  go_wp2_with fail
  go_loop [1, 5] (fun kv i => i = .int .i64 0 ∧ kv = .int .i64 (k : Int)) (fun _ _ => 0)
  case atStart => exact ⟨rfl, rfl⟩
  case round =>
    obtain ⟨rfl, rfl⟩ := hrel
    go_wp2_with fail
    go_ret
    exact ⟨rfl, rfl⟩
/-! ### A scheme that a call has made: its products lie in a block of its own -/
def Own (w : World) (lo : Nat) (v : Value) (qs : List (List Nat)) : Prop := w.ownsRow lo 47 27 v qs.length (u8s qs.flatten).toList
def Held (w : World) (v : Value) (k n : Nat) : Prop := ∀ g, v.ownBlock = some g → ∀ i, i < n * 27 → w.cell? ⟨g, i, none⟩ = some (markV k i)
def Shp (v : Value) (n : Nat) : Prop := (v = .slice none 0 0 ∧ n = 0) ∨ ∃ g c, v = .slice (some ⟨g, 0, none⟩) n c
theorem Own.shp {w : World} {lo : Nat} {v : Value} {qs : List (List Nat)} (h : Own w lo v qs) : Shp v qs.length := by
  rcases h.2 with ⟨hv, hn⟩ | ⟨g, cap, cur, hv, _⟩
  · exact .inl ⟨hv, hn⟩
  · exact .inr ⟨g, cap, hv⟩
theorem Own.lt {w : World} {lo : Nat} {v : Value} {qs : List (List Nat)} (h : Own w lo v qs) {g : Nat} (hg : v.ownBlock = some g) : lo ≤ g ∧ g < w.heap.size := by
  rcases h.2 with ⟨rfl, _⟩ | ⟨g', cap, cur, rfl, hb, hgg, _⟩
  · cases hg
  · simp only [Value.ownBlock, Option.some.injEq] at hg
    subst hg
    exact ⟨hb, (Array.getElem?_eq_some_iff.1 hgg).1⟩
theorem Own.below {w w' : World} {lo : Nat} {v : Value} {qs : List (List Nat)} (h : Own w lo v qs) (hb : Below w.heap.size w w') : Own w' lo v qs :=
  World.ownsRow.kept (row := none) h ⟨hb.os, hb.tape, hb.output, hb.size, fun k hk _ => hb.block k hk⟩ (by
    rcases hv : v.ownBlock with _ | g
    · exact .inl rfl
    · exact .inr (by simp))
theorem Own.drew {w : World} {lo : Nat} {v : Value} {qs : List (List Nat)} (h : Own w lo v qs) : Own w.drew lo v qs := h
theorem Own.grown {w w' : World} {lo : Nat} {v : Value} {qs : List (List Nat)} {r : Option Nat} (h : Own w lo v qs) (hb : w.grownBy w' r) (hne : v.ownBlock = none ∨ v.ownBlock ≠ r) : Own w' lo v qs :=
  World.ownsRow.kept h hb hne
theorem Own.mono {w : World} {lo lo' : Nat} {v : Value} {qs : List (List Nat)} (h : Own w lo v qs) (hl : lo' ≤ lo) : Own w lo' v qs := by
  refine ⟨h.1, ?_⟩
  rcases h.2 with hn | ⟨g, cap, cur, hv, hb, rest⟩
  · exact .inl hn
  · exact .inr ⟨g, cap, cur, hv, Nat.le_trans hl hb, rest⟩
/-- Such a slice value, written out; it reads as the products. -/
theorem Own.rd {w : World} {lo : Nat} {v : Value} {qs : List (List Nat)} (h : Own w lo v qs) (hq : ∀ q ∈ qs, Bytes 27 q) : ∃ A c, v = .slice A qs.length c ∧ Rd w A qs := by
  rcases h.2 with ⟨rfl, h0⟩ | ⟨g, cap, cur, rfl, hb, hgg, hle, hcap, hsz, ht⟩
  · have : qs = [] := List.length_eq_zero_iff.1 h0
    subst this
    exact ⟨none, 0, rfl, Rd.none_ _ _⟩
  · refine ⟨_, _, rfl, hq, .inr ⟨g, 0, rfl, fun i q hi j hj => ?_⟩⟩
    have hl : ∀ q ∈ qs, q.length = 27 := fun q hm => (hq q hm).len
    have hlt : i < qs.length := (List.getElem?_eq_some_iff.1 hi).1
    have e := flat_get hl hi hj
    have hb : i * 27 + j < qs.flatten.length := by
      rw [flat_len hl]
      have : (i + 1) * 27 ≤ qs.length * 27 := Nat.mul_le_mul_right _ hlt
      omega
    have hA : At w g (.cells cur 47 (0, 0)) := hgg
    rw [hA.at_, Nat.zero_add, ← Array.getElem?_toList]
    have h1 : (cur.toList.take (qs.length * 27))[i * 27 + j]? = (u8s qs.flatten).toList[i * 27 + j]? := by rw [ht]
    rw [List.getElem?_take, if_pos (by rw [← flat_len hl]; exact hb)] at h1
    rw [h1, Array.getElem?_toList, u8s_get hb, e]
/-- New products in a block of just their size. -/
theorem Own.of_at {w : World} {lo g : Nat} {qs : List (List Nat)} (h : At w g (.cells (u8s qs.flatten) 47 (0, 0))) (hq : ∀ q ∈ qs, q.length = 27) (hl : lo ≤ g) (hn : qs.length ≤ 1048576) : Own w lo (.slice (some ⟨g, 0, none⟩) qs.length qs.length) qs := by
  refine ⟨by rw [Array.length_toList, u8s_size, flat_len hq], .inr ⟨g, qs.length, u8s qs.flatten, rfl, hl, h, Nat.le_refl _, by unfold maxLen; omega, by rw [u8s_size, flat_len hq], ?_⟩⟩
  rw [List.take_of_length_le (by rw [Array.length_toList, u8s_size, flat_len hq]; exact Nat.le_refl _)]
theorem markOwn_c {lo : Nat} {v : Value} {qs : List (List Nat)} (k : Nat) (w : World) (h : Own w lo v qs) (hn : qs.length ≤ 1048576) (hk : k ≤ 2000000000) :
    Calls Try.prog 29 #[v, .int .i64 k] w fun e w' => e = .returned (.int .i64 ((k + qs.length * 27 : Nat) : Int)) ∧ w.grownBy w' v.ownBlock ∧ Held w' v k qs.length := by
  rcases h.2 with ⟨rfl, h0⟩ | ⟨g, cap, cur, rfl, hb, hgg, hle, hcap, hsz, ht⟩
  · refine (markProductS_nil none 0 k w).mono ?_
    rintro e w' ⟨rfl, rfl⟩
    exact ⟨by rw [h0]; simp, grown_refl _ _, fun g hg => by cases hg⟩
  · have hl : qs.length * 27 ≤ cur.size := by rw [hsz]; exact Nat.mul_le_mul_right _ hle
    refine (markProductS_at g cap qs.length k cur _ w hgg hl hn hk).mono ?_
    rintro e w' ⟨rfl, hA, hG⟩
    refine ⟨rfl, hG, fun g' hg i hi => ?_⟩
    simp only [Value.ownBlock, Option.some.injEq] at hg
    subst hg
    rw [hA.at_, markC_get hi]
theorem markScheme_c (p n m k : Int) {lo : Nat} {v : Value} {qs : List (List Nat)} (K : Nat) (w : World) (h : Own w lo v qs) (hn : qs.length ≤ 1048576) (hk : K ≤ 2000000000) :
    Calls Try.prog 11 #[.agg #[.int .i64 p, .int .i64 n, .int .i64 m, .int .i64 k, v], .int .i64 K] w
      fun e w' => e = .returned (.int .i64 ((K + qs.length * 27 : Nat) : Int)) ∧ w.grownBy w' v.ownBlock ∧ Held w' v K qs.length := by
  go_enter Try.func11, Try.ntmps11
  go_wp2_with fail
  refine (markOwn_c K _ (h.below (below1 _ _)) hn hk).mono ?_
  rintro e w1 ⟨rfl, hG, hH⟩
  go_wp2_with fail
  go_ret
  exact ⟨rfl, grown_trans (World.grownBy_alloc _ _ _) hG, hH⟩
end Go.Proofs.Ytebmkmkhfhmfbaa
namespace Go.Proofs.Ytebmkmkhfhmfbaa
open Go.RowKit
set_option maxRecDepth 100000
/-- The call answers this scheme, its products in memory of its own, and this code. -/
def ResS (w : World) (p n m k : Int) (qs : List (List Nat)) (code : Int) (e : Ending) (w' : World) : Prop :=
  ∃ v, e = .returned (.tuple #[.agg #[.int .i64 p, .int .i64 n, .int .i64 m, .int .i64 k, v], .int .i64 code]) ∧ Own w' w.heap.size v qs ∧ Below w.heap.size w w'
theorem At.grown {w w' : World} {g : Nat} {o : Obj} {r : Option Nat} (h : At w g o) (hb : w.grownBy w' r) (hne : some g ≠ r) : At w' g o := (hb.block g h.lt hne).trans h
theorem below_grown {w0 w w' : World} {v : Value} {lo : Nat} {qs : List (List Nat)} (h : Below w0.heap.size w0 w) (hb : w.grownBy w' v.ownBlock) (ho : Own w lo v qs) (hl : w0.heap.size ≤ lo) : Below w0.heap.size w0 w' :=
  h.grown hb h.size (fun k hk => by have := (ho.lt hk).1; omega)
theorem Own.ne {w w' : World} {lo lo' : Nat} {v v' : Value} {qs qs' : List (List Nat)} (h : Own w lo v qs) (h' : Own w' lo' v' qs') (hl : w.heap.size ≤ lo') : v.ownBlock = none ∨ v.ownBlock ≠ v'.ownBlock := by
  rcases hv : v.ownBlock with _ | g
  · exact .inl rfl
  · refine .inr fun e => ?_
    have h1 := (h.lt hv).2
    have h2 := (h'.lt e.symm).1
    omega
theorem Own.away {w w' : World} {lo' g : Nat} {v' : Value} {qs' : List (List Nat)} {o : Obj} (h : At w g o) (h' : Own w' lo' v' qs') (hl : w.heap.size ≤ lo') : some g ≠ v'.ownBlock := fun e => by
  have h1 := h.lt
  have h2 := (h'.lt e.symm).1
  omega
theorem Own.away_new {w : World} {lo' : Nat} {v' : Value} {qs' : List (List Nat)} (h' : Own w lo' v' qs') : some w.heap.size ≠ v'.ownBlock := fun e => by
  have h2 := (h'.lt e.symm).2
  omega
theorem Held.below {w w' : World} {v : Value} {k n : Nat} (h : Held w v k n) (hb : Below w.heap.size w w') : Held w' v k n := fun g hg i hi => by
  have := h g hg i hi
  rw [hb.cell (p := ⟨g, i, none⟩) (block_lt_of_cell this)]
  exact this
theorem Rd.after {w w' : World} {A : Option Addr} {qs : List (List Nat)} (h : Rd w A qs) (hb : Below w.heap.size w w') : Rd w' A qs := h.keep hb
theorem Own.rd' {w : World} {lo : Nat} {A : Option Addr} {c n : Nat} {qs : List (List Nat)} (h : Own w lo (.slice A n c) qs) (hq : ∀ q ∈ qs, Bytes 27 q) : Rd w A qs := by
  obtain ⟨A', c', e, hr⟩ := h.rd hq
  simp only [Value.slice.injEq] at e
  rw [e.1]
  exact hr
theorem Own.len {w : World} {lo : Nat} {A : Option Addr} {c n : Nat} {qs : List (List Nat)} (h : Own w lo (.slice A n c) qs) : n = qs.length := by
  rcases h.2 with ⟨e, h0⟩ | ⟨g, cap, cur, e, _⟩
  · simp only [Value.slice.injEq] at e
    omega
  · simp only [Value.slice.injEq] at e
    exact e.2.1
theorem markScheme_1 (p n m k : Int) {lo : Nat} {v : Value} {qs : List (List Nat)} (w : World) (h : Own w lo v qs) (hn : qs.length ≤ 1048576) :
    Calls Try.prog 11 #[.agg #[.int .i64 p, .int .i64 n, .int .i64 m, .int .i64 k, v], .int .i64 1] w
      fun e w' => e = .returned (.int .i64 ((1 + qs.length * 27 : Nat) : Int)) ∧ w.grownBy w' v.ownBlock ∧ Held w' v 1 qs.length := markScheme_c p n m k 1 w h hn (by omega)
end Go.Proofs.Ytebmkmkhfhmfbaa
