/-
  Pairs of forms as rows of 18 bytes: lists of them that are read, owned, compared, marked and grown by one. (Made by mkpr.py.)
-/
import Derived.Test.YtppenoincihoeaaLKI
import Derived.Test.YtppenoincihoeaaSx
namespace Go.Proofs.Ytppenoincihoeaa
open Go.RowKit
set_option maxRecDepth 100000
/-- The slice value over 'A', of as many elements as 'qs', reads as the products 'qs'. -/
def RdR (w : World) (A : Option Addr) (qs : List (List Nat)) : Prop :=
  (∀ q ∈ qs, Bytes 18 q) ∧ (qs = [] ∨ ∃ b off, A = some ⟨b, off, none⟩ ∧ ∀ (i : Nat) (q : List Nat), qs[i]? = some q → ∀ j, j < 18 → w.cell? ⟨b, off + i * 18 + j, none⟩ = some (.int .u8 ((q[j]?.getD 0 : Nat) : Int)))
theorem RdR.good {w : World} {A : Option Addr} {qs : List (List Nat)} (h : RdR w A qs) : ∀ q ∈ qs, Bytes 18 q := h.1
theorem RdR.len {w : World} {A : Option Addr} {qs : List (List Nat)} (h : RdR w A qs) : ∀ q ∈ qs, q.length = 18 := fun q hq => (h.1 q hq).len
theorem RdR.at_ {w : World} {A : Option Addr} {qs : List (List Nat)} (h : RdR w A qs) {i : Nat} (hi : i < qs.length) :
    ∃ b off, A = some ⟨b, off, none⟩ ∧ ∀ j, j < 18 → w.cell? ⟨b, off + i * 18 + j, none⟩ = some (.int .u8 ((qs[i][j]?.getD 0 : Nat) : Int)) := by
  rcases h.2 with rfl | ⟨b, off, hA, hc⟩
  · simp at hi
  · exact ⟨b, off, hA, hc i qs[i] (List.getElem?_eq_getElem hi)⟩
theorem RdR.keep {w w' : World} {A : Option Addr} {qs : List (List Nat)} (h : RdR w A qs) (hb : Below w.heap.size w w') : RdR w' A qs := by
  refine ⟨h.1, ?_⟩
  rcases h.2 with h0 | ⟨b, off, hA, hc⟩
  · exact .inl h0
  · refine .inr ⟨b, off, hA, fun i q hi j hj => ?_⟩
    have := hc i q hi j hj
    rw [hb.cell (p := ⟨b, off + i * 18 + j, none⟩) (block_lt_of_cell this)]
    exact this
theorem RdR.of_at {w : World} {g : Nat} {t : TypeId} {qs : List (List Nat)} (h : At w g (.cells (u8s qs.flatten) t (0, 0))) (hq : ∀ q ∈ qs, Bytes 18 q) : RdR w (some ⟨g, 0, none⟩) qs := by
  refine ⟨hq, .inr ⟨g, 0, rfl, fun i q hi j hj => ?_⟩⟩
  have hl : ∀ q ∈ qs, q.length = 18 := fun q hm => (hq q hm).len
  have hlt : i < qs.length := (List.getElem?_eq_some_iff.1 hi).1
  have e := flat_get hl hi hj
  have hb : i * 18 + j < qs.flatten.length := by
    rw [flat_len hl]
    have : (i + 1) * 18 ≤ qs.length * 18 := Nat.mul_le_mul_right _ hlt
    omega
  have := h.cell hb
  rw [e] at this
  simpa using this
theorem RdR.none_ (w : World) (A : Option Addr) : RdR w A [] := ⟨by simp, .inl rfl⟩
theorem RdR.drewN {w : World} {A : Option Addr} {qs : List (List Nat)} (h : RdR w A qs) (n : Nat) : RdR (w.drewN n) A qs := h
theorem RdR.after {w w' : World} {A : Option Addr} {qs : List (List Nat)} (h : RdR w A qs) (hb : Below w.heap.size w w') : RdR w' A qs := h.keep hb
def OwnR (w : World) (lo : Nat) (v : Value) (qs : List (List Nat)) : Prop := w.ownsRow lo 74 18 v qs.length (u8s qs.flatten).toList
def HeldR (w : World) (v : Value) (k n : Nat) : Prop := ∀ g, v.ownBlock = some g → ∀ i, i < n * 18 → w.cell? ⟨g, i, none⟩ = some (markV k i)
theorem OwnR.shp {w : World} {lo : Nat} {v : Value} {qs : List (List Nat)} (h : OwnR w lo v qs) : Shp v qs.length := by
  rcases h.2 with ⟨hv, hn⟩ | ⟨g, cap, cur, hv, _⟩
  · exact .inl ⟨hv, hn⟩
  · exact .inr ⟨g, cap, hv⟩
theorem OwnR.lt {w : World} {lo : Nat} {v : Value} {qs : List (List Nat)} (h : OwnR w lo v qs) {g : Nat} (hg : v.ownBlock = some g) : lo ≤ g ∧ g < w.heap.size := by
  rcases h.2 with ⟨rfl, _⟩ | ⟨g', cap, cur, rfl, hb, hgg, _⟩
  · cases hg
  · simp only [Value.ownBlock, Option.some.injEq] at hg
    subst hg
    exact ⟨hb, (Array.getElem?_eq_some_iff.1 hgg).1⟩
theorem OwnR.below {w w' : World} {lo : Nat} {v : Value} {qs : List (List Nat)} (h : OwnR w lo v qs) (hb : Below w.heap.size w w') : OwnR w' lo v qs :=
  World.ownsRow.kept (row := none) h ⟨hb.os, hb.tape, hb.output, hb.size, fun k hk _ => hb.block k hk⟩ (by
    rcases hv : v.ownBlock with _ | g
    · exact .inl rfl
    · exact .inr (by simp))
theorem OwnR.drew {w : World} {lo : Nat} {v : Value} {qs : List (List Nat)} (h : OwnR w lo v qs) : OwnR w.drew lo v qs := h
theorem OwnR.grown {w w' : World} {lo : Nat} {v : Value} {qs : List (List Nat)} {r : Option Nat} (h : OwnR w lo v qs) (hb : w.grownBy w' r) (hne : v.ownBlock = none ∨ v.ownBlock ≠ r) : OwnR w' lo v qs :=
  World.ownsRow.kept h hb hne
theorem OwnR.mono {w : World} {lo lo' : Nat} {v : Value} {qs : List (List Nat)} (h : OwnR w lo v qs) (hl : lo' ≤ lo) : OwnR w lo' v qs := by
  refine ⟨h.1, ?_⟩
  rcases h.2 with hn | ⟨g, cap, cur, hv, hb, rest⟩
  · exact .inl hn
  · exact .inr ⟨g, cap, cur, hv, Nat.le_trans hl hb, rest⟩
/-- Such a slice value, written out; it reads as the products. -/
theorem OwnR.rd {w : World} {lo : Nat} {v : Value} {qs : List (List Nat)} (h : OwnR w lo v qs) (hq : ∀ q ∈ qs, Bytes 18 q) : ∃ A c, v = .slice A qs.length c ∧ RdR w A qs := by
  rcases h.2 with ⟨rfl, h0⟩ | ⟨g, cap, cur, rfl, hb, hgg, hle, hcap, hsz, ht⟩
  · have : qs = [] := List.length_eq_zero_iff.1 h0
    subst this
    exact ⟨none, 0, rfl, RdR.none_ _ _⟩
  · refine ⟨_, _, rfl, hq, .inr ⟨g, 0, rfl, fun i q hi j hj => ?_⟩⟩
    have hl : ∀ q ∈ qs, q.length = 18 := fun q hm => (hq q hm).len
    have hlt : i < qs.length := (List.getElem?_eq_some_iff.1 hi).1
    have e := flat_get hl hi hj
    have hb : i * 18 + j < qs.flatten.length := by
      rw [flat_len hl]
      have : (i + 1) * 18 ≤ qs.length * 18 := Nat.mul_le_mul_right _ hlt
      omega
    have hA : At w g (.cells cur 74 (0, 0)) := hgg
    rw [hA.at_, Nat.zero_add, ← Array.getElem?_toList]
    have h1 : (cur.toList.take (qs.length * 18))[i * 18 + j]? = (u8s qs.flatten).toList[i * 18 + j]? := by rw [ht]
    rw [List.getElem?_take, if_pos (by rw [← flat_len hl]; exact hb)] at h1
    rw [h1, Array.getElem?_toList, u8s_get hb, e]
/-- New products in a block of just their size. -/
theorem OwnR.of_at {w : World} {lo g : Nat} {qs : List (List Nat)} (h : At w g (.cells (u8s qs.flatten) 74 (0, 0))) (hq : ∀ q ∈ qs, q.length = 18) (hl : lo ≤ g) (hn : qs.length ≤ 1048576) : OwnR w lo (.slice (some ⟨g, 0, none⟩) qs.length qs.length) qs := by
  refine ⟨by rw [Array.length_toList, u8s_size, flat_len hq], .inr ⟨g, qs.length, u8s qs.flatten, rfl, hl, h, Nat.le_refl _, by unfold maxLen; omega, by rw [u8s_size, flat_len hq], ?_⟩⟩
  rw [List.take_of_length_le (by rw [Array.length_toList, u8s_size, flat_len hq]; exact Nat.le_refl _)]
theorem below_grownR {w0 w w' : World} {v : Value} {lo : Nat} {qs : List (List Nat)} (h : Below w0.heap.size w0 w) (hb : w.grownBy w' v.ownBlock) (ho : OwnR w lo v qs) (hl : w0.heap.size ≤ lo) : Below w0.heap.size w0 w' :=
  h.grown hb h.size (fun k hk => by have := (ho.lt hk).1; omega)
theorem OwnR.ne {w w' : World} {lo lo' : Nat} {v v' : Value} {qs qs' : List (List Nat)} (h : OwnR w lo v qs) (h' : OwnR w' lo' v' qs') (hl : w.heap.size ≤ lo') : v.ownBlock = none ∨ v.ownBlock ≠ v'.ownBlock := by
  rcases hv : v.ownBlock with _ | g
  · exact .inl rfl
  · refine .inr fun e => ?_
    have h1 := (h.lt hv).2
    have h2 := (h'.lt e.symm).1
    omega
theorem OwnR.away {w w' : World} {lo' g : Nat} {v' : Value} {qs' : List (List Nat)} {o : Obj} (h : At w g o) (h' : OwnR w' lo' v' qs') (hl : w.heap.size ≤ lo') : some g ≠ v'.ownBlock := fun e => by
  have h1 := h.lt
  have h2 := (h'.lt e.symm).1
  omega
theorem OwnR.away_new {w : World} {lo' : Nat} {v' : Value} {qs' : List (List Nat)} (h' : OwnR w lo' v' qs') : some w.heap.size ≠ v'.ownBlock := fun e => by
  have h2 := (h'.lt e.symm).2
  omega
theorem OwnR.rd' {w : World} {lo : Nat} {A : Option Addr} {c n : Nat} {qs : List (List Nat)} (h : OwnR w lo (.slice A n c) qs) (hq : ∀ q ∈ qs, Bytes 18 q) : RdR w A qs := by
  obtain ⟨A', c', e, hr⟩ := h.rd hq
  simp only [Value.slice.injEq] at e
  rw [e.1]
  exact hr
theorem OwnR.len {w : World} {lo : Nat} {A : Option Addr} {c n : Nat} {qs : List (List Nat)} (h : OwnR w lo (.slice A n c) qs) : n = qs.length := by
  rcases h.2 with ⟨e, h0⟩ | ⟨g, cap, cur, e, _⟩
  · simp only [Value.slice.injEq] at e
    omega
  · simp only [Value.slice.injEq] at e
    exact e.2.1
theorem HeldR.below {w w' : World} {v : Value} {k n : Nat} (h : HeldR w v k n) (hb : Below w.heap.size w w') : HeldR w' v k n := fun g hg i hi => by
  have := h g hg i hi
  rw [hb.cell (p := ⟨g, i, none⟩) (block_lt_of_cell this)]
  exact this
theorem OwnR.off {w : World} {lo g : Nat} {v : Value} {qs : List (List Nat)} {cs : Array Value} {t : TypeId} (h : OwnR w lo v qs) (hg : At w g (.cells cs t (0, 0))) (ht : t ≠ 74) : some g ≠ v.ownBlock := fun e => by
  rcases h.2 with ⟨rfl, _⟩ | ⟨g', cap, cur, rfl, hb, hgg, _⟩
  · cases e
  · simp only [Value.ownBlock, Option.some.injEq] at e
    subst e
    have h1 : some (Obj.cells cs t (0, 0)) = some (Obj.cells cur 74 (0, 0)) := hg.symm.trans hgg
    simp only [Option.some.injEq, Obj.cells.injEq] at h1
    exact ht h1.2.1
theorem OwnR.put {w w' : World} {lo g : Nat} {v : Value} {qs : List (List Nat)} {o : Obj} (h : OwnR w lo v qs) (hp : Put w w' g o) (hne : some g ≠ v.ownBlock) : OwnR w' lo v qs := by
  refine ⟨h.1, ?_⟩
  rcases h.2 with hn | ⟨g2, cap, cur, rfl, hb, hgg, rest⟩
  · exact .inl hn
  · exact .inr ⟨g2, cap, cur, rfl, hb, hp.other (k := g2) hgg (fun e => hne (by simp [Value.ownBlock, e])), rest⟩
theorem OwnR.inn {w : World} {lo : Nat} {v : Value} {qs : List (List Nat)} (h : OwnR w lo v qs) : In lo w.heap.size v := fun _ hg => h.lt hg
theorem OwnR.same {w w' : World} {lo hi lo' hi' : Nat} {v : Value} {qs : List (List Nat)} (h : OwnR w lo v qs) (i : In lo hi v) (hs : Same lo' hi' w w') (hd : hi ≤ lo' ∨ hi' ≤ lo) : OwnR w' lo v qs := kept_same (w := w) h i hs hd
theorem OwnR.nil (w : World) (lo : Nat) : OwnR w lo (.slice none 0 0) [] := World.ownsRow_nil _ _ _ _
theorem HeldR.same {w w' : World} {lo hi lo' hi' k n : Nat} {v : Value} (h : HeldR w v k n) (i : In lo hi v) (hs : Same lo' hi' w w') (hd : hi ≤ lo' ∨ hi' ≤ lo) : HeldR w' v k n := fun g hg j hj =>
  cell_same (h g hg j hj) hs (by have := i g hg; omega)
theorem OwnR.ne_lt {w : World} {lo g : Nat} {v : Value} {qs : List (List Nat)} (h : OwnR w lo v qs) (hg : g < lo) : some g ≠ v.ownBlock := fun e => by
  have := (h.lt e.symm).1
  omega
theorem OwnR.rdc' {w : World} {lo : Nat} {v : Value} {qs : List (List Nat)} (h : OwnR w lo v qs) (hq : ∀ q ∈ qs, Bytes 18 q) : ∃ A c, v = .slice A qs.length c ∧ RdR w A qs ∧ (A = none → c = 0) := by
  rcases h.2 with ⟨rfl, h0⟩ | ⟨g, cap, cur, rfl, _⟩
  · have : qs = [] := List.length_eq_zero_iff.1 h0
    subst this
    exact ⟨none, 0, rfl, RdR.none_ _ _, fun _ => rfl⟩
  · obtain ⟨A, c, e, hr⟩ := h.rd hq
    refine ⟨A, c, e, hr, fun hA => ?_⟩
    subst hA
    simp at e
set_option maxHeartbeats 1600000 in
theorem markPairS_at (g c len k : Nat) (cs : Array Value) (t : TypeId) (w : World) (h : At w g (.cells cs t (0, 0))) (hl : len * 18 ≤ cs.size) (hn : len ≤ 1048576) (hk : k ≤ 2000000000) :
    Calls Try.prog 19 #[.slice (some ⟨g, 0, none⟩) len c, .int .i64 k] w fun e w' => e = .returned (.int .i64 ((k + len * 18 : Nat) : Int)) ∧ At w' g (.cells (markC cs k (len * 18)) t (0, 0)) ∧ w.grownBy w' (some g) := by
  go_enter Try.func19, Try.ntmps19
  go_wp2_with fail
  go_loopw [1, 5] (fun kv i wr => ∃ a : Nat, a ≤ len ∧ i = .int .i64 a ∧ MarkRel w g cs t k (a * 18) kv wr) (fun _ i _ => len - (intOf i).toNat)
  case atStart => exact ⟨0, by omega, rfl, by simp, by rw [Nat.zero_mul, markC_zero]; exact h, grown_refl _ _⟩
  case round =>
    obtain ⟨a, ha, rfl, rfl, hA, hG⟩ := hrel
    by_cases hlt : a < len
    · have e0 : IntKind.i64.wrap ((a : Int) + 1) = (a : Int) + 1 := IntWalk.i64_in _ (by omega)
      obtain ⟨wo, rfl⟩ : ∃ wo : World, wo = wr := ⟨_, rfl⟩
      go_wp2_with fail
      go_loopw [1, 6] (fun kv i wr => ∃ b : Nat, b ≤ 9 ∧ i = .int .i64 b ∧ MarkRel w g cs t k (a * 18 + b) kv wr) (fun _ i _ => 9 - (intOf i).toNat)
      case atStart => exact ⟨0, by omega, rfl, rfl, hA, hG⟩
      case round =>
        clear hA hG
        obtain ⟨b, hb, rfl, rfl, hA, hG⟩ := hrel
        by_cases hlt2 : b < 9
        · have f0 : IntKind.i64.wrap ((b : Int) + 1) = (b : Int) + 1 := IntWalk.i64_in _ (by omega)
          have hN : a * 18 + b < cs.size := by omega
          have x0 : wr.cell? ⟨g, a * 18 + b, none⟩ = some ((markC cs k (a * 18 + b))[a * 18 + b]?.getD undef) := markC_old hA hN
          have z0 := hA.free (a * 18 + b)
          go_wp2_with fail
          exact ⟨⟨b + 1, by omega, by go_num, by go_num, markC_at hA hN (by simp [markV]; try omega), grown_setCell hG _ _⟩, by simp [intOf]; omega⟩
        · obtain rfl : b = 9 := by omega
          go_wp2_with fail
          go_loopw [1, 7] (fun kv i wr => ∃ b : Nat, b ≤ 9 ∧ i = .int .i64 b ∧ MarkRel w g cs t k (a * 18 + 9 + b) kv wr) (fun _ i _ => 9 - (intOf i).toNat)
          case atStart => exact ⟨0, by omega, rfl, rfl, hA, hG⟩
          case round =>
            clear hA hG
            obtain ⟨b, hb, rfl, rfl, hA, hG⟩ := hrel
            by_cases hlt2 : b < 9
            · have f0 : IntKind.i64.wrap ((b : Int) + 1) = (b : Int) + 1 := IntWalk.i64_in _ (by omega)
              have hN : a * 18 + 9 + b < cs.size := by omega
              have x0 : wr.cell? ⟨g, a * 18 + 9 + b, none⟩ = some ((markC cs k (a * 18 + 9 + b))[a * 18 + 9 + b]?.getD undef) := markC_old hA hN
              have z0 := hA.free (a * 18 + 9 + b)
              go_wp2_with fail
              exact ⟨⟨b + 1, by omega, by go_num, by go_num, markC_at hA hN (by simp [markV]; try omega), grown_setCell hG _ _⟩, by simp [intOf]; omega⟩
            · obtain rfl : b = 9 := by omega
              go_wp2_with fail
              exact ⟨⟨a + 1, by omega, by go_num, by go_num, by rw [show (a + 1) * 18 = a * 18 + 9 + 9 by omega]; exact hA, hG⟩, by simp [intOf]; omega⟩
    · obtain rfl : a = len := by omega
      go_wp2_with fail
      go_ret
      exact ⟨rfl, hA, hG⟩
set_option maxHeartbeats 1600000 in
theorem heldPairS_at (g c len k : Nat) (w : World) (hc : ∀ i, i < len * 18 → w.cell? ⟨g, i, none⟩ = some (markV k i)) (hn : len ≤ 1048576) (hk : k ≤ 2000000000) :
    Calls Try.prog 20 #[.slice (some ⟨g, 0, none⟩) len c, .int .i64 k] w fun e w' => e = .returned (.int .i64 ((k + len * 18 : Nat) : Int)) ∧ w = w' := by
  have Hc := Lib.hid hc
  clear hc
  go_enter Try.func20, Try.ntmps20
  go_wp2_with fail
  go_loop [1, 5] (fun kv i => ∃ a : Nat, a ≤ len ∧ i = .int .i64 a ∧ kv = .int .i64 ((k + a * 18 : Nat) : Int)) (fun _ i => len - (intOf i).toNat)
  case atStart => exact ⟨0, by omega, rfl, by simp⟩
  case round =>
    obtain ⟨a, ha, rfl, rfl⟩ := hrel
    by_cases hlt : a < len
    · have e0 : IntKind.i64.wrap ((a : Int) + 1) = (a : Int) + 1 := IntWalk.i64_in _ (by omega)
      go_wp2_with fail
      go_loop [1, 6] (fun kv i => ∃ b : Nat, b ≤ 9 ∧ i = .int .i64 b ∧ kv = .int .i64 ((k + (a * 18 + b) : Nat) : Int)) (fun _ i => 9 - (intOf i).toNat)
      case atStart => exact ⟨0, by omega, rfl, rfl⟩
      case round =>
        obtain ⟨b, hb, rfl, rfl⟩ := hrel
        by_cases hlt2 : b < 9
        · have f0 : IntKind.i64.wrap ((b : Int) + 1) = (b : Int) + 1 := IntWalk.i64_in _ (by omega)
          have x0 : w.cell? ⟨g, a * 18 + b, none⟩ = some (.int .u8 (((k : Int) + ((a : Int) * 18 + (b : Int))) % 256)) := by rw [Hc.out _ (by omega), markV]; congr 1
          go_wp2_with fail
          exact ⟨⟨b + 1, by omega, by go_num, by go_num⟩, by simp [intOf]; omega⟩
        · obtain rfl : b = 9 := by omega
          go_wp2_with fail
          go_loop [1, 7] (fun kv i => ∃ b : Nat, b ≤ 9 ∧ i = .int .i64 b ∧ kv = .int .i64 ((k + (a * 18 + 9 + b) : Nat) : Int)) (fun _ i => 9 - (intOf i).toNat)
          case atStart => exact ⟨0, by omega, rfl, rfl⟩
          case round =>
            obtain ⟨b, hb, rfl, rfl⟩ := hrel
            by_cases hlt2 : b < 9
            · have f0 : IntKind.i64.wrap ((b : Int) + 1) = (b : Int) + 1 := IntWalk.i64_in _ (by omega)
              have x0 : w.cell? ⟨g, a * 18 + 9 + b, none⟩ = some (.int .u8 (((k : Int) + ((a : Int) * 18 + 9 + (b : Int))) % 256)) := by rw [Hc.out _ (by omega), markV]; congr 1
              go_wp2_with fail
              exact ⟨⟨b + 1, by omega, by go_num, by go_num⟩, by simp [intOf]; omega⟩
            · obtain rfl : b = 9 := by omega
              go_wp2_with fail
              exact ⟨⟨a + 1, by omega, by go_num, by go_num⟩, by simp [intOf]; omega⟩
    · obtain rfl : a = len := by omega
      go_wp2_with fail
      go_ret
      exact ⟨rfl, rfl⟩
set_option maxHeartbeats 400000 in
theorem markPairS_nil (A : Option Addr) (c k : Nat) (w : World) :
    Calls Try.prog 19 #[.slice A 0 c, .int .i64 k] w fun e w' => e = .returned (.int .i64 (k : Int)) ∧ w = w' := by
  go_enter Try.func19, Try.ntmps19
  go_wp2_with fail
  go_loop [1, 5] (fun kv i => i = .int .i64 0 ∧ kv = .int .i64 (k : Int)) (fun _ _ => 0)
  case atStart => exact ⟨rfl, rfl⟩
  case round =>
    obtain ⟨rfl, rfl⟩ := hrel
    go_wp2_with fail
    go_ret
    exact ⟨rfl, rfl⟩
set_option maxHeartbeats 400000 in
theorem heldPairS_nil (A : Option Addr) (c k : Nat) (w : World) :
    Calls Try.prog 20 #[.slice A 0 c, .int .i64 k] w fun e w' => e = .returned (.int .i64 (k : Int)) ∧ w = w' := by
  go_enter Try.func20, Try.ntmps20
  go_wp2_with fail
  go_loop [1, 5] (fun kv i => i = .int .i64 0 ∧ kv = .int .i64 (k : Int)) (fun _ _ => 0)
  case atStart => exact ⟨rfl, rfl⟩
  case round =>
    obtain ⟨rfl, rfl⟩ := hrel
    go_wp2_with fail
    go_ret
    exact ⟨rfl, rfl⟩
theorem markOwnR_c {lo : Nat} {v : Value} {qs : List (List Nat)} (k : Nat) (w : World) (h : OwnR w lo v qs) (hn : qs.length ≤ 1048576) (hk : k ≤ 2000000000) :
    Calls Try.prog 19 #[v, .int .i64 k] w fun e w' => e = .returned (.int .i64 ((k + qs.length * 18 : Nat) : Int)) ∧ w.grownBy w' v.ownBlock ∧ HeldR w' v k qs.length := by
  rcases h.2 with ⟨rfl, h0⟩ | ⟨g, cap, cur, rfl, hb, hgg, hle, hcap, hsz, ht⟩
  · refine (markPairS_nil none 0 k w).mono ?_
    rintro e w' ⟨rfl, rfl⟩
    exact ⟨by rw [h0]; simp, grown_refl _ _, fun g hg => by cases hg⟩
  · have hl : qs.length * 18 ≤ cur.size := by rw [hsz]; exact Nat.mul_le_mul_right _ hle
    refine (markPairS_at g cap qs.length k cur _ w hgg hl hn hk).mono ?_
    rintro e w' ⟨rfl, hA, hG⟩
    refine ⟨rfl, hG, fun g' hg i hi => ?_⟩
    simp only [Value.ownBlock, Option.some.injEq] at hg
    subst hg
    rw [hA.at_, markC_get hi]
theorem heldOwnR_c {v : Value} {n : Nat} (k : Nat) (w : World) (h : Shp v n) (hh : HeldR w v k n) (hn : n ≤ 1048576) (hk : k ≤ 2000000000) :
    Calls Try.prog 20 #[v, .int .i64 k] w fun e w' => e = .returned (.int .i64 ((k + n * 18 : Nat) : Int)) ∧ w = w' := by
  rcases h with ⟨rfl, rfl⟩ | ⟨g, c, rfl⟩
  · refine (heldPairS_nil none 0 k w).mono ?_
    rintro e w' ⟨rfl, rfl⟩
    exact ⟨by simp, rfl⟩
  · exact heldPairS_at g c n k w (hh g rfl) hn hk
theorem infoPair : (Try.prog.info? 74).map (fun i => (i.zero, i.size, i.bytes)) = some (some (.agg (u8s (List.replicate 18 0))), 18, 18) := by kernel_rfl
theorem zero18 : ((Array.range (1 * 18)).map ((Value.agg (u8s (List.replicate 18 0))).cells[· % (Value.agg (u8s (List.replicate 18 0))).cells.size]!)) = u8s (List.replicate 18 0) := by kernel_rfl
theorem run_buildSlice1R {P : Program} (w : World) (t e : TypeId) (q : List Nat) (hu : P.underlying t = some (.slice e))
    (hi : (P.info? e).map (fun i => (i.zero, i.size, i.bytes)) = some (some (.agg (u8s (List.replicate 18 0))), 18, 18)) (hq : q.length = 18) :
    (Instr.buildSlice t 1 #[(0, .agg (u8s q))]).run P w = .ok (.slice (some ⟨w.heap.size, 0, none⟩) 1 1) (w.alloc (.cells (u8s q) e)) := by
  obtain ⟨i, hi0, hz, h1, h2⟩ := info_parts hi
  refine run_buildSlice w t e 1 _ (u8s q) i _ hu hi0 hz (by rw [h1]; omega) (by rw [h1]; omega) ?_
  rw [h1, zero18]
  rw [fill_u8s (fun i => some (i * 18, 18)) (List.replicate 18 0) q 0 0 18 [] rfl hq (by simp), over_all (by simp [hq])]
  rfl
section
variable {P : Program} {o : Oper} {a : Act} {w : World}
theorem exec_buildSlice1R (t e : TypeId) (x : Operand) (ho : o.op = .buildSlice t 1 #[(0, x)]) (q : List Nat) (hx : a.eval x = .agg (u8s q)) (hu : P.underlying t = some (.slice e))
    (hi : (P.info? e).map (fun i => (i.zero, i.size, i.bytes)) = some (some (.agg (u8s (List.replicate 18 0))), 18, 18)) (hq : q.length = 18) :
    (execOp a.eval o).run P w = .ok (.value (.slice (some ⟨w.heap.size, 0, none⟩) 1 1)) (w.alloc (.cells (u8s q) e)) := by
  have := run_buildSlice1R (P := P) w t e q hu hi hq
  unfold execOp
  simp [ho, hx, this]
end
theorem wp_slice1R {P : Program} {o : Oper} {a : Act} {w : World} {K : Act → World → Prop} {Q : Exit → Act → World → Prop} (d : Option Tmp) (hd : o.dst = d) (t e : TypeId) (x : Operand) (ho : o.op = .buildSlice t 1 #[(0, x)]) (q : List Nat) (hx : a.eval x = .agg (u8s q)) (hu : P.underlying t = some (.slice e))
    (hi : (P.info? e).map (fun i => (i.zero, i.size, i.bytes)) = some (some (.agg (u8s (List.replicate 18 0))), 18, 18)) (hq : q.length = 18)
    (h : ∀ w', New w w' (.cells (u8s q) e (0, 0)) → K (a.put d (.slice (some ⟨w.heap.size, 0, none⟩) 1 1)) w') : Oper.wp P o a w K Q :=
  wp_exec d hd _ (exec_buildSlice1R t e x ho q hx hu hi hq) (h _ (New.alloc _ _))
theorem wp_appR {o : Oper} {a : Act} {w : World} {K : Act → World → Prop} {Q : Exit → Act → World → Prop} (d : Option Tmp) (hd : o.dst = d) (s x : Operand) (ho : o.op = .call { callee := .builtin .append, args := #[s, x], argTypes := #[37, 37] })
    {lo : Nat} (sl : Value) (qs : List (List Nat)) (q : List Nat) (hs : a.eval s = sl) (hown : OwnR w lo sl qs) (g : Nat) (hx : a.eval x = .slice (some ⟨g, 0, none⟩) 1 1) (hg : At w g (.cells (u8s q) 74 (0, 0))) (hq : q.length = 18) (hle : qs.length ≤ 1000000) (hlo : lo ≤ w.heap.size)
    (h : ∀ v' w', OwnR w' lo v' (qs ++ [q]) → w.grownBy w' sl.ownBlock → K (a.put d v') w') : Oper.wp Try.prog o a w K Q := by
  obtain ⟨i0, hi, hz0, hz1, hz2⟩ := info_parts infoPair
  refine wp_append' d hd s x 37 ho lo 74 i0 (.agg (u8s (List.replicate 18 0))) 18 18 Try.underlying37 hi hz0 hz1 hz2 rfl (by decide) sl _ _ hs hown ⟨g, 0, none⟩ 1 1 (u8s q).toList hx (by rw [Array.length_toList, u8s_size, hq]) ?_ (u8s_one q) (by unfold maxLen; omega) (by omega) hlo ?_
  · intro j u hu
    rw [add_none, Nat.zero_add, hg.at_ j, ← Array.getElem?_toList]
    exact hu
  · intro v1 w8 own8 gr8 _
    refine h v1 w8 ?_ gr8
    unfold OwnR
    rw [u8s_snoc, List.length_append]
    exact own8
theorem eqForm_s (f : List Nat) (hf : Bytes 9 f) (w : World) :
    Calls Try.prog 73 #[.agg (u8s f), .agg (u8s f)] w fun e w' => e = .returned (.bool true) ∧ Below w.heap.size w w' := by
  refine (eqForm_c f f hf hf w).mono ?_
  rintro e w' ⟨rfl, b⟩
  exact ⟨by simp, b⟩
set_option maxHeartbeats 4000000 in
theorem eqPair_c (q : List Nat) (hq : Bytes 18 q) (w : World) :
    Calls Try.prog 48 #[.agg (u8s q), .agg (u8s q)] w (fun e w' => e = .returned (.bool true) ∧ Below w.heap.size w w') := by
  have hB := Below.refl w.heap.size w
  skip
  go_enter Try.func48, Try.ntmps48
  go_upto_region 0 with (fail)
  refine wp_region_lit ?_
  refine ls_op rfl (fun K' hK' => ?_)
  have lz1 := hB.size
  refine wp_new (some 2) rfl (exec_box 74 _ rfl (u8s (q)) rfl) (fun Wz2 nnz3 => ?_)
  have bz4 := nnz3.below (Below.refl _ _) (Nat.le_refl _)
  replace hB := below_after hB bz4
  have hz5 : At Wz2 w.heap.size (.cells (u8s (q)) 74 (0, 0)) := nnz3.at_
  refine hK' _ _ ?_
  clear hK' K' nnz3 bz4
  go_frame
  refine ls_op rfl (fun K' hK' => ?_)
  have lz6 := hB.size
  have lz7 := hz5.lt
  refine wp_new (some 3) rfl (exec_box 74 _ rfl (u8s (q)) rfl) (fun Wz8 nnz9 => ?_)
  have bz10 := nnz9.below (Below.refl _ _) (Nat.le_refl _)
  replace hB := below_after hB bz10
  replace hz5 := hz5.after bz10
  have hz11 : At Wz8 Wz2.heap.size (.cells (u8s (q)) 74 (0, 0)) := nnz9.at_
  refine hK' _ _ ?_
  clear hK' K' nnz9 bz10
  go_frame
  refine ls_ex (some 4) (.bool false) rfl rfl (exec_assign _ rfl (.bool false) rfl) ?_
  go_frame
  refine wpList_nil ?_
  go_upto_region 1 with (fail)
  refine wp_region_lit ?_
  refine ls_ex (some 5) (.pointer (some ⟨w.heap.size, 0, none⟩)) rfl rfl (exec_fieldAddr 74 _ 0 rfl _ (by kernel_rfl)) ?_
  go_frame
  refine ls_ex (some 6) (.agg (u8s (segm (q) 0 9))) rfl rfl (exec_load_seg 49 _ rfl w.heap.size (0) rfl _ (q) _ 9 hz5 Try.underlying49 rfl (by kernel_rfl) (by rw [hq.len]; omega) (segm (q) 0 9) rfl) ?_
  go_frame
  refine ls_ex (some 7) (.pointer (some ⟨Wz2.heap.size, 0, none⟩)) rfl rfl (exec_fieldAddr 74 _ 0 rfl _ (by kernel_rfl)) ?_
  go_frame
  refine ls_ex (some 8) (.agg (u8s (segm (q) 0 9))) rfl rfl (exec_load_seg 49 _ rfl Wz2.heap.size (0) rfl _ (q) _ 9 hz11 Try.underlying49 rfl (by kernel_rfl) (by rw [hq.len]; omega) (segm (q) 0 9) rfl) ?_
  go_frame
  refine ls_op rfl (fun K' hK' => ?_)
  have lz14 := hB.size
  have lz15 := hz5.lt
  have lz16 := hz11.lt
  refine wp_call2 (some 9) rfl 73 _ _ _ rfl (fun args w => by kernel_rfl) _ _ rfl rfl _ (eqForm_s (segm (q) 0 9) (segm_bytes hq (by omega)) _) (fun e Wz12 h => ?_)
  obtain ⟨rfl, bz13⟩ := h
  replace hB := below_after hB bz13
  replace hz5 := hz5.after bz13
  replace hz11 := hz11.after bz13
  clear bz13
  refine ⟨_, rfl, ?_⟩
  refine hK' _ _ ?_
  clear hK' K'
  go_frame
  refine ls_ex (some 10) (.bool false) rfl rfl (exec_not _ _ rfl true rfl) ?_
  go_frame
  refine wpList_nil ?_
  go_upto_region 3 with (fail)
  refine wp_region_lit ?_
  refine ls_ex (some 11) (.pointer (some ⟨w.heap.size, 9, none⟩)) rfl rfl (exec_fieldAddr 74 _ 1 rfl _ (by kernel_rfl)) ?_
  go_frame
  refine ls_ex (some 12) (.agg (u8s (segm (q) 9 9))) rfl rfl (exec_load_seg 49 _ rfl w.heap.size (9) rfl _ (q) _ 9 hz5 Try.underlying49 rfl (by kernel_rfl) (by rw [hq.len]; omega) (segm (q) 9 9) rfl) ?_
  go_frame
  refine ls_ex (some 13) (.pointer (some ⟨Wz2.heap.size, 9, none⟩)) rfl rfl (exec_fieldAddr 74 _ 1 rfl _ (by kernel_rfl)) ?_
  go_frame
  refine ls_ex (some 14) (.agg (u8s (segm (q) 9 9))) rfl rfl (exec_load_seg 49 _ rfl Wz2.heap.size (9) rfl _ (q) _ 9 hz11 Try.underlying49 rfl (by kernel_rfl) (by rw [hq.len]; omega) (segm (q) 9 9) rfl) ?_
  go_frame
  refine ls_op rfl (fun K' hK' => ?_)
  have lz19 := hB.size
  have lz20 := hz5.lt
  have lz21 := hz11.lt
  refine wp_call2 (some 15) rfl 73 _ _ _ rfl (fun args w => by kernel_rfl) _ _ rfl rfl _ (eqForm_s (segm (q) 9 9) (segm_bytes hq (by omega)) _) (fun e Wz17 h => ?_)
  obtain ⟨rfl, bz18⟩ := h
  replace hB := below_after hB bz18
  replace hz5 := hz5.after bz18
  replace hz11 := hz11.after bz18
  clear bz18
  refine ⟨_, rfl, ?_⟩
  refine hK' _ _ ?_
  clear hK' K'
  go_frame
  refine ls_ex (some 16) (.bool false) rfl rfl (exec_not _ _ rfl true rfl) ?_
  go_frame
  refine wpList_nil ?_
  go_upto_region 5 with (fail)
  refine wp_region_lit ?_
  refine ls_ex (some 4) (.bool true) rfl rfl (exec_assign _ rfl (.bool true) rfl) ?_
  go_frame
  refine wpList_nil ?_
  go_wp2_with fail
  go_ret
  exact ⟨rfl, hB⟩
set_option maxHeartbeats 800000 in
theorem eqPairS_c (A B : Option Addr) (c d : Nat) (qs : List (List Nat)) (w : World) (hq : RdR w A qs) (hr : RdR w B qs) (hn : qs.length ≤ 9000000000000000000) :
    Calls Try.prog 18 #[.slice A qs.length c, .slice B qs.length d] w fun e w' => e = .returned (.bool true) ∧ Below w.heap.size w w' := by
  have hb : (((qs.length : Nat) : Int) != ((qs.length : Nat) : Int)) = false := by simp
  go_enter Try.func18, Try.ntmps18
  go_wp2_with fail
  go_loopw [5] (fun i wr => ∃ k : Nat, k ≤ qs.length ∧ i = .int .i64 k ∧ Below w.heap.size w wr) (fun i _ => qs.length - (intOf i).toNat)
  case atStart => exact ⟨0, by omega, rfl, Below.refl _ _⟩
  case round =>
    obtain ⟨k, hk, rfl, hB⟩ := hrel
    by_cases hlt : k < qs.length
    · obtain ⟨b, off, hA0, hc⟩ := (hq.keep hB).at_ hlt
      obtain ⟨b', off', hB0, hc'⟩ := (hr.keep hB).at_ hlt
      have g1 := hq.good qs[k] (List.getElem_mem hlt)
      have Hc := Lib.hid hc
      have Hc' := Lib.hid hc'
      subst hA0 hB0
      clear hc hc'
      go_wp2_with fail
      refine wp_region_still_tail (P := Try.prog) 8 (by kernel_rfl) (by kernel_rfl) ?_
      simp only [List.take_succ_cons, List.take_zero, List.drop_succ_cons, List.drop_zero]
      refine wpStill_of_exec rfl (exec_move _ rfl (.slice (some ⟨b, off, none⟩) qs.length c) rfl) ?_
      go_frame
      refine wpStill_of_exec rfl (exec_move _ rfl (.int .i64 k) rfl) ?_
      go_frame
      refine wpStill_of_exec rfl (exec_index_slice _ 74 _ _ rfl b off qs.length c k 18 rfl rfl Try.underlying37 (by kernel_rfl) hlt) ?_
      go_frame
      refine wpStill_of_exec rfl (exec_load_cells 74 _ rfl b (off + k * 18) rfl qs[k] _ 18 Hc.out Try.underlying74 rfl (by kernel_rfl) g1.len) ?_
      go_frame
      refine wpStill_of_exec rfl (exec_move _ rfl (.slice (some ⟨b', off', none⟩) qs.length d) rfl) ?_
      go_frame
      refine wpStill_of_exec rfl (exec_move _ rfl (.int .i64 k) rfl) ?_
      go_frame
      refine wpStill_of_exec rfl (exec_index_slice _ 74 _ _ rfl b' off' qs.length d k 18 rfl rfl Try.underlying37 (by kernel_rfl) hlt) ?_
      go_frame
      refine wpStill_of_exec rfl (exec_load_cells 74 _ rfl b' (off' + k * 18) rfl qs[k] _ 18 Hc'.out Try.underlying74 rfl (by kernel_rfl) g1.len) ?_
      go_frame
      refine wpStill_nil ?_
      go_wp2_with fail
      refine (eqPair_c _ g1 _).mono ?_
      rintro e w2 ⟨rfl, b2⟩
      have hB2 := below_after (hB.drew) b2
      go_wp2_with fail
      go_roundw
      case rel => exact ⟨k + 1, by omega, by go_num, hB2⟩
      case measure => simp [intOf]; omega
    · obtain rfl : k = qs.length := by omega
      go_wp2_with fail
      go_ret
      exact ⟨rfl, hB⟩
theorem markPairS_2 {lo : Nat} {v : Value} {qs : List (List Nat)} (K : Nat) (kk : Int) (w : World) (hk' : kk = (K : Int)) (h : OwnR w lo v qs) (hn : qs.length ≤ 1048576) (hk : K ≤ 1000000000) :
    Calls Try.prog 19 #[v, .int .i64 kk] w fun e w' => e = .returned (.int .i64 ((K + qs.length * 18 : Nat) : Int)) ∧ w.grownBy w' v.ownBlock ∧ HeldR w' v K qs.length := by
  subst hk'
  exact markOwnR_c K w h hn (by omega)
theorem heldPairS_1 {v : Value} {n : Nat} (w : World) (h : Shp v n) (hh : HeldR w v 1 n) (hn : n ≤ 1048576) :
    Calls Try.prog 20 #[v, .int .i64 1] w fun e w' => e = .returned (.int .i64 ((1 + n * 18 : Nat) : Int)) ∧ w = w' := heldOwnR_c 1 w h hh hn (by omega)
/-- The call answers this list of pairs, in memory of its own, and this code. -/
def ResR (w : World) (qs : List (List Nat)) (code : Int) (e : Ending) (w' : World) : Prop :=
  ∃ v, e = .returned (.tuple #[v, .int .i64 code]) ∧ OwnR w' w.heap.size v qs ∧ Below w.heap.size w w'
theorem OwnR.rdN {n : Nat} {w : World} {lo : Nat} {v : Value} {qs : List (List Nat)} (h : OwnR w lo v qs) (he : qs.length = n) : ∃ A c, v = .slice A n c := by
  subst he
  rcases h.shp with ⟨rfl, h0⟩ | ⟨g, c, rfl⟩
  · exact ⟨none, 0, by rw [h0]⟩
  · exact ⟨_, _, rfl⟩
theorem exec_bs0R {o : Oper} {a : Act} {w : World} (ho : o.op = .buildSlice 37 0 #[]) : (execOp a.eval o).run Try.prog w = .ok (.value (.slice (some ⟨w.heap.size, 0, none⟩) 0 0)) (w.alloc (.cells #[] 74 (0, 0))) := by
  unfold execOp
  rw [ho]
  kernel_rfl
theorem own_bs0R {w w' : World} (h : New w w' (.cells #[] 74 (0, 0))) : OwnR w' w.heap.size (.slice (some ⟨w.heap.size, 0, none⟩) 0 0) [] :=
  ⟨by simp [u8s], .inr ⟨w.heap.size, 0, #[], rfl, Nat.le_refl _, h.at_, by simp, by simp, by simp, by simp [u8s]⟩⟩
/-- A pair of two forms. -/
def catR (A B : List Nat) : List Nat := A ++ B
theorem catR_bytes {A B : List Nat} (hA : Bytes 9 A) (hB : Bytes 9 B) : Bytes 18 (catR A B) := by
  refine ⟨by simp [catR, hA.len, hB.len], fun n hn => ?_⟩
  simp only [catR, List.mem_append] at hn
  rcases hn with h | h
  · exact hA.2 n h
  · exact hB.2 n h
theorem built_pair (parts : List (Nat × Value)) : Try.prog.built 74 parts = Instr.fill (fun i => (#[(0, 9), (9, 9)] : Array (Nat × Nat))[i]?) (u8s (List.replicate 18 0)) parts := by kernel_rfl
theorem over2 {p q : List Nat} (hp : p.length = 9) (hq : q.length = 9) : over (over (List.replicate 18 0) 0 p) 9 q = p ++ q := by
  unfold over
  simp [hp, hq]
theorem exec_pair {o : Oper} {a : Act} {w : World} (x y : Operand) (ho : o.op = .build 74 #[(0, x), (1, y)]) (p q : List Nat)
    (hx : a.eval x = .agg (u8s p)) (hy : a.eval y = .agg (u8s q)) (hp : p.length = 9) (hq : q.length = 9) :
    (execOp a.eval o).run Try.prog w = .ok (.value (.agg (u8s (catR p q)))) w := by
  have hb : Try.prog.built 74 [(0, .agg (u8s p)), (1, .agg (u8s q))] = some (u8s (catR p q)) := by
    have l1 : (over (List.replicate 18 0) 0 p).length = 18 := by rw [over_length (by simp [hp])]; simp
    rw [built_pair, fill_u8s _ _ _ 0 0 9 _ rfl hp (by simp), fill_u8s _ _ _ 1 9 9 _ rfl hq (by rw [l1]; omega), over2 hp hq]
    rfl
  unfold execOp
  have := run_build (P := Try.prog) w 74 #[(0, .agg (u8s p)), (1, .agg (u8s q))] _ hb
  simp [ho, hx, hy, this]
end Go.Proofs.Ytppenoincihoeaa
