/-
  Matrices: slices of slices of int64: read, owned; laws.toInt64S, toInt64SS, szInt64S, szInt64SS, eqInt64SS.
  laws.szInt64S, szInt64SS, eqInt64SS, markInt64SS, heldInt64SS.
  For the laws' walks: matrices.
-/
import Derived.Test.YtopdfblfhdooaaaLKI
namespace Go.Proofs.Ytopdfblfhdooaaa
open Go.RowKit
set_option maxRecDepth 100000
def iar (xs : List Int) : Array Value := (i64s xs).toArray
theorem iar_size (xs : List Int) : (iar xs).size = xs.length := by simp [iar, i64s]
theorem iar_get {xs : List Int} {i : Nat} (h : i < xs.length) : (iar xs)[i]? = some (.int .i64 xs[i]) := by simp [iar, i64s, h]
theorem iar_set (xs : List Int) (i : Nat) (x : Int) : (iar xs).setIfInBounds i (.int .i64 x) = iar (xs.set i x) := by
  apply Array.ext'
  simp [iar, i64s, List.map_set]
theorem iar_zero (n : Nat) : Array.replicate n (Value.int .i64 0) = iar (List.replicate n 0) := by
  apply Array.ext'
  simp [iar, i64s]
theorem made_one (z : Value) (n : Nat) : madeCells #[z] (n * 1) = Array.replicate n z := by
  apply Array.ext
  · simp [size_madeCells]
  · intro i h1 h2
    simp [madeCells, Nat.mod_one]
section
variable {P : Program} {ops : Array Oper} {rest : List Oper} {o : Oper} {a : Act} {w : World} {Q : Exit → Act → World → Prop}
theorem wpList_make_one (hg : o.guard = none) (l c : Operand) (t : TypeId) (hop : o.op = Op.makeSlice t l c) (e : TypeId) (z : Value) (b : Nat)
    (ht : P.underlying t = some (.slice e)) (hi : (P.info? e).map (fun i => (i.zero, i.size, i.bytes)) = some (some z, 1, b)) (hzc : z.cells = #[z])
    (n : Nat) (hl : a.eval l = .int .i64 n) (hc : a.eval c = .int .i64 n) (hb : b * n ≤ 281474976710656) (h63 : n ≤ 9223372036854775807)
    (h : ∀ w', New w w' (.cells (Array.replicate n z) e (0, 0)) → wpList P ops Q rest (a.put o.dst (.slice (some ⟨w.heap.size, 0, none⟩) n n)) w') : wpList P ops Q (o :: rest) a w := by
  obtain ⟨i, hi0, hz, h1, h2⟩ := info_parts hi
  refine wpList_plain hg fun K hK => ?_
  have hr := run_make (P := P) w t e i _ ht hi0 hz .i64 .i64 n n (by omega) (Int.le_refl _) (by rw [h2]; omega) (by omega)
  simp only [Int.toNat_natCast, h1, hzc, made_one] at hr
  unfold Oper.wp
  simp [execOp, hop, hl, hc, hr, Result.andThen]
  exact hK _ _ (h _ (New.alloc _ _))
end
theorem infoI64 : (Try.prog.info? 2).map (fun i => (i.zero, i.size, i.bytes)) = some (some (.int .i64 0), 1, 8) := by kernel_rfl
theorem infoIS : (Try.prog.info? 71).map (fun i => (i.zero, i.size, i.bytes)) = some (some (.slice none 0 0), 1, 24) := by kernel_rfl
theorem fillI_step {xs : List Int} {k : Nat} (hk : k < xs.length) : (xs.take k ++ List.replicate (xs.length - k) 0).set k xs[k] = xs.take (k + 1) ++ List.replicate (xs.length - (k + 1)) 0 := by
  have hl : (xs.take k).length = k := by simp; omega
  rw [List.set_append_right _ _ (by omega), hl, Nat.sub_self, show xs.length - k = (xs.length - (k + 1)) + 1 by omega, List.replicate_succ, List.set_cons_zero, List.take_succ_eq_append_getElem hk, List.append_assoc]
  rfl
theorem fillI_end (xs : List Int) : xs.take xs.length ++ List.replicate (xs.length - xs.length) 0 = xs := by simp
theorem iar_old {w : World} {g k : Nat} {xs : List Int} (h : At w g (.cells (iar xs) 2 (0, 0))) (hk : k < xs.length) : w.cell? ⟨g, k, none⟩ = some ((iar xs)[k]?.getD undef) := by
  rw [h.at_ k, iar_get hk]
  rfl
theorem cells_old {w : World} {g k : Nat} {cs : Array Value} {t : TypeId} (h : At w g (.cells cs t (0, 0))) (hk : k < cs.size) : w.cell? ⟨g, k, none⟩ = some (cs[k]?.getD undef) := by
  rw [h.at_ k, Array.getElem?_eq_getElem hk]
  rfl
def NewI (w : World) (xs : List Int) (e : Ending) (w' : World) : Prop :=
  ∃ g : Nat, e = .returned (.slice (some ⟨g, 0, none⟩) xs.length xs.length) ∧ w.heap.size ≤ g ∧ At w' g (.cells (iar xs) 2 (0, 0)) ∧ Below w.heap.size w w'
/-! ### Matrices -/
def RdM (w : World) (A : Option Addr) (n : Nat) (row : Nat → List Int) : Prop :=
  n = 0 ∨ ∃ b off, A = some ⟨b, off, none⟩ ∧ ∀ i, i < n → ∃ B c, w.cell? ⟨b, off + i, none⟩ = some (.slice B (row i).length c) ∧ RdI w B (row i)
theorem RdM.at_ {w : World} {A : Option Addr} {n : Nat} {row : Nat → List Int} (h : RdM w A n row) {i : Nat} (hi : i < n) : ∃ b off B c, A = some ⟨b, off, none⟩ ∧ w.cell? ⟨b, off + i, none⟩ = some (.slice B (row i).length c) ∧ RdI w B (row i) := by
  rcases h with rfl | ⟨b, off, hA, hc⟩
  · omega
  · obtain ⟨B, c, h1, h2⟩ := hc i hi
    exact ⟨b, off, B, c, hA, h1, h2⟩
theorem RdM.keep {w w' : World} {A : Option Addr} {n : Nat} {row : Nat → List Int} (h : RdM w A n row) (hb : Below w.heap.size w w') : RdM w' A n row := by
  rcases h with h0 | ⟨b, off, hA, hc⟩
  · exact .inl h0
  · refine .inr ⟨b, off, hA, fun i hi => ?_⟩
    obtain ⟨B, c, h1, h2⟩ := hc i hi
    exact ⟨B, c, by rw [hb.cell (p := ⟨b, off + i, none⟩) (block_lt_of_cell h1)]; exact h1, h2.keep hb⟩
structure MatB (w : World) (lo hi g : Nat) (cs : Array Value) (gs : Nat → Nat) (n : Nat) (row : Nat → List Int) : Prop where
  out : At w g (.cells cs 71 (0, 0))
  og : lo ≤ g ∧ g < hi
  cell : ∀ i, i < n → cs[i]? = some (.slice (some ⟨gs i, 0, none⟩) (row i).length (row i).length)
  row : ∀ i, i < n → At w (gs i) (.cells (iar (row i)) 2 (0, 0)) ∧ lo ≤ gs i ∧ gs i < hi
  inj : ∀ i j, i < j → j < n → gs i ≠ gs j
def OwnM (w : World) (lo hi : Nat) (v : Value) (n : Nat) (row : Nat → List Int) : Prop :=
  (v = .slice none 0 0 ∧ n = 0) ∨ ∃ g c cs gs, v = .slice (some ⟨g, 0, none⟩) n c ∧ MatB w lo hi g cs gs n row
theorem OwnM.nil (w : World) (lo hi : Nat) (row : Nat → List Int) : OwnM w lo hi (.slice none 0 0) 0 row := .inl ⟨rfl, rfl⟩
section
variable {w w' w'' w0 : World} {lo hi lo' hi' g k b n : Nat} {cs : Array Value} {gs : Nat → Nat} {row row' : Nat → List Int} {v : Value}
theorem MatB.ne (h : MatB w lo hi g cs gs n row) {i : Nat} (hi' : i < n) : gs i ≠ g := fun e => by
  have h1 := (h.row i hi').1
  rw [e] at h1
  have h2 := h1.symm.trans h.out
  simp only [Option.some.injEq, Obj.cells.injEq] at h2
  exact absurd h2.2.1 (by decide)
theorem MatB.push (h : MatB w lo hi g cs gs k row) (hb : hi ≤ b) (hb' : b < hi') (hk : k < cs.size) (hnew : At w' b (.cells (iar (row k)) 2 (0, 0))) (keep : ∀ x o, x < hi → x ≠ g → At w x o → At w' x o)
    (hout : At w' g (.cells (cs.setIfInBounds k (.slice (some ⟨b, 0, none⟩) (row k).length (row k).length)) 71 (0, 0))) :
    MatB w' lo hi' g (cs.setIfInBounds k (.slice (some ⟨b, 0, none⟩) (row k).length (row k).length)) (fun x => if x = k then b else gs x) (k + 1) row := by
  have hg := h.og
  refine ⟨hout, ⟨hg.1, by omega⟩, fun i hi => ?_, fun i hi => ?_, fun i j hij hj => ?_⟩
  · by_cases e : i = k
    · subst e
      simp [hk]
    · have := h.cell i (by omega)
      simp only [if_neg e]
      rw [Array.getElem?_setIfInBounds, if_neg (by omega), this]
  · by_cases e : i = k
    · subst e
      simp only [if_true]
      exact ⟨hnew, by omega, hb'⟩
    · have hr := h.row i (by omega)
      simp only [if_neg e]
      exact ⟨keep _ _ hr.2.2 (h.ne (by omega)) hr.1, hr.2.1, by omega⟩
  · have e : i ≠ k := by omega
    simp only [if_neg e]
    split
    · have := (h.row i (by omega)).2.2
      omega
    · exact h.inj i j hij (by omega)
theorem MatB.put (h : MatB w lo hi g cs gs n row) {a : Nat} (ha : a < n) (hr : ∀ x, x ≠ a → row' x = row x) (hl : (row' a).length = (row a).length) (hnew : At w' (gs a) (.cells (iar (row' a)) 2 (0, 0)))
    (keep : ∀ x o, x ≠ gs a → At w x o → At w' x o) : MatB w' lo hi g cs gs n row' := by
  refine ⟨keep _ _ (h.ne ha).symm h.out, h.og, fun i hi => ?_, fun i hi => ?_, h.inj⟩
  · by_cases e : i = a
    · subst e
      rw [h.cell i hi, hl]
    · rw [h.cell i hi, hr i e]
  · by_cases e : i = a
    · subst e
      exact ⟨hnew, (h.row i hi).2⟩
    · rw [hr i e]
      refine ⟨keep _ _ (fun e' => ?_) (h.row i hi).1, (h.row i hi).2⟩
      rcases Nat.lt_or_gt_of_ne e with hlt | hlt
      · exact h.inj i a hlt ha e'
      · exact h.inj a i hlt hi e'.symm
theorem MatB.keepR (h : MatB w lo hi g cs gs n row) (keep : ∀ x o, lo ≤ x → x < hi → At w x o → At w' x o) : MatB w' lo hi g cs gs n row :=
  ⟨keep _ _ h.og.1 h.og.2 h.out, h.og, h.cell, fun i hi => ⟨keep _ _ (h.row i hi).2.1 (h.row i hi).2.2 (h.row i hi).1, (h.row i hi).2⟩, h.inj⟩
theorem MatB.below (h : MatB w lo hi g cs gs n row) (hb : Below w.heap.size w w') : MatB w' lo hi g cs gs n row := h.keepR fun _ _ _ _ hx => hx.after hb
theorem OwnM.below (h : OwnM w lo hi v n row) (hb : Below w.heap.size w w') : OwnM w' lo hi v n row := by
  rcases h with h0 | ⟨g, c, cs, gs, hv, hm⟩
  · exact .inl h0
  · exact .inr ⟨g, c, cs, gs, hv, hm.below hb⟩
theorem OwnM.same (h : OwnM w lo hi v n row) (hs : Same lo' hi' w w') (hd : hi ≤ lo' ∨ hi' ≤ lo) : OwnM w' lo hi v n row := by
  rcases h with h0 | ⟨g, c, cs, gs, hv, hm⟩
  · exact .inl h0
  · exact .inr ⟨g, c, cs, gs, hv, hm.keepR fun x _ h1 h2 hx => (hs.block x hx.lt (by omega)).trans hx⟩
theorem OwnM.drewN (h : OwnM w lo hi v n row) (j : Nat) : OwnM (w.drewN j) lo hi v n row := h.below (below_drawn (Below.refl _ _) j)
theorem RdI.of_iar {g : Nat} {xs : List Int} (h : At w g (.cells (iar xs) 2 (0, 0))) : RdI w (some ⟨g, 0, none⟩) xs := by
  refine .inr ⟨g, 0, rfl, fun i x hi => ?_⟩
  obtain ⟨hlt, rfl⟩ := List.getElem?_eq_some_iff.1 hi
  rw [h.at_, Nat.zero_add, iar_get hlt]
theorem OwnM.rd (h : OwnM w lo hi v n row) : ∃ A c, v = .slice A n c ∧ RdM w A n row := by
  rcases h with ⟨rfl, rfl⟩ | ⟨g, c, cs, gs, rfl, hm⟩
  · exact ⟨none, 0, rfl, .inl rfl⟩
  · refine ⟨_, _, rfl, .inr ⟨g, 0, rfl, fun i hi => ⟨_, _, by rw [hm.out.at_, Nat.zero_add, hm.cell i hi], RdI.of_iar (hm.row i hi).1⟩⟩⟩
theorem OwnM.rd' {A : Option Addr} {c m : Nat} (h : OwnM w lo hi (.slice A m c) n row) : RdM w A n row := by
  obtain ⟨A', c', e, hr⟩ := h.rd
  simp only [Value.slice.injEq] at e
  rw [e.1]
  exact hr
theorem OwnM.mono (h : OwnM w lo hi v n row) (hl : lo' ≤ lo) (hh : hi ≤ hi') : OwnM w lo' hi' v n row := by
  rcases h with h0 | ⟨g, c, cs, gs, hv, hm⟩
  · exact .inl h0
  · exact .inr ⟨g, c, cs, gs, hv, hm.out, ⟨Nat.le_trans hl hm.og.1, Nat.lt_of_lt_of_le hm.og.2 hh⟩, hm.cell, fun i hi => ⟨(hm.row i hi).1, Nat.le_trans hl (hm.row i hi).2.1, Nat.lt_of_lt_of_le (hm.row i hi).2.2 hh⟩, hm.inj⟩
end
def NewM (w : World) (n : Nat) (row : Nat → List Int) (e : Ending) (w' : World) : Prop :=
  ∃ v, e = .returned v ∧ OwnM w' w.heap.size w'.heap.size v n row ∧ Below w.heap.size w w'
end Go.Proofs.Ytopdfblfhdooaaa
namespace Go.Proofs.Ytopdfblfhdooaaa
open Go.RowKit
set_option maxRecDepth 100000
def tot (row : Nat → List Int) : Nat → Nat
  | 0 => 0
  | k + 1 => tot row k + (row k).length
theorem tot_mono (row : Nat → List Int) {i j : Nat} (h : i ≤ j) : tot row i ≤ tot row j := by
  induction h with
  | refl => exact Nat.le_refl _
  | step _ ih => exact Nat.le_trans ih (by simp [tot])
def SzM (n : Nat) (row : Nat → List Int) (l r : Int) : Prop := r = -1 ∨ (0 ≤ r ∧ r + n + tot row n = l)
def markRow (K : Nat) (row : Nat → List Int) (i : Nat) : List Int := (List.range (row i).length).map fun j => ((K + tot row i + j : Nat) : Int)
theorem markRow_len (K : Nat) (row : Nat → List Int) (i : Nat) : (markRow K row i).length = (row i).length := by simp [markRow]
theorem markCI_row (K : Nat) (row : Nat → List Int) (i : Nat) : markCI (iar (row i)) (K + tot row i) (row i).length = iar (markRow K row i) := by
  apply Array.ext'
  simp only [markCI, iar, i64s, markRow]
  rw [List.drop_of_length_le (by simp)]
  simp [List.map_map, markVI, Function.comp_def]
def stage (K : Nat) (row : Nat → List Int) (a x : Nat) : List Int := if x < a then markRow K row x else row x
theorem stage_at (K : Nat) (row : Nat → List Int) (a : Nat) : stage K row a a = row a := by simp [stage]
theorem stage_new (K : Nat) (row : Nat → List Int) (a : Nat) : stage K row (a + 1) a = markRow K row a := by simp [stage]
theorem stage_ne (K : Nat) (row : Nat → List Int) (a x : Nat) (h : x ≠ a) : stage K row (a + 1) x = stage K row a x := by
  unfold stage
  by_cases h1 : x < a
  · rw [if_pos h1, if_pos (by omega)]
  · rw [if_neg h1, if_neg (by omega)]
theorem MatB.congr {w : World} {lo hi g n : Nat} {cs : Array Value} {gs : Nat → Nat} {row row' : Nat → List Int} (h : MatB w lo hi g cs gs n row) (he : ∀ i, i < n → row' i = row i) : MatB w lo hi g cs gs n row' :=
  ⟨h.out, h.og, fun i hi => by rw [he i hi]; exact h.cell i hi, fun i hi => by rw [he i hi]; exact h.row i hi, h.inj⟩
end Go.Proofs.Ytopdfblfhdooaaa
namespace Go.Proofs.Ytopdfblfhdooaaa
open Go.RowKit
set_option maxRecDepth 100000
/-- The call answers this matrix, in memory of its own, and this code. -/
def ResM (w : World) (n : Nat) (row : Nat → List Int) (code : Int) (e : Ending) (w' : World) : Prop :=
  ∃ v, e = .returned (.tuple #[v, .int .i64 code]) ∧ OwnM w' w.heap.size w'.heap.size v n row ∧ Below w.heap.size w w'
theorem tot_ge (row : Nat → List Int) {i n : Nat} (h : i < n) : (row i).length ≤ tot row n := by
  have := tot_mono row (show i + 1 ≤ n by omega)
  simp only [tot] at this
  omega
theorem tot_le {row : Nat → List Int} {n K : Nat} (h : ∀ i, i < n → (row i).length ≤ K) : tot row n ≤ n * K := by
  induction n with
  | zero => simp [tot]
  | succ n ih =>
    have h1 := ih (fun i hi => h i (by omega))
    have h2 := h n (by omega)
    simp only [tot, Nat.succ_mul]
    omega
theorem OwnI.of_at {w : World} {lo g : Nat} {xs : List Int} (h : At w g (.cells (iar xs) 2 (0, 0))) (hl : lo ≤ g) (hn : xs.length ≤ 1048576) : OwnI w lo (.slice (some ⟨g, 0, none⟩) xs.length xs.length) xs := by
  refine ⟨by rw [i64s_len]; simp, .inr ⟨g, xs.length, iar xs, rfl, hl, h, Nat.le_refl _, by unfold maxLen; omega, by rw [iar_size]; simp, ?_⟩⟩
  rw [List.take_of_length_le (by simp [iar, i64s])]
  simp [iar]
end Go.Proofs.Ytopdfblfhdooaaa
