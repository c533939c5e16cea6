/-
  Matrices: slices of slices of int64: read, owned; laws.toInt64S, toInt64SS, szInt64S, szInt64SS, eqInt64SS.
  laws.szInt64S, szInt64SS, eqInt64SS, markInt64SS, heldInt64SS.
  For the laws' walks: matrices.
-/
import Derived.Test.YtebmkmkhfhmfbaaLKI
namespace Go.Proofs.Ytebmkmkhfhmfbaa
open Go.RowKit
set_option maxRecDepth 100000
def iar (xs : List Int) : Array Value := (i64s xs).toArray
theorem iar_size (xs : List Int) : (iar xs).size = xs.length := by simp [iar, i64s]
theorem iar_get {xs : List Int} {i : Nat} (h : i < xs.length) : (iar xs)[i]? = some (.int .i64 xs[i]) := by simp [iar, i64s, h]
theorem iar_set (xs : List Int) (i : Nat) (x : Int) : (iar xs).setIfInBounds i (.int .i64 x) = iar (xs.set i x) := by
  apply Array.ext'
  simp [iar, i64s, List.map_set]
theorem iar_zero (n : Nat) : Array.replicate n (Value.int .i64 0) = iar (List.replicate n 0) := by
  apply Array.ext'
  simp [iar, i64s]
theorem made_one (z : Value) (n : Nat) : madeCells #[z] (n * 1) = Array.replicate n z := by
  apply Array.ext
  · simp [size_madeCells]
  · intro i h1 h2
    simp [madeCells, Nat.mod_one]
section
variable {P : Program} {ops : Array Oper} {rest : List Oper} {o : Oper} {a : Act} {w : World} {Q : Exit → Act → World → Prop}
theorem wpList_make_one (hg : o.guard = none) (l c : Operand) (t : TypeId) (hop : o.op = Op.makeSlice t l c) (e : TypeId) (z : Value) (b : Nat)
    (ht : P.underlying t = some (.slice e)) (hi : (P.info? e).map (fun i => (i.zero, i.size, i.bytes)) = some (some z, 1, b)) (hzc : z.cells = #[z])
    (n : Nat) (hl : a.eval l = .int .i64 n) (hc : a.eval c = .int .i64 n) (hb : b * n ≤ 281474976710656) (h63 : n ≤ 9223372036854775807)
    (h : ∀ w', New w w' (.cells (Array.replicate n z) e (0, 0)) → wpList P ops Q rest (a.put o.dst (.slice (some ⟨w.heap.size, 0, none⟩) n n)) w') : wpList P ops Q (o :: rest) a w := by
  obtain ⟨i, hi0, hz, h1, h2⟩ := info_parts hi
  refine wpList_plain hg fun K hK => ?_
  have hr := run_make (P := P) w t e i _ ht hi0 hz .i64 .i64 n n (by omega) (Int.le_refl _) (by rw [h2]; omega) (by omega)
  simp only [Int.toNat_natCast, h1, hzc, made_one] at hr
  unfold Oper.wp
  simp [execOp, hop, hl, hc, hr, Result.andThen]
  exact hK _ _ (h _ (New.alloc _ _))
end
theorem infoI64 : (Try.prog.info? 2).map (fun i => (i.zero, i.size, i.bytes)) = some (some (.int .i64 0), 1, 8) := by kernel_rfl
theorem infoIS : (Try.prog.info? 49).map (fun i => (i.zero, i.size, i.bytes)) = some (some (.slice none 0 0), 1, 24) := by kernel_rfl
theorem fillI_step {xs : List Int} {k : Nat} (hk : k < xs.length) : (xs.take k ++ List.replicate (xs.length - k) 0).set k xs[k] = xs.take (k + 1) ++ List.replicate (xs.length - (k + 1)) 0 := by
  have hl : (xs.take k).length = k := by simp; omega
  rw [List.set_append_right _ _ (by omega), hl, Nat.sub_self, show xs.length - k = (xs.length - (k + 1)) + 1 by omega, List.replicate_succ, List.set_cons_zero, List.take_succ_eq_append_getElem hk, List.append_assoc]
  rfl
theorem fillI_end (xs : List Int) : xs.take xs.length ++ List.replicate (xs.length - xs.length) 0 = xs := by simp
theorem iar_old {w : World} {g k : Nat} {xs : List Int} (h : At w g (.cells (iar xs) 2 (0, 0))) (hk : k < xs.length) : w.cell? ⟨g, k, none⟩ = some ((iar xs)[k]?.getD undef) := by
  rw [h.at_ k, iar_get hk]
  rfl
theorem cells_old {w : World} {g k : Nat} {cs : Array Value} {t : TypeId} (h : At w g (.cells cs t (0, 0))) (hk : k < cs.size) : w.cell? ⟨g, k, none⟩ = some (cs[k]?.getD undef) := by
  rw [h.at_ k, Array.getElem?_eq_getElem hk]
  rfl
def NewI (w : World) (xs : List Int) (e : Ending) (w' : World) : Prop :=
  ∃ g : Nat, e = .returned (.slice (some ⟨g, 0, none⟩) xs.length xs.length) ∧ w.heap.size ≤ g ∧ At w' g (.cells (iar xs) 2 (0, 0)) ∧ Below w.heap.size w w'
set_option maxHeartbeats 800000 in
theorem toInt64S_c (A : Option Addr) (c : Nat) (xs : List Int) (w : World) (hr : RdI w A xs) (hn : xs.length ≤ 1048576) :
    Calls Try.prog 36 #[.slice A xs.length c] w (NewI w xs) := by
  go_enter Try.func36, Try.ntmps36
  go_wp2_with (refine wpList_make_one rfl _ _ 49 rfl 2 (.int .i64 0) 8 Try.underlying49 infoI64 rfl xs.length rfl rfl (by omega) (by omega) ?_; intro w1 n1)
  have hB := n1.below (Below.refl w.heap.size w) (Nat.le_refl _)
  have hA := n1.at_
  rw [iar_zero] at hA
  go_wp2_with fail
  go_loopw [4] (fun i wr => ∃ k : Nat, k ≤ xs.length ∧ i = .int .i64 k ∧ Below w.heap.size w wr ∧ At wr w.heap.size (.cells (iar (xs.take k ++ List.replicate (xs.length - k) 0)) 2 (0, 0))) (fun i _ => xs.length - (intOf i).toNat)
  case atStart => exact ⟨0, by omega, rfl, hB, by simpa using hA⟩
  case round =>
    obtain ⟨k, hk, rfl, hB1, hA1⟩ := hrel
    clear n1 hA hB
    by_cases hlt : k < xs.length
    · obtain ⟨b, off, rfl, hc⟩ := (hr.keep hB1).at_ hlt
      have Hs := Lib.hid (fillI_step hlt)
      have e0 : IntKind.i64.wrap ((k : Int) + 1) = (k : Int) + 1 := IntWalk.i64_in _ (by omega)
      have hk' : (k : Int) < (xs.length : Int) := by omega
      generalize xs[k] = x at *
      have x0 := iar_old hA1 (k := k) (by simp; omega)
      have z0 := hA1.free k
      have P := Put.cell (i := k) hA1 (.int .i64 x)
      rw [iar_set, Hs.out] at P
      go_wp2_with fail
      go_roundw
      case rel => exact ⟨k + 1, by omega, by go_num, P.below hB1 (Nat.le_refl _), P.at_⟩
      case measure => simp [intOf]; omega
    · obtain rfl : k = xs.length := by omega
      rw [fillI_end] at hA1
      go_wp2_with fail
      go_ret
      exact ⟨w.heap.size, rfl, Nat.le_refl _, hA1, hB1⟩
/-! ### Matrices -/
def RdM (w : World) (A : Option Addr) (n : Nat) (row : Nat → List Int) : Prop :=
  n = 0 ∨ ∃ b off, A = some ⟨b, off, none⟩ ∧ ∀ i, i < n → ∃ B c, w.cell? ⟨b, off + i, none⟩ = some (.slice B (row i).length c) ∧ RdI w B (row i)
theorem RdM.at_ {w : World} {A : Option Addr} {n : Nat} {row : Nat → List Int} (h : RdM w A n row) {i : Nat} (hi : i < n) : ∃ b off B c, A = some ⟨b, off, none⟩ ∧ w.cell? ⟨b, off + i, none⟩ = some (.slice B (row i).length c) ∧ RdI w B (row i) := by
  rcases h with rfl | ⟨b, off, hA, hc⟩
  · omega
  · obtain ⟨B, c, h1, h2⟩ := hc i hi
    exact ⟨b, off, B, c, hA, h1, h2⟩
theorem RdM.keep {w w' : World} {A : Option Addr} {n : Nat} {row : Nat → List Int} (h : RdM w A n row) (hb : Below w.heap.size w w') : RdM w' A n row := by
  rcases h with h0 | ⟨b, off, hA, hc⟩
  · exact .inl h0
  · refine .inr ⟨b, off, hA, fun i hi => ?_⟩
    obtain ⟨B, c, h1, h2⟩ := hc i hi
    exact ⟨B, c, by rw [hb.cell (p := ⟨b, off + i, none⟩) (block_lt_of_cell h1)]; exact h1, h2.keep hb⟩
structure MatB (w : World) (lo hi g : Nat) (cs : Array Value) (gs : Nat → Nat) (n : Nat) (row : Nat → List Int) : Prop where
  out : At w g (.cells cs 49 (0, 0))
  og : lo ≤ g ∧ g < hi
  cell : ∀ i, i < n → cs[i]? = some (.slice (some ⟨gs i, 0, none⟩) (row i).length (row i).length)
  row : ∀ i, i < n → At w (gs i) (.cells (iar (row i)) 2 (0, 0)) ∧ lo ≤ gs i ∧ gs i < hi
  inj : ∀ i j, i < j → j < n → gs i ≠ gs j
def OwnM (w : World) (lo hi : Nat) (v : Value) (n : Nat) (row : Nat → List Int) : Prop :=
  (v = .slice none 0 0 ∧ n = 0) ∨ ∃ g c cs gs, v = .slice (some ⟨g, 0, none⟩) n c ∧ MatB w lo hi g cs gs n row
theorem OwnM.nil (w : World) (lo hi : Nat) (row : Nat → List Int) : OwnM w lo hi (.slice none 0 0) 0 row := .inl ⟨rfl, rfl⟩
section
variable {w w' w'' w0 : World} {lo hi lo' hi' g k b n : Nat} {cs : Array Value} {gs : Nat → Nat} {row row' : Nat → List Int} {v : Value}
theorem MatB.ne (h : MatB w lo hi g cs gs n row) {i : Nat} (hi' : i < n) : gs i ≠ g := fun e => by
  have h1 := (h.row i hi').1
  rw [e] at h1
  have h2 := h1.symm.trans h.out
  simp only [Option.some.injEq, Obj.cells.injEq] at h2
  exact absurd h2.2.1 (by decide)
theorem MatB.push (h : MatB w lo hi g cs gs k row) (hb : hi ≤ b) (hb' : b < hi') (hk : k < cs.size) (hnew : At w' b (.cells (iar (row k)) 2 (0, 0))) (keep : ∀ x o, x < hi → x ≠ g → At w x o → At w' x o)
    (hout : At w' g (.cells (cs.setIfInBounds k (.slice (some ⟨b, 0, none⟩) (row k).length (row k).length)) 49 (0, 0))) :
    MatB w' lo hi' g (cs.setIfInBounds k (.slice (some ⟨b, 0, none⟩) (row k).length (row k).length)) (fun x => if x = k then b else gs x) (k + 1) row := by
  have hg := h.og
  refine ⟨hout, ⟨hg.1, by omega⟩, fun i hi => ?_, fun i hi => ?_, fun i j hij hj => ?_⟩
  · by_cases e : i = k
    · subst e
      simp [hk]
    · have := h.cell i (by omega)
      simp only [if_neg e]
      rw [Array.getElem?_setIfInBounds, if_neg (by omega), this]
  · by_cases e : i = k
    · subst e
      simp only [if_true]
      exact ⟨hnew, by omega, hb'⟩
    · have hr := h.row i (by omega)
      simp only [if_neg e]
      exact ⟨keep _ _ hr.2.2 (h.ne (by omega)) hr.1, hr.2.1, by omega⟩
  · have e : i ≠ k := by omega
    simp only [if_neg e]
    split
    · have := (h.row i (by omega)).2.2
      omega
    · exact h.inj i j hij (by omega)
theorem MatB.put (h : MatB w lo hi g cs gs n row) {a : Nat} (ha : a < n) (hr : ∀ x, x ≠ a → row' x = row x) (hl : (row' a).length = (row a).length) (hnew : At w' (gs a) (.cells (iar (row' a)) 2 (0, 0)))
    (keep : ∀ x o, x ≠ gs a → At w x o → At w' x o) : MatB w' lo hi g cs gs n row' := by
  refine ⟨keep _ _ (h.ne ha).symm h.out, h.og, fun i hi => ?_, fun i hi => ?_, h.inj⟩
  · by_cases e : i = a
    · subst e
      rw [h.cell i hi, hl]
    · rw [h.cell i hi, hr i e]
  · by_cases e : i = a
    · subst e
      exact ⟨hnew, (h.row i hi).2⟩
    · rw [hr i e]
      refine ⟨keep _ _ (fun e' => ?_) (h.row i hi).1, (h.row i hi).2⟩
      rcases Nat.lt_or_gt_of_ne e with hlt | hlt
      · exact h.inj i a hlt ha e'
      · exact h.inj a i hlt hi e'.symm
theorem MatB.keepR (h : MatB w lo hi g cs gs n row) (keep : ∀ x o, lo ≤ x → x < hi → At w x o → At w' x o) : MatB w' lo hi g cs gs n row :=
  ⟨keep _ _ h.og.1 h.og.2 h.out, h.og, h.cell, fun i hi => ⟨keep _ _ (h.row i hi).2.1 (h.row i hi).2.2 (h.row i hi).1, (h.row i hi).2⟩, h.inj⟩
theorem MatB.below (h : MatB w lo hi g cs gs n row) (hb : Below w.heap.size w w') : MatB w' lo hi g cs gs n row := h.keepR fun _ _ _ _ hx => hx.after hb
theorem OwnM.below (h : OwnM w lo hi v n row) (hb : Below w.heap.size w w') : OwnM w' lo hi v n row := by
  rcases h with h0 | ⟨g, c, cs, gs, hv, hm⟩
  · exact .inl h0
  · exact .inr ⟨g, c, cs, gs, hv, hm.below hb⟩
theorem OwnM.same (h : OwnM w lo hi v n row) (hs : Same lo' hi' w w') (hd : hi ≤ lo' ∨ hi' ≤ lo) : OwnM w' lo hi v n row := by
  rcases h with h0 | ⟨g, c, cs, gs, hv, hm⟩
  · exact .inl h0
  · exact .inr ⟨g, c, cs, gs, hv, hm.keepR fun x _ h1 h2 hx => (hs.block x hx.lt (by omega)).trans hx⟩
theorem OwnM.drewN (h : OwnM w lo hi v n row) (j : Nat) : OwnM (w.drewN j) lo hi v n row := h.below (below_drawn (Below.refl _ _) j)
theorem RdI.of_iar {g : Nat} {xs : List Int} (h : At w g (.cells (iar xs) 2 (0, 0))) : RdI w (some ⟨g, 0, none⟩) xs := by
  refine .inr ⟨g, 0, rfl, fun i x hi => ?_⟩
  obtain ⟨hlt, rfl⟩ := List.getElem?_eq_some_iff.1 hi
  rw [h.at_, Nat.zero_add, iar_get hlt]
theorem OwnM.rd (h : OwnM w lo hi v n row) : ∃ A c, v = .slice A n c ∧ RdM w A n row := by
  rcases h with ⟨rfl, rfl⟩ | ⟨g, c, cs, gs, rfl, hm⟩
  · exact ⟨none, 0, rfl, .inl rfl⟩
  · refine ⟨_, _, rfl, .inr ⟨g, 0, rfl, fun i hi => ⟨_, _, by rw [hm.out.at_, Nat.zero_add, hm.cell i hi], RdI.of_iar (hm.row i hi).1⟩⟩⟩
theorem OwnM.rd' {A : Option Addr} {c m : Nat} (h : OwnM w lo hi (.slice A m c) n row) : RdM w A n row := by
  obtain ⟨A', c', e, hr⟩ := h.rd
  simp only [Value.slice.injEq] at e
  rw [e.1]
  exact hr
theorem OwnM.mono (h : OwnM w lo hi v n row) (hl : lo' ≤ lo) (hh : hi ≤ hi') : OwnM w lo' hi' v n row := by
  rcases h with h0 | ⟨g, c, cs, gs, hv, hm⟩
  · exact .inl h0
  · exact .inr ⟨g, c, cs, gs, hv, hm.out, ⟨Nat.le_trans hl hm.og.1, Nat.lt_of_lt_of_le hm.og.2 hh⟩, hm.cell, fun i hi => ⟨(hm.row i hi).1, Nat.le_trans hl (hm.row i hi).2.1, Nat.lt_of_lt_of_le (hm.row i hi).2.2 hh⟩, hm.inj⟩
end
def NewM (w : World) (n : Nat) (row : Nat → List Int) (e : Ending) (w' : World) : Prop :=
  ∃ v, e = .returned v ∧ OwnM w' w.heap.size w'.heap.size v n row ∧ Below w.heap.size w w'
set_option maxHeartbeats 800000 in
theorem toInt64SS_c (A : Option Addr) (c n : Nat) (row : Nat → List Int) (w : World) (hr : RdM w A n row) (hn : n ≤ 1048576) (hl : ∀ i, i < n → (row i).length ≤ 1048576) :
    Calls Try.prog 16 #[.slice A n c] w (NewM w n row) := by
  go_enter Try.func16, Try.ntmps16
  go_wp2_with (refine wpList_make_one rfl _ _ 26 rfl 49 (.slice none 0 0) 24 Try.underlying26 infoIS rfl n rfl rfl (by omega) (by omega) ?_; intro w1 n1)
  have hB := n1.below (Below.refl w.heap.size w) (Nat.le_refl _)
  have hA := n1.at_
  go_wp2_with fail
  go_loopw [4] (fun i wr => ∃ (k : Nat) (cs : Array Value) (gs : Nat → Nat), k ≤ n ∧ cs.size = n ∧ i = .int .i64 k ∧ Below w.heap.size w wr ∧ MatB wr w.heap.size wr.heap.size w.heap.size cs gs k row) (fun i _ => n - (intOf i).toNat)
  case atStart => exact ⟨0, _, fun _ => 0, by omega, by simp, rfl, hB, hA, ⟨Nat.le_refl _, hA.lt⟩, by omega, by omega, by omega⟩
  case round =>
    obtain ⟨k, cs, gs, hk, hcs, rfl, hB1, hM⟩ := hrel
    clear n1 hA hB
    by_cases hlt : k < n
    · obtain ⟨b, off, B, cB, rfl, hc, hI⟩ := (hr.keep hB1).at_ hlt
      have hl' := hl k hlt
      have e0 : IntKind.i64.wrap ((k : Int) + 1) = (k : Int) + 1 := IntWalk.i64_in _ (by omega)
      have hk' : (k : Int) < (n : Int) := by omega
      have hls := hM.out.lt
      go_wp2_with fail
      refine (toInt64S_c B cB (row k) _ hI hl').mono ?_
      rintro e w2 ⟨b2, rfl, hb2, hA2, bl2⟩
      have hO := hM.out.after bl2
      have x0 := cells_old hO (k := k) (by omega)
      have z0 := hO.free k
      have P := Put.cell (i := k) hO (.slice (some ⟨b2, 0, none⟩) (row k).length (row k).length)
      have hB2 := below_after hB1 bl2
      have hlt2 := hA2.lt
      have M2 : MatB _ w.heap.size w2.heap.size w.heap.size _ _ (k + 1) row := hM.push hb2 hlt2 (by omega) (P.other hA2 (by omega)) (fun x o h1 h2 h3 => P.other (h3.after bl2) h2) P.at_
      have B3 := P.below hB2 (Nat.le_refl _)
      have s3 : (w2.setCell ⟨w.heap.size, k, none⟩ (.slice (some ⟨b2, 0, none⟩) (row k).length (row k).length)).heap.size = w2.heap.size := size_setCell' _ _ _
      rw [← s3] at M2
      clear P hO hA2 hM s3
      go_wp2_with fail
      go_roundw
      case rel => exact ⟨k + 1, _, _, by omega, by simp [hcs], by go_num, B3, M2⟩
      case measure => simp [intOf]; omega
    · obtain rfl : k = n := by omega
      go_wp2_with fail
      go_ret
      exact ⟨_, rfl, .inr ⟨_, _, cs, gs, rfl, hM⟩, hB1⟩
end Go.Proofs.Ytebmkmkhfhmfbaa
namespace Go.Proofs.Ytebmkmkhfhmfbaa
open Go.RowKit
set_option maxRecDepth 100000
def tot (row : Nat → List Int) : Nat → Nat
  | 0 => 0
  | k + 1 => tot row k + (row k).length
theorem tot_mono (row : Nat → List Int) {i j : Nat} (h : i ≤ j) : tot row i ≤ tot row j := by
  induction h with
  | refl => exact Nat.le_refl _
  | step _ ih => exact Nat.le_trans ih (by simp [tot])
set_option maxHeartbeats 400000 in
theorem szInt64S_c (A : Option Addr) (n c : Nat) (l : Int) (w : World) (h0 : 0 ≤ l) (hn : n ≤ 9223372036854775807) (hl : l ≤ 1048576) :
    Calls Try.prog 32 #[.slice A n c, .int .i64 l] w fun e w' => e = .returned (.int .i64 (if l < n then -1 else l - n)) ∧ w = w' := by
  by_cases h : l - n < 0
  · have h' : l < n := by omega
    go_enter Try.func32, Try.ntmps32
    go_wp2_with fail
    go_ret
    exact ⟨by simp, rfl⟩
  · have h' : ¬ l < n := by omega
    go_enter Try.func32, Try.ntmps32
    go_wp2_with fail
    go_ret
    exact ⟨by simp, rfl⟩
def SzM (n : Nat) (row : Nat → List Int) (l r : Int) : Prop := r = -1 ∨ (0 ≤ r ∧ r + n + tot row n = l)
set_option maxHeartbeats 800000 in
theorem szInt64SS_c (A : Option Addr) (n c : Nat) (row : Nat → List Int) (l : Int) (w : World) (hr : RdM w A n row) (h0 : 0 ≤ l) (hn : n ≤ 9223372036854775807) (hrow : ∀ i, i < n → (row i).length ≤ 9223372036854775807) (hl : l ≤ 1048576) :
    Calls Try.prog 14 #[.slice A n c, .int .i64 l] w fun e w' => ∃ r, e = .returned (.int .i64 r) ∧ SzM n row l r ∧ w = w' := by
  by_cases h : l - n < 0
  · have h' : l < n := by omega
    go_enter Try.func14, Try.ntmps14
    go_wp2_with fail
    go_ret
    exact ⟨_, rfl, .inl rfl, rfl⟩
  · have h' : ¬ l < n := by omega
    go_enter Try.func14, Try.ntmps14
    go_wp2_with fail
    go_loop [1, 5] (fun lv i => ∃ (k : Nat) (r : Int), k ≤ n ∧ i = .int .i64 k ∧ lv = .int .i64 r ∧ 0 ≤ r ∧ r + n + tot row k = l) (fun _ i => n - (intOf i).toNat)
    case atStart => exact ⟨0, l - n, by omega, rfl, rfl, by omega, by simp [tot]⟩
    case round =>
      obtain ⟨k, r, hk, rfl, rfl, hr0, hrl⟩ := hrel
      by_cases hlt : k < n
      · obtain ⟨b, off, B, cB, rfl, hc, hI⟩ := hr.at_ hlt
        have e0 : IntKind.i64.wrap ((k : Int) + 1) = (k : Int) + 1 := IntWalk.i64_in _ (by omega)
        have hk' : (k : Int) < (n : Int) := by omega
        have hS := szInt64S_c B (row k).length cB r w hr0 (hrow k hlt) (by omega)
        by_cases hb : r < (row k).length
        · simp only [if_pos hb] at hS
          go_wp2_with fail
          refine hS.mono ?_
          rintro e w' ⟨rfl, rfl⟩
          go_wp2_with fail
          go_ret
          exact ⟨_, rfl, .inl rfl, rfl⟩
        · simp only [if_neg hb] at hS
          have hb2 : ¬ r - ((row k).length : Int) < 0 := by omega
          go_wp2_with fail
          refine hS.mono ?_
          rintro e w' ⟨rfl, rfl⟩
          go_wp2_with fail
          exact ⟨⟨k + 1, _, by omega, by go_num, rfl, by omega, by simp [tot]; omega⟩, by simp [intOf]; omega⟩
      · obtain rfl : k = n := by omega
        go_wp2_with fail
        go_ret
        exact ⟨_, rfl, .inr ⟨hr0, hrl⟩, rfl⟩
set_option maxHeartbeats 800000 in
theorem eqInt64SS_c (A B : Option Addr) (c d n : Nat) (row : Nat → List Int) (w : World) (ha : RdM w A n row) (hb : RdM w B n row) (hn : n ≤ 9000000000000000000) (hrow : ∀ i, i < n → (row i).length ≤ 9000000000000000000) :
    Calls Try.prog 9 #[.slice A n c, .slice B n d] w fun e w' => e = .returned (.bool true) ∧ Below w.heap.size w w' := by
  have hbl : (((n : Nat) : Int) != ((n : Nat) : Int)) = false := by simp
  go_enter Try.func9, Try.ntmps9
  go_wp2_with fail
  go_loopw [5] (fun i wr => ∃ k : Nat, k ≤ n ∧ i = .int .i64 k ∧ Below w.heap.size w wr) (fun i _ => n - (intOf i).toNat)
  case atStart => exact ⟨0, by omega, rfl, Below.refl _ _⟩
  case round =>
    obtain ⟨k, hk, rfl, hB⟩ := hrel
    by_cases hlt : k < n
    · obtain ⟨b, off, C, cC, rfl, hc, hI⟩ := (ha.keep hB).at_ hlt
      obtain ⟨b', off', C', cC', rfl, hc', hI'⟩ := (hb.keep hB).at_ hlt
      have hl := hrow k hlt
      have e0 : IntKind.i64.wrap ((k : Int) + 1) = (k : Int) + 1 := IntWalk.i64_in _ (by omega)
      generalize row k = xs at *
      go_wp2_with fail
      refine wp_region_still_tail (P := Try.prog) 8 (by kernel_rfl) (by kernel_rfl) ?_
      simp only [List.take_succ_cons, List.take_zero, List.drop_succ_cons, List.drop_zero]
      refine wpStill_of_exec rfl (exec_move _ rfl (.slice (some ⟨b, off, none⟩) n c) rfl) ?_
      go_frame
      refine wpStill_of_exec rfl (exec_move _ rfl (.int .i64 k) rfl) ?_
      go_frame
      refine wpStill_of_exec rfl (exec_index_slice _ 49 _ _ rfl b off n c k 1 rfl rfl Try.underlying26 (by kernel_rfl) hlt) ?_
      go_frame
      refine wpStill_of_exec rfl (exec_load_one 49 _ rfl b (off + k * 1) rfl (.slice C xs.length cC) _ Try.underlying49 rfl (by rw [Nat.mul_one]; exact hc)) ?_
      go_frame
      refine wpStill_of_exec rfl (exec_move _ rfl (.slice (some ⟨b', off', none⟩) n d) rfl) ?_
      go_frame
      refine wpStill_of_exec rfl (exec_move _ rfl (.int .i64 k) rfl) ?_
      go_frame
      refine wpStill_of_exec rfl (exec_index_slice _ 49 _ _ rfl b' off' n d k 1 rfl rfl Try.underlying26 (by kernel_rfl) hlt) ?_
      go_frame
      refine wpStill_of_exec rfl (exec_load_one 49 _ rfl b' (off' + k * 1) rfl (.slice C' xs.length cC') _ Try.underlying49 rfl (by rw [Nat.mul_one]; exact hc')) ?_
      go_frame
      refine wpStill_nil ?_
      go_wp2_with fail
      refine (eqInt64S_c C C' cC cC' xs _ (hI.keep (Below.refl _ _).drew) (hI'.keep (Below.refl _ _).drew) hl).mono ?_
      rintro e w2 ⟨rfl, b2⟩
      have hB2 := below_after (hB.drew) b2
      go_wp2_with fail
      go_roundw
      case rel => exact ⟨k + 1, by omega, by go_num, hB2⟩
      case measure => simp [intOf]; omega
    · obtain rfl : k = n := by omega
      go_wp2_with fail
      go_ret
      exact ⟨rfl, hB⟩
def markRow (K : Nat) (row : Nat → List Int) (i : Nat) : List Int := (List.range (row i).length).map fun j => ((K + tot row i + j : Nat) : Int)
theorem markRow_len (K : Nat) (row : Nat → List Int) (i : Nat) : (markRow K row i).length = (row i).length := by simp [markRow]
theorem markCI_row (K : Nat) (row : Nat → List Int) (i : Nat) : markCI (iar (row i)) (K + tot row i) (row i).length = iar (markRow K row i) := by
  apply Array.ext'
  simp only [markCI, iar, i64s, markRow]
  rw [List.drop_of_length_le (by simp)]
  simp [List.map_map, markVI, Function.comp_def]
def stage (K : Nat) (row : Nat → List Int) (a x : Nat) : List Int := if x < a then markRow K row x else row x
theorem stage_at (K : Nat) (row : Nat → List Int) (a : Nat) : stage K row a a = row a := by simp [stage]
theorem stage_new (K : Nat) (row : Nat → List Int) (a : Nat) : stage K row (a + 1) a = markRow K row a := by simp [stage]
theorem stage_ne (K : Nat) (row : Nat → List Int) (a x : Nat) (h : x ≠ a) : stage K row (a + 1) x = stage K row a x := by
  unfold stage
  by_cases h1 : x < a
  · rw [if_pos h1, if_pos (by omega)]
  · rw [if_neg h1, if_neg (by omega)]
theorem MatB.congr {w : World} {lo hi g n : Nat} {cs : Array Value} {gs : Nat → Nat} {row row' : Nat → List Int} (h : MatB w lo hi g cs gs n row) (he : ∀ i, i < n → row' i = row i) : MatB w lo hi g cs gs n row' :=
  ⟨h.out, h.og, fun i hi => by rw [he i hi]; exact h.cell i hi, fun i hi => by rw [he i hi]; exact h.row i hi, h.inj⟩
set_option maxHeartbeats 800000 in
theorem markInt64SS_c {lo hi : Nat} {v : Value} (K n : Nat) (row : Nat → List Int) (w : World) (h : OwnM w lo hi v n row) (ht : n + tot row n ≤ 1048576) (hk : K ≤ 1000000000) :
    Calls Try.prog 12 #[v, .int .i64 K] w fun e w' => e = .returned (.int .i64 ((K + tot row n : Nat) : Int)) ∧ OwnM w' lo hi v n (markRow K row) ∧ Same lo hi w w' := by
  rcases h with ⟨rfl, rfl⟩ | ⟨g, c, cs, gs, rfl, hm⟩
  · go_enter Try.func12, Try.ntmps12
    go_wp2_with fail
    go_loop [1, 5] (fun kv i => i = .int .i64 0 ∧ kv = .int .i64 (K : Int)) (fun _ _ => 0)
    case atStart => exact ⟨rfl, rfl⟩
    case round =>
      obtain ⟨rfl, rfl⟩ := hrel
      go_wp2_with fail
      go_ret
      exact ⟨rfl, OwnM.nil _ _ _ _, Same.refl _ _ _⟩
  · go_enter Try.func12, Try.ntmps12
    go_wp2_with fail
    go_loopw [1, 5] (fun kv i wr => ∃ a : Nat, a ≤ n ∧ i = .int .i64 a ∧ kv = .int .i64 ((K + tot row a : Nat) : Int) ∧ MatB wr lo hi g cs gs n (stage K row a) ∧ Same lo hi w wr) (fun _ i _ => n - (intOf i).toNat)
    case atStart => exact ⟨0, by omega, rfl, by simp [tot], hm.congr fun i _ => by simp [stage], Same.refl _ _ _⟩
    case round =>
      clear hm
      obtain ⟨a, ha, rfl, rfl, hm, hS⟩ := hrel
      by_cases hlt : a < n
      · have e0 : IntKind.i64.wrap ((a : Int) + 1) = (a : Int) + 1 := IntWalk.i64_in _ (by omega)
        have hk' : (a : Int) < (n : Int) := by omega
        have t1 := tot_mono row (show a + 1 ≤ n by omega)
        simp only [tot] at t1
        have hrw := hm.row a hlt
        have c0 := hm.cell a hlt
        rw [stage_at] at hrw c0
        have hc : wr.cell? ⟨g, a, none⟩ = some (.slice (some ⟨gs a, 0, none⟩) (row a).length (row a).length) := by rw [hm.out.at_ a, c0]
        have HC := Lib.hid (markInt64S_at (gs a) (row a).length (row a).length (K + tot row a) (iar (row a)) 2 wr hrw.1 (by rw [iar_size]; exact Nat.le_refl _) (by omega) (by omega))
        go_wp2_with fail
        refine HC.out.mono ?_
        rintro e w2 ⟨rfl, hA, hG⟩
        rw [markCI_row] at hA
        have hm2 : MatB w2 lo hi g cs gs n (stage K row (a + 1)) := hm.put hlt (fun x hx => stage_ne K row a x hx) (by rw [stage_new, stage_at, markRow_len]) (by rw [stage_new]; exact hA) (fun x o hx hA => (hG.block x hA.lt (by simpa using hx)).trans hA)
        have hS2 := hS.trans (Same.of_grown hG hrw.2)
        clear HC hm hS hG hA
        go_wp2_with fail
        exact ⟨⟨a + 1, by omega, by go_num, by simp [tot]; omega, hm2, hS2⟩, by simp [intOf]; omega⟩
      · obtain rfl : a = n := by omega
        go_wp2_with fail
        go_ret
        exact ⟨rfl, .inr ⟨g, c, cs, gs, rfl, hm.congr fun i hi => by simp [stage, hi]⟩, hS⟩
set_option maxHeartbeats 800000 in
theorem heldInt64SS_c {lo hi : Nat} {v : Value} (K n : Nat) (row : Nat → List Int) (w : World) (h : OwnM w lo hi v n (markRow K row)) (ht : n + tot row n ≤ 1048576) (hk : K ≤ 1000000000) :
    Calls Try.prog 13 #[v, .int .i64 K] w fun e w' => e = .returned (.int .i64 ((K + tot row n : Nat) : Int)) ∧ w = w' := by
  rcases h with ⟨rfl, rfl⟩ | ⟨g, c, cs, gs, rfl, hm⟩
  · go_enter Try.func13, Try.ntmps13
    go_wp2_with fail
    go_loop [1, 5] (fun kv i => i = .int .i64 0 ∧ kv = .int .i64 (K : Int)) (fun _ _ => 0)
    case atStart => exact ⟨rfl, rfl⟩
    case round =>
      obtain ⟨rfl, rfl⟩ := hrel
      go_wp2_with fail
      go_ret
      exact ⟨rfl, rfl⟩
  · go_enter Try.func13, Try.ntmps13
    go_wp2_with fail
    go_loop [1, 5] (fun kv i => ∃ a : Nat, a ≤ n ∧ i = .int .i64 a ∧ kv = .int .i64 ((K + tot row a : Nat) : Int)) (fun _ i => n - (intOf i).toNat)
    case atStart => exact ⟨0, by omega, rfl, by simp [tot]⟩
    case round =>
      obtain ⟨a, ha, rfl, rfl⟩ := hrel
      by_cases hlt : a < n
      · have e0 : IntKind.i64.wrap ((a : Int) + 1) = (a : Int) + 1 := IntWalk.i64_in _ (by omega)
        have hk' : (a : Int) < (n : Int) := by omega
        have t1 := tot_mono row (show a + 1 ≤ n by omega)
        simp only [tot] at t1
        have hrw := hm.row a hlt
        have c0 := hm.cell a hlt
        rw [markRow_len] at c0
        have hc : w.cell? ⟨g, a, none⟩ = some (.slice (some ⟨gs a, 0, none⟩) (row a).length (row a).length) := by rw [hm.out.at_ a, c0]
        have HC := Lib.hid (heldInt64S_at (gs a) (row a).length (row a).length (K + tot row a) w (fun i hi => by
          rw [hrw.1.at_ i, ← markCI_row, markCI_get hi]) (by omega) (by omega))
        have hneg : ¬ ((K + tot row a + (row a).length : Nat) : Int) < 0 := by omega
        have hneg' : ¬ (K : Int) + ((tot row a : Nat) : Int) + ((row a).length : Int) < 0 := by omega
        go_wp2_with fail
        refine HC.out.mono ?_
        rintro e w2 ⟨rfl, rfl⟩
        go_wp2_with fail
        exact ⟨⟨a + 1, by omega, by go_num, by simp [tot]; omega⟩, by simp [intOf]; omega⟩
      · obtain rfl : a = n := by omega
        go_wp2_with fail
        go_ret
        exact ⟨rfl, rfl⟩
end Go.Proofs.Ytebmkmkhfhmfbaa
namespace Go.Proofs.Ytebmkmkhfhmfbaa
open Go.RowKit
set_option maxRecDepth 100000
/-- The call answers this matrix, in memory of its own, and this code. -/
def ResM (w : World) (n : Nat) (row : Nat → List Int) (code : Int) (e : Ending) (w' : World) : Prop :=
  ∃ v, e = .returned (.tuple #[v, .int .i64 code]) ∧ OwnM w' w.heap.size w'.heap.size v n row ∧ Below w.heap.size w w'
theorem tot_ge (row : Nat → List Int) {i n : Nat} (h : i < n) : (row i).length ≤ tot row n := by
  have := tot_mono row (show i + 1 ≤ n by omega)
  simp only [tot] at this
  omega
theorem markInt64SS_2 {lo hi : Nat} {v : Value} (K : Nat) (k : Int) (n : Nat) (row : Nat → List Int) (w : World) (hk' : k = (K : Int)) (h : OwnM w lo hi v n row) (ht : n + tot row n ≤ 1048576) (hk : K ≤ 1000000000) :
    Calls Try.prog 12 #[v, .int .i64 k] w fun e w' => e = .returned (.int .i64 ((K + tot row n : Nat) : Int)) ∧ OwnM w' lo hi v n (markRow K row) ∧ Same lo hi w w' := by
  subst hk'
  exact markInt64SS_c K n row w h ht hk
theorem heldInt64SS_2 {lo hi : Nat} {v : Value} (n : Nat) (row : Nat → List Int) (w : World) (h : OwnM w lo hi v n (markRow 1 row)) (ht : n + tot row n ≤ 1048576) :
    Calls Try.prog 13 #[v, .int .i64 1] w fun e w' => e = .returned (.int .i64 ((1 + tot row n : Nat) : Int)) ∧ w = w' := heldInt64SS_c 1 n row w h ht (by omega)
theorem tot_le {row : Nat → List Int} {n K : Nat} (h : ∀ i, i < n → (row i).length ≤ K) : tot row n ≤ n * K := by
  induction n with
  | zero => simp [tot]
  | succ n ih =>
    have h1 := ih (fun i hi => h i (by omega))
    have h2 := h n (by omega)
    simp only [tot, Nat.succ_mul]
    omega
theorem OwnI.of_at {w : World} {lo g : Nat} {xs : List Int} (h : At w g (.cells (iar xs) 2 (0, 0))) (hl : lo ≤ g) (hn : xs.length ≤ 1048576) : OwnI w lo (.slice (some ⟨g, 0, none⟩) xs.length xs.length) xs := by
  refine ⟨by rw [i64s_len]; simp, .inr ⟨g, xs.length, iar xs, rfl, hl, h, Nat.le_refl _, by unfold maxLen; omega, by rw [iar_size]; simp, ?_⟩⟩
  rw [List.take_of_length_le (by simp [iar, i64s])]
  simp [iar]
theorem szInt64S_e (A : Option Addr) (n c : Nat) (l : Int) (w : World) (h0 : 0 ≤ l) (hn : n ≤ 9223372036854775807) (hl : l ≤ 1048576) :
    Calls Try.prog 32 #[.slice A n c, .int .i64 l] w fun e w' => ∃ r, e = .returned (.int .i64 r) ∧ SzN n l r ∧ w = w' := by
  refine (szInt64S_c A n c l w h0 hn hl).mono ?_
  rintro e w' ⟨rfl, rfl⟩
  refine ⟨_, rfl, ?_, rfl⟩
  by_cases h : l < n
  · rw [if_pos h]; exact .inl rfl
  · rw [if_neg h]; exact .inr ⟨by omega, by omega⟩
end Go.Proofs.Ytebmkmkhfhmfbaa
