/-
  spec.l05Slice. (Made by mksl4.py.)
-/
import Derived.Test.YtolgfpcadfjliaaSl3
namespace Go.Proofs.Ytolgfpcadfjliaa
open Go.RowKit
set_option maxRecDepth 100000
theorem OwnI.away_new {w : World} {lo : Nat} {v : Value} {xs : List Int} (h : OwnI w lo v xs) : some w.heap.size ≠ v.ownBlock := fun e => by
  have := (h.lt e.symm).2
  omega
attribute [local irreducible] wpList
theorem exec_bs0M {o : Oper} {a : Act} {w : World} (ho : o.op = .buildSlice 26 0 #[]) : (execOp a.eval o).run Try.prog w = .ok (.value (.slice (some ⟨w.heap.size, 0, none⟩) 0 0)) (w.alloc (.cells #[] 22 (0, 0))) := by
  unfold execOp
  rw [ho]
  kernel_rfl
theorem OwnS.off {w : World} {lo g : Nat} {v : Value} {vs : List Value} {cs : Array Value} {t : TypeId} (h : OwnS w lo v vs) (hA : At w g (.cells cs t (0, 0))) (ht : t ≠ 22) : some g ≠ v.ownBlock := fun e => by
  rcases h.2 with ⟨rfl, _⟩ | ⟨g2, cap, cur, rfl, hb, hgg, _⟩
  · cases e
  · simp only [Value.ownBlock, Option.some.injEq] at e
    subst e
    have h2 := hA.symm.trans hgg
    simp only [Option.some.injEq, Obj.cells.injEq] at h2
    exact ht h2.2.1
def rowV (gs caps : Nat → Nat) (row : Nat → List Int) (k : Nat) : List Value := (List.range k).map fun i => .slice (some ⟨gs i, 0, none⟩) (row i).length (caps i)
structure OutVB (w : World) (lo hi : Nat) (v : Value) (k : Nat) (row : Nat → List Int) (gs caps : Nat → Nat) (os : Nat → Array Value) : Prop where
  own : OwnS w lo v (rowV gs caps row k)
  hi9 : hi ≤ w.heap.size
  top : ∀ g, v.ownBlock = some g → g < hi
  rowA : ∀ i, i < k → At w (gs i) (.cells (os i) 2 (0, 0)) ∧ lo ≤ gs i ∧ gs i < hi
  nums : ∀ i, i < k → ∀ (t : Nat) (X : Int), (row i)[t]? = some X → (os i)[t]? = some (.int .i64 X)
/-- A list of lists that grows by append: its blocks lie from lo to hi. -/
def OutV (w : World) (lo hi : Nat) (v : Value) (k : Nat) (row : Nat → List Int) : Prop := ∃ gs caps os, OutVB w lo hi v k row gs caps os
section
variable {w w' : World} {lo hi k : Nat} {v : Value} {row : Nat → List Int}
theorem OutV.hiLe (h : OutV w lo hi v k row) : hi ≤ w.heap.size := by
  obtain ⟨_, _, _, h⟩ := h
  exact h.hi9
theorem OutV.grown {r : Option Nat} (h : OutV w lo hi v k row) (hg : w.grownBy w' r) (hr : ∀ g, r = some g → hi ≤ g) (hs : w.heap.size ≤ w'.heap.size) : OutV w' lo hi v k row := by
  obtain ⟨gs, caps, os, h⟩ := h
  refine ⟨gs, caps, os, World.ownsRow.kept h.own hg ?_, Nat.le_trans h.hi9 hs, h.top, fun i hi' => ⟨(h.rowA i hi').1.grown hg (fun e => ?_), (h.rowA i hi').2⟩, h.nums⟩
  · rcases hv : v.ownBlock with _ | g
    · exact .inl rfl
    · refine .inr (fun e => ?_)
      have h1 := h.top g hv
      have h2 := hr g e.symm
      omega
  · have h1 := (h.rowA i hi').2.2
    have h2 := hr _ e.symm
    omega
theorem OutV.below (h : OutV w lo hi v k row) (hb : Below w.heap.size w w') : OutV w' lo hi v k row :=
  h.grown (r := none) ⟨hb.os, hb.tape, hb.output, hb.size, fun k hk _ => hb.block k hk⟩ (fun g e => by cases e) hb.size
theorem OutV.drew (h : OutV w lo hi v k row) : OutV w.drew lo hi v k row := h.below (Below.refl _ _).drew
theorem OutV.raise (h : OutV w lo hi v k row) : OutV w lo w.heap.size v k row := by
  obtain ⟨gs, caps, os, h⟩ := h
  exact ⟨gs, caps, os, h.own, Nat.le_refl _, fun g e => Nat.lt_of_lt_of_le (h.top g e) h.hi9, fun i hi' => ⟨(h.rowA i hi').1, (h.rowA i hi').2.1, Nat.lt_of_lt_of_le (h.rowA i hi').2.2 h.hi9⟩, h.nums⟩
theorem OutV.away_new (h : OutV w lo hi v k row) : some w.heap.size ≠ v.ownBlock := fun e => by
  obtain ⟨_, _, _, h⟩ := h
  have h1 := h.top _ e.symm
  have h2 := h.hi9
  omega
theorem OutV.off {g : Nat} {cs : Array Value} {t : TypeId} (h : OutV w lo hi v k row) (hA : At w g (.cells cs t (0, 0))) (ht : t ≠ 22) : some g ≠ v.ownBlock := by
  obtain ⟨_, _, _, h⟩ := h
  exact h.own.off hA ht
theorem OutV.belowG {w0 : World} (ho : OutV w lo hi v k row) (h : Below w0.heap.size w0 w) (hb : w.grownBy w' v.ownBlock) (hl : w0.heap.size ≤ lo) : Below w0.heap.size w0 w' := by
  obtain ⟨_, _, _, ho⟩ := ho
  exact below_grownS h hb ho.own hl
theorem OutV.nil {b : Nat} (h : At w b (.cells #[] 22 (0, 0))) (hl : lo ≤ b) (row : Nat → List Int) : OutV w lo w.heap.size (.slice (some ⟨b, 0, none⟩) 0 0) 0 row := by
  refine ⟨fun _ => 0, fun _ => 0, fun _ => #[], ⟨by simp [rowV], .inr ⟨b, 0, #[], rfl, hl, h, by simp [rowV], by simp, by simp, by simp [rowV]⟩⟩, Nat.le_refl _, fun g e => ?_, fun i hi => by omega, fun i hi => by omega⟩
  simp only [Value.ownBlock, Option.some.injEq] at e
  rw [← e]
  exact h.lt
theorem OutV.ownV (h : OutV w lo hi v k row) : OwnV w lo w.heap.size v k row := by
  obtain ⟨gs, caps, os, h⟩ := h
  have hlen : (rowV gs caps row k).length = k := by simp [rowV]
  rcases h.own.2 with ⟨rfl, h0⟩ | ⟨g, cap, cur, rfl, hlo, hgg, hle, hcap, hsz, ht⟩
  · exact .inl ⟨rfl, by omega⟩
  · rw [hlen]
    refine .inr ⟨g, cap, cur, gs, caps, os, rfl, hgg, ⟨hlo, (Array.getElem?_eq_some_iff.1 hgg).1⟩, fun i hi' => ?_, fun i hi' => ⟨(h.rowA i hi').1, (h.rowA i hi').2.1, (h.rowA i hi').1.lt⟩, h.nums⟩
    have h1 : (rowV gs caps row k)[i]? = some (.slice (some ⟨gs i, 0, none⟩) (row i).length (caps i)) := by simp [rowV, hi']
    rw [← ht, List.getElem?_take] at h1
    split at h1
    · rwa [Array.getElem?_toList] at h1
    · cases h1
end
theorem wp_appV {o : Oper} {a : Act} {w : World} {K : Act → World → Prop} {Q : Exit → Act → World → Prop} (d : Option Tmp) (hd : o.dst = d) (s x : Operand) (ho : o.op = .call { callee := .builtin .append, args := #[s, x], argTypes := #[26, 26] })
    {lo hi : Nat} (v : Value) (k : Nat) (row : Nat → List Int) (hs : a.eval s = v) (h0 : OutV w lo hi v k row) (g9 c9 n : Nat) (D9 : Array Value) (h9 : At w g9 (.cells D9 2 (0, 0))) (hl9 : lo ≤ g9) (hn : (row k).length = n) (hD : ∀ (t : Nat) (X : Int), (row k)[t]? = some X → D9[t]? = some (.int .i64 X))
    (g : Nat) (hx : a.eval x = .slice (some ⟨g, 0, none⟩) 1 1) (hg : At w g (.cells #[.slice (some ⟨g9, 0, none⟩) n c9] 22 (0, 0))) (hle : k ≤ 1000000) (hlo : lo ≤ w.heap.size)
    (h : ∀ v' w', OutV w' lo w'.heap.size v' (k + 1) row → w.grownBy w' v.ownBlock → K (a.put d v') w') : Oper.wp Try.prog o a w K Q := by
  obtain ⟨gs, caps, os, h0⟩ := h0
  refine wp_appS d hd s x ho v _ hs h0.own (.slice (some ⟨g9, 0, none⟩) n c9) rfl g hx hg (by simp [rowV]; omega) hlo (fun v' w' h1 h2 => h v' w' ?_ h2)
  refine ⟨fun i => if i = k then g9 else gs i, fun i => if i = k then c9 else caps i, fun i => if i = k then D9 else os i, ?_, Nat.le_refl _, fun g e => (h1.lt e).2, fun i hi' => ?_, fun i hi' t X hX => ?_⟩
  · have e : rowV (fun i => if i = k then g9 else gs i) (fun i => if i = k then c9 else caps i) row (k + 1) = rowV gs caps row k ++ [.slice (some ⟨g9, 0, none⟩) n c9] := by
      unfold rowV
      rw [List.range_succ, List.map_append]
      congr 1
      · refine List.map_congr_left (fun i hi' => ?_)
        have h3 := List.mem_range.1 hi'
        simp only [if_neg (show i ≠ k by omega)]
      · simp [hn]
    rw [e]
    exact h1
  · by_cases e : i = k
    · subst e
      have h3 := h9.grown h2 (h0.own.off h9 (by decide))
      simp only [if_true]
      exact ⟨h3, hl9, h3.lt⟩
    · have h4 := h0.rowA i (by omega)
      have h3 := h4.1.grown h2 (h0.own.off h4.1 (by decide))
      simp only [if_neg e]
      exact ⟨h3, h4.2.1, h3.lt⟩
  · by_cases e : i = k
    · subst e
      simp only [if_true]
      exact hD t X hX
    · simp only [if_neg e]
      exact h0.nums i (by omega) t X hX
theorem wp_appI1 {o : Oper} {a : Act} {w : World} {K : Act → World → Prop} {Q : Exit → Act → World → Prop} (d : Option Tmp) (hd : o.dst = d) (s x : Operand) (ho : o.op = .call { callee := .builtin .append, args := #[s, x], argTypes := #[22, 22] })
    {lo : Nat} (v : Value) (xs : List Int) (y : Int) (hs : a.eval s = v) (hown : OwnI w lo v xs) (g : Nat) (hx : a.eval x = .slice (some ⟨g, 0, none⟩) 1 1) (hg : At w g (.cells #[.int .i64 y] 2 (0, 0))) (hle : xs.length ≤ 1000000) (hlo : lo ≤ w.heap.size)
    (h : ∀ v' w', OwnI w' lo v' (xs ++ [y]) → w.grownBy w' v.ownBlock → K (a.put d v') w') : Oper.wp Try.prog o a w K Q := by
  obtain ⟨i0, hi, hz0, hz1, hz2⟩ := info_parts infoI64
  refine wp_append' d hd s x 22 ho lo 2 i0 (.int .i64 0) 1 8 Try.underlying22 hi hz0 hz1 hz2 rfl (by decide) v _ _ hs hown ⟨g, 0, none⟩ 1 1 (i64s [y]) hx (by simp [i64s]) ?_ (i64s_ones _) (by unfold maxLen; omega) (by omega) hlo ?_
  · intro j u hu
    obtain ⟨X, hX, rfl⟩ := i64s_get hu
    have hj : j = 0 := by
      have := (List.getElem?_eq_some_iff.1 hX).1
      simp at this
      omega
    subst hj
    simp only [List.getElem?_cons_zero, Option.some.injEq] at hX
    subst hX
    exact hg.at_ 0
  · intro v1 w8 own8 gr8 _
    refine h v1 w8 ?_ gr8
    unfold OwnI
    rw [show i64s (xs ++ [y]) = i64s xs ++ i64s [y] by simp [i64s], List.length_append]
    exact own8
theorem slR_step {xs YS : List Int} {T b d j t : Nat} {X : Int} (hYS : (xs.drop (T * (b * d))).take (b * d) = YS) (hYL : YS.length = b * d) (hj : j < b) (ht : t < d) (hX : nthI xs ((((T : Nat) : Int) * b + (j : Nat)) * d + (t : Nat)) = X) :
    (slR d YS j).take t ++ [X] = (slR d YS j).take (t + 1) := by
  have hl := slR_len hYL hj
  have h1 : (slR d YS j)[t]? = some X := by
    have h2 : (slR d YS j)[t]? = xs[(T * b + j) * d + t]? := by
      subst hYS
      have h3 : j * d + t < b * d := by
        have h5 : (j + 1) * d ≤ b * d := Nat.mul_le_mul_right _ hj
        rw [Nat.succ_mul] at h5
        omega
      simp only [slR, List.getElem?_take, List.getElem?_drop]
      rw [if_pos ht, if_pos h3]
      congr 1
      rw [Nat.add_mul, Nat.mul_assoc, Nat.add_assoc]
    have h4 : t < (slR d YS j).length := by omega
    rw [List.getElem?_eq_getElem h4] at h2 ⊢
    unfold nthI at hX
    rw [show ((((T : Nat) : Int) * b + (j : Nat)) * d + (t : Nat)).toNat = (T * b + j) * d + t by
      rw [← Int.natCast_mul, ← Int.natCast_add, ← Int.natCast_mul, ← Int.natCast_add, Int.toNat_natCast], ← h2] at hX
    simpa using hX
  rw [List.take_add_one, h1]
  rfl
theorem l05AtN_c (p : Int) (a b c : Nat) (A : Option Addr) (cap N : Nat) (xs : List Int) (i j k : Nat) (w : World) (hr : RdI w A xs) (hN : xs.length = N) (hl : a * b * c = N) (ha : a ≤ 9) (hb : b ≤ 9) (hc : c ≤ 9) (hi : i < a) (hj : j < b) (hk : k < c) :
    Calls Try.prog 37 #[.agg #[.int .i64 p, .int .i64 a, .int .i64 b, .int .i64 c, .slice A N cap], .int .i64 i, .int .i64 j, .int .i64 k] w fun e w' => e = .returned (.int .i64 (nthI xs ((((i : Nat) : Int) * b + (j : Nat)) * c + (k : Nat)))) ∧ Below w.heap.size w w' := by
  subst hN
  exact l05At_c p a b c A cap xs i j k w hr (by rw [← hl]; simp) (by omega) (by omega) (by omega) (by omega) (by omega) (by omega) (by omega) (by omega) (by omega)
set_option maxHeartbeats 4000000 in
theorem l05Slice_c (p : Int) (a b d T : Nat) (bB oB c0 N : Nat) (xs : List Int) (w : World) (hX : RdI w (some ⟨bB, oB, none⟩) xs) (hxl : xs.length = N) (hs : tenB p a b d xs = true) (HTa : T < a) :
    Calls Try.prog 28 #[.agg #[.int .i64 p, .int .i64 a, .int .i64 b, .int .i64 d, .slice (some ⟨bB, oB, none⟩) N c0], .int .i64 T] w (fun e w' => ∃ v, e = .returned v ∧ OwnV w' w.heap.size w'.heap.size v b (slR d ((xs.drop (T * (b * d))).take (b * d))) ∧ Below w.heap.size w w') := by
  have hB := Below.refl w.heap.size w
  have hdm := (ten_parts hs).2
  have ha0 := hdm.1
  have hb0 := hdm.2.1
  have hd0 := hdm.2.2.1
  have HN3 : Hid (a * b * d = N) := Lib.hid (by rw [← hxl]; exact hdm.2.2.2.1.symm)
  have HXl := Lib.hid hxl
  have hQM : (T + 1) * (b * d) ≤ N := by rw [← HN3.out, Nat.mul_assoc]; exact Nat.mul_le_mul_right _ HTa
  obtain ⟨YS, hYS⟩ : ∃ z9, (xs.drop (T * (b * d))).take (b * d) = z9 := ⟨_, rfl⟩
  have HYL : Hid (YS.length = b * d) := Lib.hid (by rw [← hYS]; rw [Nat.succ_mul] at hQM; simp; omega)
  have HRl : Hid (∀ j, j < b → (slR d YS j).length = d) := Lib.hid (fun j hj => slR_len HYL.out hj)
  have HYS := Lib.hid hYS
  rw [hYS]
  clear hYS hxl hs hdm hQM
  go_enter Try.func28, Try.ntmps28
  go_upto_region 0 with (fail)
  refine wp_region_lit ?_
  refine ls_op rfl (fun K' hK' => ?_)
  have lz1 := hB.size
  refine wp_new (some 2) rfl (exec_box 29 _ rfl (#[.int .i64 p, .int .i64 a, .int .i64 b, .int .i64 d, .slice (some ⟨bB, oB, none⟩) N c0]) rfl) (fun Wz2 nnz3 => ?_)
  have bz4 := nnz3.below (Below.refl _ _) (Nat.le_refl _)
  replace hB := below_after hB bz4
  have hz5 : At Wz2 w.heap.size (.cells #[.int .i64 p, .int .i64 a, .int .i64 b, .int .i64 d, .slice (some ⟨bB, oB, none⟩) N c0] 29 (0, 0)) := nnz3.at_
  refine hK' _ _ ?_
  clear hK' K' nnz3 bz4
  go_frame
  refine ls_ex (some 4) (.slice none 0 0) rfl rfl (exec_assign _ rfl (.slice none 0 0) rfl) ?_
  go_frame
  refine wpList_nil ?_
  go_upto_region 1 with (fail)
  refine wp_region_lit ?_
  refine ls_op rfl (fun K' hK' => ?_)
  have lz6 := hB.size
  have lz7 := hz5.lt
  refine wp_new (some 9) rfl (exec_bs0M rfl) (fun Wz8 nnz9 => ?_)
  have bz10 := nnz9.below (Below.refl _ _) (Nat.le_refl _)
  replace hB := below_after hB bz10
  replace hz5 := hz5.after bz10
  have hk0 : At Wz8 Wz2.heap.size (.cells #[] 22 (0, 0)) := nnz9.at_
  refine hK' _ _ ?_
  clear hK' K' nnz9 bz10
  go_frame
  refine ls_ex (some 5) (.slice (some ⟨Wz2.heap.size, 0, none⟩) 0 0) rfl rfl (exec_assign _ rfl (.slice (some ⟨Wz2.heap.size, 0, none⟩) 0 0) rfl) ?_
  go_frame
  refine wpList_nil ?_
  go_upto_region 2 with (fail)
  refine wp_region_lit ?_
  refine ls_ex (some 6) (.int .i64 0) rfl rfl (exec_assign _ rfl (.int .i64 0) rfl) ?_
  go_frame
  refine wpList_nil ?_
  go_wp2_with fail
  go_loopw [5, 6, 7, 8] (fun s5 s6 s7 s8 wr => ∃ (j : Nat) (v : Value) (z8 : Nat), j ≤ b ∧ v = s5 ∧ s6 = .int .i64 j ∧ Below w.heap.size w wr ∧ At wr w.heap.size (.cells #[.int .i64 p, .int .i64 a, .int .i64 b, .int .i64 d, .slice (some ⟨bB, oB, none⟩) N c0] 29 (0, 0)) ∧ OutV wr w.heap.size (z8) v j (slR d YS)) (fun _ s6 _ _ _ => b - (intOf s6).toNat)
  case atStart => exact ⟨0, _, _, by omega, rfl, rfl, hB, hz5, OutV.nil hk0 (by omega) _⟩
  case round =>
    clear hB hz5 hk0
    obtain ⟨j, v, z8, hle, rfl, rfl, hB, h2, hu⟩ := hrel
    by_cases hlt : j < b
    · have hj : j < b := hlt
      go_upto_region 3 with (fail)
      refine wp_region_lit ?_
      refine ls_ex (some 10) (.int .i64 j) rfl rfl (exec_move _ rfl (.int .i64 j) rfl) ?_
      go_frame
      refine ls_ex (some 11) (.pointer (some ⟨w.heap.size, 2, none⟩)) rfl rfl (exec_fieldAddr 29 _ 2 rfl _ (by kernel_rfl)) ?_
      go_frame
      refine ls_ex (some 12) (.int .i64 b) rfl rfl (exec_load_one 2 _ rfl w.heap.size 2 rfl (.int .i64 b) _ Try.underlying2 rfl (h2.at_ 2)) ?_
      go_frame
      refine ls_ex (some 13) (.bool true) rfl rfl (exec_lss _ _ _ _ rfl j b rfl rfl true (decide_eq_true (by omega))) ?_
      go_frame
      refine wpList_nil ?_
      go_upto_region 5 with (fail)
      refine wp_region_lit ?_
      refine ls_op rfl (fun K' hK' => ?_)
      obtain ⟨zR, hzR⟩ : ∃ z9 : Nat, wr.heap.size = z9 := ⟨_, rfl⟩
      replace hu := hu.raise
      rw [hzR] at hu
      have lz11 := hB.size
      have lz12 := h2.lt
      have naz16 := hu.away_new
      refine wp_new (some 16) rfl (exec_bs0S rfl) (fun Wz13 nnz14 => ?_)
      have bz15 := nnz14.below (Below.refl _ _) (Nat.le_refl _)
      replace hB := below_after hB bz15
      replace h2 := h2.after bz15
      replace hu := hu.below bz15
      have hk : At Wz13 wr.heap.size (.cells #[] 2 (0, 0)) := nnz14.at_
      refine hK' _ _ ?_
      clear hK' K' nnz14 bz15
      go_frame
      refine ls_ex (some 7) (.slice (some ⟨wr.heap.size, 0, none⟩) 0 0) rfl rfl (exec_assign _ rfl (.slice (some ⟨wr.heap.size, 0, none⟩) 0 0) rfl) ?_
      go_frame
      refine wpList_nil ?_
      go_upto_region 6 with (fail)
      refine wp_region_lit ?_
      refine ls_ex (some 8) (.int .i64 0) rfl rfl (exec_assign _ rfl (.int .i64 0) rfl) ?_
      go_frame
      refine wpList_nil ?_
      go_wp2_with fail
      go_loopw [7, 8] (fun s7 s8 wr => ∃ (t : Nat) (x9 : Value), t ≤ d ∧ x9 = s7 ∧ s8 = .int .i64 t ∧ Below w.heap.size w wr ∧ At wr w.heap.size (.cells #[.int .i64 p, .int .i64 a, .int .i64 b, .int .i64 d, .slice (some ⟨bB, oB, none⟩) N c0] 29 (0, 0)) ∧ OutV wr w.heap.size zR v j (slR d YS) ∧ OwnI wr zR x9 ((slR d YS j).take t)) (fun _ s8 _ => d - (intOf s8).toNat)
      case atStart => exact ⟨0, _, by omega, rfl, rfl, hB, h2, hu, by rw [List.take_zero]; exact own_nilS hk (by omega)⟩
      case round =>
        clear hB h2 hu hk
        obtain ⟨t, x9, hle2, rfl, rfl, hB, h2, hu, ho⟩ := hrel
        by_cases hlt : t < d
        · obtain ⟨X, hX9⟩ : ∃ z9, nthI xs ((((T : Nat) : Int) * b + (j : Nat)) * d + (t : Nat)) = z9 := ⟨_, rfl⟩
          have HT : Hid ((slR d YS j).take t ++ [X] = (slR d YS j).take (t + 1)) := Lib.hid (by rw [← hX9]; exact slR_step HYS.out HYL.out hj hlt rfl)
          have HX9 := Lib.hid hX9
          have HLen : Hid (((slR d YS j).take t).length ≤ 1000000) := Lib.hid (by simp; omega)
          clear hX9
          go_upto_region 7 with (fail)
          refine wp_region_lit ?_
          refine ls_ex (some 17) (.int .i64 t) rfl rfl (exec_move _ rfl (.int .i64 t) rfl) ?_
          go_frame
          refine ls_ex (some 18) (.pointer (some ⟨w.heap.size, 3, none⟩)) rfl rfl (exec_fieldAddr 29 _ 3 rfl _ (by kernel_rfl)) ?_
          go_frame
          refine ls_ex (some 19) (.int .i64 d) rfl rfl (exec_load_one 2 _ rfl w.heap.size 3 rfl (.int .i64 d) _ Try.underlying2 rfl (h2.at_ 3)) ?_
          go_frame
          refine ls_ex (some 20) (.bool true) rfl rfl (exec_lss _ _ _ _ rfl t d rfl rfl true (decide_eq_true (by omega))) ?_
          go_frame
          refine wpList_nil ?_
          go_upto_region 9 with (fail)
          refine wp_region_lit ?_
          refine ls_ex (some 23) (x9) rfl rfl (exec_move _ rfl (x9) rfl) ?_
          go_frame
          refine ls_ex (some 24) (.agg #[.int .i64 p, .int .i64 a, .int .i64 b, .int .i64 d, .slice (some ⟨bB, oB, none⟩) N c0]) rfl rfl (exec_load_all 29 _ rfl w.heap.size rfl _ _ _ h2 Try.underlying29 rfl 5 (by kernel_rfl) rfl) ?_
          go_frame
          refine ls_ex (some 25) (.int .i64 T) rfl rfl (exec_move _ rfl (.int .i64 T) rfl) ?_
          go_frame
          refine ls_ex (some 26) (.int .i64 j) rfl rfl (exec_move _ rfl (.int .i64 j) rfl) ?_
          go_frame
          refine ls_ex (some 27) (.int .i64 t) rfl rfl (exec_move _ rfl (.int .i64 t) rfl) ?_
          go_frame
          refine ls_op rfl (fun K' hK' => ?_)
          have lz19 := hB.size
          have lz20 := h2.lt
          refine wp_call4 (some 28) rfl 37 _ _ _ _ _ rfl (fun args w => by kernel_rfl) _ _ _ _ rfl rfl rfl rfl _ (l05AtN_c p a b d (some ⟨bB, oB, none⟩) c0 N xs T j t _ (hX.keep hB) HXl.out HN3.out ha0.2 hb0.2 hd0.2 HTa hj hlt) (fun e Wz17 h => ?_)
          obtain ⟨rfl, bz18⟩ := h
          replace hB := below_after hB bz18
          replace h2 := h2.after bz18
          replace hu := hu.below bz18
          replace ho := ho.below bz18
          rw [HX9.out]
          clear bz18
          refine ⟨_, rfl, ?_⟩
          refine hK' _ _ ?_
          clear hK' K'
          go_frame
          refine ls_op rfl (fun K' hK' => ?_)
          have lz21 := hB.size
          have lz22 := h2.lt
          have naz27 := hu.away_new
          have naz28 := ho.away_new
          refine wp_new (some 29) rfl (exec_bsi1 _ rfl X rfl) (fun Wz23 nnz24 => ?_)
          have bz25 := nnz24.below (Below.refl _ _) (Nat.le_refl _)
          replace hB := below_after hB bz25
          replace h2 := h2.after bz25
          replace hu := hu.below bz25
          replace ho := ho.below bz25
          have hz26 : At Wz23 Wz17.heap.size (.cells #[.int .i64 X] 2 (0, 0)) := nnz24.at_
          refine hK' _ _ ?_
          clear hK' K' nnz24 bz25
          go_frame
          refine ls_op rfl (fun K' hK' => ?_)
          have lz32 := hB.size
          have lz33 := h2.lt
          have lz34 := hz26.lt
          have hz9 := hu.hiLe
          refine wp_appI1 (some 30) rfl _ _ rfl x9 ((slR d YS j).take t) X rfl ho Wz17.heap.size rfl hz26 HLen.out (by omega) (fun x8 Wz29 noz31 grz30 => ?_)
          rw [HT.out] at noz31
          replace hB := below_grownI hB grz30 ho (by omega)
          replace hu := hu.grown grz30 (fun k9 hk9 => (ho.lt hk9).1) grz30.size
          replace h2 := h2.grown grz30 (ho.off h2 (by decide))
          replace ho := noz31
          refine hK' _ _ ?_
          clear hK' K' grz30 hz26 hz9
          go_frame
          refine ls_ex (some 7) (x8) rfl rfl (exec_assign _ rfl (x8) rfl) ?_
          go_frame
          refine wpList_nil ?_
          go_upto_region 8 with (fail)
          refine wp_region_lit ?_
          refine ls_ex (some 21) (.int .i64 t) rfl rfl (exec_move _ rfl (.int .i64 t) rfl) ?_
          go_frame
          refine ls_ex (some 22) (.int .i64 (t + 1)) rfl rfl (exec_add _ _ _ _ rfl t 1 (t + 1) rfl rfl (IntWalk.i64_in _ (by omega))) ?_
          go_frame
          refine ls_ex (some 8) (.int .i64 (t + 1)) rfl rfl (exec_assign _ rfl (.int .i64 (t + 1)) rfl) ?_
          go_frame
          refine wpList_nil ?_
          go_wp2_with fail
          go_roundw
          case rel => exact ⟨t + 1, x8, by omega, rfl, by go_num, hB, h2, hu, ho⟩
          case measure => simp [intOf] <;> omega
        · rw [show (slR d YS j).take t = slR d YS j by rw [show t = d by omega]; exact List.take_of_length_le (by rw [HRl.out j hj]; exact Nat.le_refl _)] at ho
          obtain ⟨g9, c9, D9, rfl, hg9l, _, hG9, _, hD9⟩ := ownI_openC ho (HRl.out j hj) (by omega)
          have HD9 := Lib.hid hD9
          clear ho hD9
          obtain ⟨wk, rfl⟩ : ∃ z : World, z = wr := ⟨_, rfl⟩
          go_upto_region 7 with (fail)
          refine wp_region_lit ?_
          refine ls_ex (some 17) (.int .i64 t) rfl rfl (exec_move _ rfl (.int .i64 t) rfl) ?_
          go_frame
          refine ls_ex (some 18) (.pointer (some ⟨w.heap.size, 3, none⟩)) rfl rfl (exec_fieldAddr 29 _ 3 rfl _ (by kernel_rfl)) ?_
          go_frame
          refine ls_ex (some 19) (.int .i64 d) rfl rfl (exec_load_one 2 _ rfl w.heap.size 3 rfl (.int .i64 d) _ Try.underlying2 rfl (h2.at_ 3)) ?_
          go_frame
          refine ls_ex (some 20) (.bool false) rfl rfl (exec_lss _ _ _ _ rfl t d rfl rfl false (decide_eq_false (by omega))) ?_
          go_frame
          refine wpList_nil ?_
          go_upto_region 10 with (fail)
          refine wp_region_lit ?_
          refine ls_ex (some 31) (v) rfl rfl (exec_move _ rfl (v) rfl) ?_
          go_frame
          refine ls_ex (some 32) (.slice (some ⟨g9, 0, none⟩) d c9) rfl rfl (exec_move _ rfl (.slice (some ⟨g9, 0, none⟩) d c9) rfl) ?_
          go_frame
          refine ls_op rfl (fun K' hK' => ?_)
          have lz35 := hB.size
          have lz36 := h2.lt
          have lz37 := hG9.lt
          have naz42 := hu.away_new
          refine wp_new (some 33) rfl (exec_bsM1 _ rfl ((some ⟨g9, 0, none⟩)) d c9 rfl) (fun Wz38 nnz39 => ?_)
          have bz40 := nnz39.below (Below.refl _ _) (Nat.le_refl _)
          replace hB := below_after hB bz40
          replace h2 := h2.after bz40
          replace hu := hu.below bz40
          replace hG9 := hG9.after bz40
          have hz41 : At Wz38 wk.heap.size (.cells #[.slice (some ⟨g9, 0, none⟩) d c9] 22 (0, 0)) := nnz39.at_
          refine hK' _ _ ?_
          clear hK' K' nnz39 bz40
          go_frame
          refine ls_op rfl (fun K' hK' => ?_)
          have lz46 := hB.size
          have lz47 := h2.lt
          have lz48 := hG9.lt
          have lz49 := hz41.lt
          have hz9 := hu.hiLe
          refine wp_appV (some 34) rfl _ _ rfl v j (slR d YS) rfl hu g9 c9 d D9 hG9 (by omega) (HRl.out j hj) HD9.out wk.heap.size rfl hz41 (by omega) (by omega) (fun v8 Wz43 noz45 grz44 => ?_)
          replace hB := hu.belowG hB grz44 (by omega)
          replace h2 := h2.grown grz44 (hu.off h2 (by decide))
          replace hu := noz45
          refine hK' _ _ ?_
          clear hK' K' grz44 hz41 hG9 hz9
          go_frame
          refine ls_ex (some 5) (v8) rfl rfl (exec_assign _ rfl (v8) rfl) ?_
          go_frame
          refine wpList_nil ?_
          go_upto_region 4 with (fail)
          refine wp_region_lit ?_
          refine ls_ex (some 14) (.int .i64 j) rfl rfl (exec_move _ rfl (.int .i64 j) rfl) ?_
          go_frame
          refine ls_ex (some 15) (.int .i64 (j + 1)) rfl rfl (exec_add _ _ _ _ rfl j 1 (j + 1) rfl rfl (IntWalk.i64_in _ (by omega))) ?_
          go_frame
          refine ls_ex (some 6) (.int .i64 (j + 1)) rfl rfl (exec_assign _ rfl (.int .i64 (j + 1)) rfl) ?_
          go_frame
          refine wpList_nil ?_
          go_wp2_with fail
          go_roundw
          case rel => exact ⟨j + 1, v8, _, by omega, rfl, by go_num, hB, h2, hu⟩
          case measure => simp [intOf] <;> omega
    · have hjb : j = b := by omega
      go_upto_region 3 with (fail)
      refine wp_region_lit ?_
      refine ls_ex (some 10) (.int .i64 j) rfl rfl (exec_move _ rfl (.int .i64 j) rfl) ?_
      go_frame
      refine ls_ex (some 11) (.pointer (some ⟨w.heap.size, 2, none⟩)) rfl rfl (exec_fieldAddr 29 _ 2 rfl _ (by kernel_rfl)) ?_
      go_frame
      refine ls_ex (some 12) (.int .i64 b) rfl rfl (exec_load_one 2 _ rfl w.heap.size 2 rfl (.int .i64 b) _ Try.underlying2 rfl (h2.at_ 2)) ?_
      go_frame
      refine ls_ex (some 13) (.bool false) rfl rfl (exec_lss _ _ _ _ rfl j b rfl rfl false (decide_eq_false (by omega))) ?_
      go_frame
      refine wpList_nil ?_
      go_upto_region 11 with (fail)
      refine wp_region_lit ?_
      refine ls_ex (some 35) (v) rfl rfl (exec_move _ rfl (v) rfl) ?_
      go_frame
      refine ls_ex (some 4) (v) rfl rfl (exec_assign _ rfl (v) rfl) ?_
      go_frame
      refine wpList_nil ?_
      go_wp2_with fail
      go_ret
      exact ⟨v, rfl, by rw [← hjb]; exact hu.ownV, hB⟩
end Go.Proofs.Ytolgfpcadfjliaa
