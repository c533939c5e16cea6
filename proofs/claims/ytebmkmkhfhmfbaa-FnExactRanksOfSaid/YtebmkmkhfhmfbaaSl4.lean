/-
  spec.l05Slice. (Made by mksl4.py.)
-/
import Derived.Test.YtebmkmkhfhmfbaaSl3
namespace Go.Proofs.Ytebmkmkhfhmfbaa
open Go.RowKit
set_option maxRecDepth 100000
theorem OwnI.away_new {w : World} {lo : Nat} {v : Value} {xs : List Int} (h : OwnI w lo v xs) : some w.heap.size ≠ v.ownBlock := fun e => by
  have := (h.lt e.symm).2
  omega
attribute [local irreducible] wpList
theorem exec_bs0M {o : Oper} {a : Act} {w : World} (ho : o.op = .buildSlice 26 0 #[]) : (execOp a.eval o).run Try.prog w = .ok (.value (.slice (some ⟨w.heap.size, 0, none⟩) 0 0)) (w.alloc (.cells #[] 49 (0, 0))) := by
  unfold execOp
  rw [ho]
  kernel_rfl
theorem OwnS.off {w : World} {lo g : Nat} {v : Value} {vs : List Value} {cs : Array Value} {t : TypeId} (h : OwnS w lo v vs) (hA : At w g (.cells cs t (0, 0))) (ht : t ≠ 49) : some g ≠ v.ownBlock := fun e => by
  rcases h.2 with ⟨rfl, _⟩ | ⟨g2, cap, cur, rfl, hb, hgg, _⟩
  · cases e
  · simp only [Value.ownBlock, Option.some.injEq] at e
    subst e
    have h2 := hA.symm.trans hgg
    simp only [Option.some.injEq, Obj.cells.injEq] at h2
    exact ht h2.2.1
def rowV (gs caps : Nat → Nat) (row : Nat → List Int) (k : Nat) : List Value := (List.range k).map fun i => .slice (some ⟨gs i, 0, none⟩) (row i).length (caps i)
structure OutVB (w : World) (lo hi : Nat) (v : Value) (k : Nat) (row : Nat → List Int) (gs caps : Nat → Nat) (os : Nat → Array Value) : Prop where
  own : OwnS w lo v (rowV gs caps row k)
  hi9 : hi ≤ w.heap.size
  top : ∀ g, v.ownBlock = some g → g < hi
  rowA : ∀ i, i < k → At w (gs i) (.cells (os i) 2 (0, 0)) ∧ lo ≤ gs i ∧ gs i < hi
  nums : ∀ i, i < k → ∀ (t : Nat) (X : Int), (row i)[t]? = some X → (os i)[t]? = some (.int .i64 X)
/-- A list of lists that grows by append: its blocks lie from lo to hi. -/
def OutV (w : World) (lo hi : Nat) (v : Value) (k : Nat) (row : Nat → List Int) : Prop := ∃ gs caps os, OutVB w lo hi v k row gs caps os
section
variable {w w' : World} {lo hi k : Nat} {v : Value} {row : Nat → List Int}
theorem OutV.hiLe (h : OutV w lo hi v k row) : hi ≤ w.heap.size := by
  obtain ⟨_, _, _, h⟩ := h
  exact h.hi9
theorem OutV.grown {r : Option Nat} (h : OutV w lo hi v k row) (hg : w.grownBy w' r) (hr : ∀ g, r = some g → hi ≤ g) (hs : w.heap.size ≤ w'.heap.size) : OutV w' lo hi v k row := by
  obtain ⟨gs, caps, os, h⟩ := h
  refine ⟨gs, caps, os, World.ownsRow.kept h.own hg ?_, Nat.le_trans h.hi9 hs, h.top, fun i hi' => ⟨(h.rowA i hi').1.grown hg (fun e => ?_), (h.rowA i hi').2⟩, h.nums⟩
  · rcases hv : v.ownBlock with _ | g
    · exact .inl rfl
    · refine .inr (fun e => ?_)
      have h1 := h.top g hv
      have h2 := hr g e.symm
      omega
  · have h1 := (h.rowA i hi').2.2
    have h2 := hr _ e.symm
    omega
theorem OutV.below (h : OutV w lo hi v k row) (hb : Below w.heap.size w w') : OutV w' lo hi v k row :=
  h.grown (r := none) ⟨hb.os, hb.tape, hb.output, hb.size, fun k hk _ => hb.block k hk⟩ (fun g e => by cases e) hb.size
theorem OutV.drew (h : OutV w lo hi v k row) : OutV w.drew lo hi v k row := h.below (Below.refl _ _).drew
theorem OutV.raise (h : OutV w lo hi v k row) : OutV w lo w.heap.size v k row := by
  obtain ⟨gs, caps, os, h⟩ := h
  exact ⟨gs, caps, os, h.own, Nat.le_refl _, fun g e => Nat.lt_of_lt_of_le (h.top g e) h.hi9, fun i hi' => ⟨(h.rowA i hi').1, (h.rowA i hi').2.1, Nat.lt_of_lt_of_le (h.rowA i hi').2.2 h.hi9⟩, h.nums⟩
theorem OutV.away_new (h : OutV w lo hi v k row) : some w.heap.size ≠ v.ownBlock := fun e => by
  obtain ⟨_, _, _, h⟩ := h
  have h1 := h.top _ e.symm
  have h2 := h.hi9
  omega
theorem OutV.off {g : Nat} {cs : Array Value} {t : TypeId} (h : OutV w lo hi v k row) (hA : At w g (.cells cs t (0, 0))) (ht : t ≠ 49) : some g ≠ v.ownBlock := by
  obtain ⟨_, _, _, h⟩ := h
  exact h.own.off hA ht
theorem OutV.belowG {w0 : World} (ho : OutV w lo hi v k row) (h : Below w0.heap.size w0 w) (hb : w.grownBy w' v.ownBlock) (hl : w0.heap.size ≤ lo) : Below w0.heap.size w0 w' := by
  obtain ⟨_, _, _, ho⟩ := ho
  exact below_grownS h hb ho.own hl
theorem OutV.nil {b : Nat} (h : At w b (.cells #[] 49 (0, 0))) (hl : lo ≤ b) (row : Nat → List Int) : OutV w lo w.heap.size (.slice (some ⟨b, 0, none⟩) 0 0) 0 row := by
  refine ⟨fun _ => 0, fun _ => 0, fun _ => #[], ⟨by simp [rowV], .inr ⟨b, 0, #[], rfl, hl, h, by simp [rowV], by simp, by simp, by simp [rowV]⟩⟩, Nat.le_refl _, fun g e => ?_, fun i hi => by omega, fun i hi => by omega⟩
  simp only [Value.ownBlock, Option.some.injEq] at e
  rw [← e]
  exact h.lt
theorem OutV.ownV (h : OutV w lo hi v k row) : OwnV w lo w.heap.size v k row := by
  obtain ⟨gs, caps, os, h⟩ := h
  have hlen : (rowV gs caps row k).length = k := by simp [rowV]
  rcases h.own.2 with ⟨rfl, h0⟩ | ⟨g, cap, cur, rfl, hlo, hgg, hle, hcap, hsz, ht⟩
  · exact .inl ⟨rfl, by omega⟩
  · rw [hlen]
    refine .inr ⟨g, cap, cur, gs, caps, os, rfl, hgg, ⟨hlo, (Array.getElem?_eq_some_iff.1 hgg).1⟩, fun i hi' => ?_, fun i hi' => ⟨(h.rowA i hi').1, (h.rowA i hi').2.1, (h.rowA i hi').1.lt⟩, h.nums⟩
    have h1 : (rowV gs caps row k)[i]? = some (.slice (some ⟨gs i, 0, none⟩) (row i).length (caps i)) := by simp [rowV, hi']
    rw [← ht, List.getElem?_take] at h1
    split at h1
    · rwa [Array.getElem?_toList] at h1
    · cases h1
end
theorem wp_appV {o : Oper} {a : Act} {w : World} {K : Act → World → Prop} {Q : Exit → Act → World → Prop} (d : Option Tmp) (hd : o.dst = d) (s x : Operand) (ho : o.op = .call { callee := .builtin .append, args := #[s, x], argTypes := #[26, 26] })
    {lo hi : Nat} (v : Value) (k : Nat) (row : Nat → List Int) (hs : a.eval s = v) (h0 : OutV w lo hi v k row) (g9 c9 n : Nat) (D9 : Array Value) (h9 : At w g9 (.cells D9 2 (0, 0))) (hl9 : lo ≤ g9) (hn : (row k).length = n) (hD : ∀ (t : Nat) (X : Int), (row k)[t]? = some X → D9[t]? = some (.int .i64 X))
    (g : Nat) (hx : a.eval x = .slice (some ⟨g, 0, none⟩) 1 1) (hg : At w g (.cells #[.slice (some ⟨g9, 0, none⟩) n c9] 49 (0, 0))) (hle : k ≤ 1000000) (hlo : lo ≤ w.heap.size)
    (h : ∀ v' w', OutV w' lo w'.heap.size v' (k + 1) row → w.grownBy w' v.ownBlock → K (a.put d v') w') : Oper.wp Try.prog o a w K Q := by
  obtain ⟨gs, caps, os, h0⟩ := h0
  refine wp_appS d hd s x ho v _ hs h0.own (.slice (some ⟨g9, 0, none⟩) n c9) rfl g hx hg (by simp [rowV]; omega) hlo (fun v' w' h1 h2 => h v' w' ?_ h2)
  refine ⟨fun i => if i = k then g9 else gs i, fun i => if i = k then c9 else caps i, fun i => if i = k then D9 else os i, ?_, Nat.le_refl _, fun g e => (h1.lt e).2, fun i hi' => ?_, fun i hi' t X hX => ?_⟩
  · have e : rowV (fun i => if i = k then g9 else gs i) (fun i => if i = k then c9 else caps i) row (k + 1) = rowV gs caps row k ++ [.slice (some ⟨g9, 0, none⟩) n c9] := by
      unfold rowV
      rw [List.range_succ, List.map_append]
      congr 1
      · refine List.map_congr_left (fun i hi' => ?_)
        have h3 := List.mem_range.1 hi'
        simp only [if_neg (show i ≠ k by omega)]
      · simp [hn]
    rw [e]
    exact h1
  · by_cases e : i = k
    · subst e
      have h3 := h9.grown h2 (h0.own.off h9 (by decide))
      simp only [if_true]
      exact ⟨h3, hl9, h3.lt⟩
    · have h4 := h0.rowA i (by omega)
      have h3 := h4.1.grown h2 (h0.own.off h4.1 (by decide))
      simp only [if_neg e]
      exact ⟨h3, h4.2.1, h3.lt⟩
  · by_cases e : i = k
    · subst e
      simp only [if_true]
      exact hD t X hX
    · simp only [if_neg e]
      exact h0.nums i (by omega) t X hX
theorem wp_appI1 {o : Oper} {a : Act} {w : World} {K : Act → World → Prop} {Q : Exit → Act → World → Prop} (d : Option Tmp) (hd : o.dst = d) (s x : Operand) (ho : o.op = .call { callee := .builtin .append, args := #[s, x], argTypes := #[49, 49] })
    {lo : Nat} (v : Value) (xs : List Int) (y : Int) (hs : a.eval s = v) (hown : OwnI w lo v xs) (g : Nat) (hx : a.eval x = .slice (some ⟨g, 0, none⟩) 1 1) (hg : At w g (.cells #[.int .i64 y] 2 (0, 0))) (hle : xs.length ≤ 1000000) (hlo : lo ≤ w.heap.size)
    (h : ∀ v' w', OwnI w' lo v' (xs ++ [y]) → w.grownBy w' v.ownBlock → K (a.put d v') w') : Oper.wp Try.prog o a w K Q := by
  obtain ⟨i0, hi, hz0, hz1, hz2⟩ := info_parts infoI64
  refine wp_append' d hd s x 49 ho lo 2 i0 (.int .i64 0) 1 8 Try.underlying49 hi hz0 hz1 hz2 rfl (by decide) v _ _ hs hown ⟨g, 0, none⟩ 1 1 (i64s [y]) hx (by simp [i64s]) ?_ (i64s_ones _) (by unfold maxLen; omega) (by omega) hlo ?_
  · intro j u hu
    obtain ⟨X, hX, rfl⟩ := i64s_get hu
    have hj : j = 0 := by
      have := (List.getElem?_eq_some_iff.1 hX).1
      simp at this
      omega
    subst hj
    simp only [List.getElem?_cons_zero, Option.some.injEq] at hX
    subst hX
    exact hg.at_ 0
  · intro v1 w8 own8 gr8 _
    refine h v1 w8 ?_ gr8
    unfold OwnI
    rw [show i64s (xs ++ [y]) = i64s xs ++ i64s [y] by simp [i64s], List.length_append]
    exact own8
theorem slR_step {xs YS : List Int} {T b d j t : Nat} {X : Int} (hYS : (xs.drop (T * (b * d))).take (b * d) = YS) (hYL : YS.length = b * d) (hj : j < b) (ht : t < d) (hX : nthI xs ((((T : Nat) : Int) * b + (j : Nat)) * d + (t : Nat)) = X) :
    (slR d YS j).take t ++ [X] = (slR d YS j).take (t + 1) := by
  have hl := slR_len hYL hj
  have h1 : (slR d YS j)[t]? = some X := by
    have h2 : (slR d YS j)[t]? = xs[(T * b + j) * d + t]? := by
      subst hYS
      have h3 : j * d + t < b * d := by
        have h5 : (j + 1) * d ≤ b * d := Nat.mul_le_mul_right _ hj
        rw [Nat.succ_mul] at h5
        omega
      simp only [slR, List.getElem?_take, List.getElem?_drop]
      rw [if_pos ht, if_pos h3]
      congr 1
      rw [Nat.add_mul, Nat.mul_assoc, Nat.add_assoc]
    have h4 : t < (slR d YS j).length := by omega
    rw [List.getElem?_eq_getElem h4] at h2 ⊢
    unfold nthI at hX
    rw [show ((((T : Nat) : Int) * b + (j : Nat)) * d + (t : Nat)).toNat = (T * b + j) * d + t by
      rw [← Int.natCast_mul, ← Int.natCast_add, ← Int.natCast_mul, ← Int.natCast_add, Int.toNat_natCast], ← h2] at hX
    simpa using hX
  rw [List.take_add_one, h1]
  rfl
end Go.Proofs.Ytebmkmkhfhmfbaa
