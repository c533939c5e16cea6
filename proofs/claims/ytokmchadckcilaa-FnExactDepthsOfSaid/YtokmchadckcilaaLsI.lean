/-
  Lists of int64: slices.Min, slices.Index; appending one number, as one operation; the least of a list and its place.
-/
import Derived.Test.YtokmchadckcilaaCd
import Derived.Test.YtokmchadckcilaaSx
namespace Go.Proofs.Ytokmchadckcilaa
open Go.RowKit
set_option maxRecDepth 100000
def getI (xs : List Int) (k : Nat) : Int := xs[k]?.getD 0
/-- The least of f 0 .. f k, and the first place where it stands. -/
def mnF (f : Nat → Int) : Nat → Int
  | 0 => f 0
  | k + 1 => if f (k + 1) < mnF f k then f (k + 1) else mnF f k
def ixF (f : Nat → Int) : Nat → Nat
  | 0 => 0
  | k + 1 => if f (k + 1) < mnF f k then k + 1 else ixF f k
theorem mnF_le (f : Nat → Int) (k : Nat) : ∀ j, j ≤ k → mnF f k ≤ f j := by
  induction k with
  | zero => intro j hj; rw [show j = 0 by omega]; exact Int.le_refl _
  | succ k ih =>
    intro j hj
    simp only [mnF]
    by_cases e : j = k + 1
    · subst e; split <;> omega
    · have := ih j (by omega)
      split <;> omega
theorem ixF_le (f : Nat → Int) (k : Nat) : ixF f k ≤ k := by
  induction k with
  | zero => exact Nat.le_refl _
  | succ k ih => simp only [ixF]; split <;> omega
theorem ixF_at (f : Nat → Int) (k : Nat) : f (ixF f k) = mnF f k := by
  induction k with
  | zero => rfl
  | succ k ih => simp only [ixF, mnF]; split <;> first | rfl | exact ih
theorem ixF_first (f : Nat → Int) (k : Nat) : ∀ j, j < ixF f k → mnF f k < f j := by
  induction k with
  | zero => intro j hj; simp only [ixF] at hj; omega
  | succ k ih =>
    intro j hj
    simp only [ixF, mnF] at hj ⊢
    split at hj
    · rename_i h
      rw [if_pos h]
      have := mnF_le f k j (by omega)
      omega
    · rename_i h
      rw [if_neg h]
      exact ih j hj
theorem mnF_congr {f g : Nat → Int} {k : Nat} (h : ∀ j, j ≤ k → f j = g j) : mnF f k = mnF g k := by
  induction k with
  | zero => exact h 0 (by omega)
  | succ k ih => simp only [mnF]; rw [ih (fun j hj => h j (by omega)), h (k + 1) (by omega)]
theorem OwnI.away_new {w : World} {lo : Nat} {v : Value} {xs : List Int} (h : OwnI w lo v xs) : some w.heap.size ≠ v.ownBlock := fun e => by
  have := (h.lt e.symm).2
  omega
theorem OwnI.ne_lt2 {w : World} {lo g : Nat} {v : Value} {xs : List Int} (h : OwnI w lo v xs) (hg : g < lo) : some g ≠ v.ownBlock := fun e => by
  have := (h.lt e.symm).1
  omega
theorem RdI.c1 {w : World} {b off : Nat} {xs : List Int} (h : RdI w (some ⟨b, off, none⟩) xs) {i : Nat} (hi : i < xs.length) : w.cell? ⟨b, off + i, none⟩ = some (.int .i64 (getI xs i)) := by
  obtain ⟨b', off', e, hc⟩ := h.at_ hi
  simp only [Option.some.injEq, Addr.mk.injEq] at e
  obtain ⟨rfl, rfl, _⟩ := e
  rw [hc]
  simp [getI, hi]
theorem i64s_ones2 (xs : List Int) : ∀ v ∈ i64s xs, v.oneCell' = true := by
  intro v hv
  obtain ⟨x, _, rfl⟩ := List.mem_map.1 hv
  rfl
theorem wp_appI {o : Oper} {a : Act} {w : World} {K : Act → World → Prop} {Q : Exit → Act → World → Prop} (d : Option Tmp) (hd : o.dst = d) (s x : Operand) (ho : o.op = .call { callee := .builtin .append, args := #[s, x], argTypes := #[46, 46] })
    {lo : Nat} (v : Value) (xs : List Int) (y : Int) (hs : a.eval s = v) (hown : OwnI w lo v xs) (g : Nat) (hx : a.eval x = .slice (some ⟨g, 0, none⟩) 1 1) (hg : At w g (.cells #[.int .i64 y] 2 (0, 0))) (hle : xs.length ≤ 1000000) (hlo : lo ≤ w.heap.size)
    (h : ∀ v' w', OwnI w' lo v' (xs ++ [y]) → w.grownBy w' v.ownBlock → K (a.put d v') w') : Oper.wp Try.prog o a w K Q := by
  obtain ⟨i0, hi, hz0, hz1, hz2⟩ := info_parts infoI64
  refine wp_append' d hd s x 46 ho lo 2 i0 (.int .i64 0) 1 8 Try.underlying46 hi hz0 hz1 hz2 rfl (by decide) v _ _ hs hown ⟨g, 0, none⟩ 1 1 (i64s [y]) hx (by simp [i64s]) ?_ (i64s_ones2 _) (by unfold maxLen; omega) (by omega) hlo ?_
  · intro j u hu
    have hj : j = 0 := by
      rcases Nat.eq_zero_or_pos j with h0 | h0
      · exact h0
      · rw [List.getElem?_eq_none (by simp [i64s]; omega)] at hu
        cases hu
    subst hj
    have h1 : u = .int .i64 y := by simpa [i64s] using hu.symm
    subst h1
    exact hg.at_ 0
  · intro v1 w8 own8 gr8 _
    refine h v1 w8 ?_ gr8
    unfold OwnI
    rw [show i64s (xs ++ [y]) = i64s xs ++ i64s [y] by simp [i64s], List.length_append]
    exact own8
end Go.Proofs.Ytokmchadckcilaa
