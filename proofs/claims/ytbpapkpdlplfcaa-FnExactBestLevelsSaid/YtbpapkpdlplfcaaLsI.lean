/-
  Lists of int64: slices.Min, slices.Index; appending one number, as one operation; the least of a list and its place.
-/
import Derived.Test.YtbpapkpdlplfcaaCd
import Derived.Test.YtbpapkpdlplfcaaSx
namespace Go.Proofs.Ytbpapkpdlplfcaa
open Go.RowKit
set_option maxRecDepth 100000
def getI (xs : List Int) (k : Nat) : Int := xs[k]?.getD 0
/-- The least of f 0 .. f k, and the first place where it stands. -/
def mnF (f : Nat → Int) : Nat → Int
  | 0 => f 0
  | k + 1 => if f (k + 1) < mnF f k then f (k + 1) else mnF f k
def ixF (f : Nat → Int) : Nat → Nat
  | 0 => 0
  | k + 1 => if f (k + 1) < mnF f k then k + 1 else ixF f k
theorem mnF_le (f : Nat → Int) (k : Nat) : ∀ j, j ≤ k → mnF f k ≤ f j := by
  induction k with
  | zero => intro j hj; rw [show j = 0 by omega]; exact Int.le_refl _
  | succ k ih =>
    intro j hj
    simp only [mnF]
    by_cases e : j = k + 1
    · subst e; split <;> omega
    · have := ih j (by omega)
      split <;> omega
theorem ixF_le (f : Nat → Int) (k : Nat) : ixF f k ≤ k := by
  induction k with
  | zero => exact Nat.le_refl _
  | succ k ih => simp only [ixF]; split <;> omega
theorem ixF_at (f : Nat → Int) (k : Nat) : f (ixF f k) = mnF f k := by
  induction k with
  | zero => rfl
  | succ k ih => simp only [ixF, mnF]; split <;> first | rfl | exact ih
theorem ixF_first (f : Nat → Int) (k : Nat) : ∀ j, j < ixF f k → mnF f k < f j := by
  induction k with
  | zero => intro j hj; simp only [ixF] at hj; omega
  | succ k ih =>
    intro j hj
    simp only [ixF, mnF] at hj ⊢
    split at hj
    · rename_i h
      rw [if_pos h]
      have := mnF_le f k j (by omega)
      omega
    · rename_i h
      rw [if_neg h]
      exact ih j hj
theorem mnF_congr {f g : Nat → Int} {k : Nat} (h : ∀ j, j ≤ k → f j = g j) : mnF f k = mnF g k := by
  induction k with
  | zero => exact h 0 (by omega)
  | succ k ih => simp only [mnF]; rw [ih (fun j hj => h j (by omega)), h (k + 1) (by omega)]
theorem OwnI.away_new {w : World} {lo : Nat} {v : Value} {xs : List Int} (h : OwnI w lo v xs) : some w.heap.size ≠ v.ownBlock := fun e => by
  have := (h.lt e.symm).2
  omega
theorem OwnI.ne_lt2 {w : World} {lo g : Nat} {v : Value} {xs : List Int} (h : OwnI w lo v xs) (hg : g < lo) : some g ≠ v.ownBlock := fun e => by
  have := (h.lt e.symm).1
  omega
theorem RdI.c1 {w : World} {b off : Nat} {xs : List Int} (h : RdI w (some ⟨b, off, none⟩) xs) {i : Nat} (hi : i < xs.length) : w.cell? ⟨b, off + i, none⟩ = some (.int .i64 (getI xs i)) := by
  obtain ⟨b', off', e, hc⟩ := h.at_ hi
  simp only [Option.some.injEq, Addr.mk.injEq] at e
  obtain ⟨rfl, rfl, _⟩ := e
  rw [hc]
  simp [getI, hi]
theorem i64s_ones2 (xs : List Int) : ∀ v ∈ i64s xs, v.oneCell' = true := by
  intro v hv
  obtain ⟨x, _, rfl⟩ := List.mem_map.1 hv
  rfl
theorem wp_appI {o : Oper} {a : Act} {w : World} {K : Act → World → Prop} {Q : Exit → Act → World → Prop} (d : Option Tmp) (hd : o.dst = d) (s x : Operand) (ho : o.op = .call { callee := .builtin .append, args := #[s, x], argTypes := #[26, 26] })
    {lo : Nat} (v : Value) (xs : List Int) (y : Int) (hs : a.eval s = v) (hown : OwnI w lo v xs) (g : Nat) (hx : a.eval x = .slice (some ⟨g, 0, none⟩) 1 1) (hg : At w g (.cells #[.int .i64 y] 2 (0, 0))) (hle : xs.length ≤ 1000000) (hlo : lo ≤ w.heap.size)
    (h : ∀ v' w', OwnI w' lo v' (xs ++ [y]) → w.grownBy w' v.ownBlock → K (a.put d v') w') : Oper.wp Try.prog o a w K Q := by
  obtain ⟨i0, hi, hz0, hz1, hz2⟩ := info_parts infoI64
  refine wp_append' d hd s x 26 ho lo 2 i0 (.int .i64 0) 1 8 Try.underlying26 hi hz0 hz1 hz2 rfl (by decide) v _ _ hs hown ⟨g, 0, none⟩ 1 1 (i64s [y]) hx (by simp [i64s]) ?_ (i64s_ones2 _) (by unfold maxLen; omega) (by omega) hlo ?_
  · intro j u hu
    have hj : j = 0 := by
      rcases Nat.eq_zero_or_pos j with h0 | h0
      · exact h0
      · rw [List.getElem?_eq_none (by simp [i64s]; omega)] at hu
        cases hu
    subst hj
    have h1 : u = .int .i64 y := by simpa [i64s] using hu.symm
    subst h1
    exact hg.at_ 0
  · intro v1 w8 own8 gr8 _
    refine h v1 w8 ?_ gr8
    unfold OwnI
    rw [show i64s (xs ++ [y]) = i64s xs ++ i64s [y] by simp [i64s], List.length_append]
    exact own8
set_option maxHeartbeats 800000 in
theorem sliceMin_c (b off cap : Nat) (xs : List Int) (w : World) (hr : RdI w (some ⟨b, off, none⟩) xs) (hne : 0 < xs.length) (hn : xs.length ≤ 1000000) :
    Calls Try.prog 67 #[.slice (some ⟨b, off, none⟩) xs.length cap] w fun e w' => e = .returned (.int .i64 (mnF (getI xs) (xs.length - 1))) ∧ w = w' := by
  have HC := Lib.hid (fun i (hi : i < xs.length) => hr.c1 hi)
  have c0 : w.cell? ⟨b, off, none⟩ = some (.int .i64 (getI xs 0)) := HC.out 0 hne
  obtain ⟨N, hN⟩ : ∃ N, N = xs.length := ⟨_, rfl⟩
  rw [← hN] at hne hn ⊢
  have HN := Lib.hid hN
  clear hN hr
  go_enter Try.func67, Try.ntmps67
  go_wp2_with fail
  go_loop [3, 4] (fun m v => ∃ a : Nat, a + 1 ≤ N ∧ v = .int .i64 ((a + 1 : Nat) : Int) ∧ m = .int .i64 (mnF (getI xs) a)) (fun _ v => N - (intOf v).toNat)
  case atStart => exact ⟨0, by omega, rfl, rfl⟩
  case round =>
    obtain ⟨a, ha, rfl, rfl⟩ := hrel
    by_cases hlt : a + 1 < N
    · have c1 : w.cell? ⟨b, off + (a + 1), none⟩ = some (.int .i64 (getI xs (a + 1))) := HC.out (a + 1) (by rw [← HN.out]; exact hlt)
      have e0 : IntKind.i64.wrap (((a + 1 : Nat) : Int) + 1) = ((a + 1 : Nat) : Int) + 1 := IntWalk.i64_in _ (by omega)
      have Hm : Hid (mnF (getI xs) (a + 1) = min (mnF (getI xs) a) (getI xs (a + 1))) := Lib.hid (by simp only [mnF]; rw [Int.min_def]; split <;> split <;> omega)
      go_wp2_with fail
      go_round
      case rel => exact ⟨a + 1, by omega, by go_num, by rw [Hm.out]⟩
      case measure => simp [intOf]; omega
    · have HM : Hid (mnF (getI xs) (N - 1) = mnF (getI xs) a) := Lib.hid (by rw [show N - 1 = a by omega])
      go_wp2_with fail
      go_ret
      exact ⟨by rw [HM.out]; rfl, rfl⟩
set_option maxHeartbeats 800000 in
theorem sliceIndex_c (b off cap : Nat) (xs : List Int) (v : Int) (i : Nat) (w : World) (hr : RdI w (some ⟨b, off, none⟩) xs) (hn : xs.length ≤ 1000000) (hi : i < xs.length) (hv : getI xs i = v) (hno : ∀ j, j < i → getI xs j ≠ v) :
    Calls Try.prog 66 #[.slice (some ⟨b, off, none⟩) xs.length cap, .int .i64 v] w fun e w' => e = .returned (.int .i64 (i : Int)) ∧ w = w' := by
  have HC := Lib.hid (fun i (hi : i < xs.length) => hr.c1 hi)
  obtain ⟨N, hN⟩ : ∃ N, N = xs.length := ⟨_, rfl⟩
  rw [← hN] at hi hn ⊢
  have HN := Lib.hid hN
  have HV := Lib.hid hv
  have HNo := Lib.hid hno
  clear hN hr hv hno
  go_enter Try.func66, Try.ntmps66
  go_wp2_with fail
  go_loop [8] (fun c => ∃ k : Nat, k ≤ i ∧ c = .int .i64 k) (fun c => N - (intOf c).toNat)
  case atStart => exact ⟨0, by omega, rfl⟩
  case round =>
    obtain ⟨k, hk, rfl⟩ := hrel
    have c1 : w.cell? ⟨b, off + k, none⟩ = some (.int .i64 (getI xs k)) := HC.out k (by rw [← HN.out]; omega)
    have hkN : k < N := by omega
    by_cases hlt : k < i
    · have e0 : IntKind.i64.wrap ((k : Int) + 1) = (k : Int) + 1 := IntWalk.i64_in _ (by omega)
      have e1 : (v == getI xs k) = false := by have := HNo.out k hlt; simp; omega
      go_wp2_with fail
      go_round
      case rel => exact ⟨k + 1, by omega, by go_num⟩
      case measure => simp [intOf]; omega
    · have HK : Hid ((k : Int) = (i : Int)) := Lib.hid (by omega)
      have e1 : (v == getI xs k) = true := by rw [show k = i by omega, HV.out]; simp
      go_wp2_with fail
      go_ret
      exact ⟨by rw [← HK.out]; rfl, rfl⟩
end Go.Proofs.Ytbpapkpdlplfcaa
