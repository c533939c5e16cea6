/-
  IsExponentAtMost and GreaterSize of both sides. (Made by mkcs2.py.)
-/
import Derived.Test.YtbpapkpdlplfcaaCs1
namespace Go.Proofs.Ytbpapkpdlplfcaa
open Go.RowKit
set_option maxRecDepth 100000
attribute [local irreducible] wpList
def eaB (i j : Int) (qs : List (List Nat)) : Bool := (decide (0 ≤ i) && decide (i ≤ 24)) && (decide (1 ≤ j) && decide (j ≤ 8)) && decide (0 < qs.length)
def eaCode (p n m k : Int) (qs : List (List Nat)) (i j : Int) : Int := sqCode p n m k qs (eaB i j qs)
def eaR (p n m k : Int) (qs : List (List Nat)) (i j : Int) : Bool := if eaCode p n m k qs i j = 0 then decide (powI qs.length j.toNat ≤ powI n i.toNat) else false
theorem sqCode_ne (p n m k : Int) (qs : List (List Nat)) : sqCode p n m k qs false ≠ 0 := by
  unfold sqCode
  split <;> simp
theorem sqCode_no {p n m k : Int} {qs : List (List Nat)} (h : sqCode p n m k qs true ≠ 0) (b : Bool) : sqCode p n m k qs b = sqCode p n m k qs true := by
  unfold sqCode at h ⊢
  split
  · rename_i hs
    rw [if_pos hs] at h
    cases hq : sqB n m k
    · simp
    · rw [hq] at h; simp at h
  · rfl
theorem sq_facts {p n m k : Int} {qs : List (List Nat)} {b : Bool} (h : sqCode p n m k qs b = 0) : schemeB p n m k qs = true ∧ 2 ≤ n ∧ n ≤ 3 ∧ m = n ∧ k = n ∧ b = true := by
  unfold sqCode at h
  split at h
  · rename_i hs
    split at h
    · rename_i hq
      simp only [sqB, Bool.and_eq_true, decide_eq_true_eq, beq_iff_eq] at hq
      have hn := (sizesB_parts (schemeB_sizes hs)).2.1
      simp only [sizeB, Bool.and_eq_true, decide_eq_true_eq] at hn
      exact ⟨hs, hq.1.1, hn.2, hq.1.2.1, hq.1.2.2, hq.2⟩
    · exact absurd h (by decide)
  · exact absurd h (by decide)
/-- The least l from a on, of f numbers, for which n^l is at least s. -/
def gsF (n s : Int) : Nat → Nat → Option Nat
  | 0, _ => none
  | f + 1, a => if s ≤ powI n a then some a else gsF n s f (a + 1)
def gsCode (p n m k : Int) (qs : List (List Nat)) (s : Int) : Int := if sqCode p n m k qs (decide (1 ≤ s) && decide (s ≤ 1000000)) = 0 then (if (gsF n s 9 0).isSome then 0 else 4) else sqCode p n m k qs (decide (1 ≤ s) && decide (s ≤ 1000000))
def gsR (p n m k : Int) (qs : List (List Nat)) (s : Int) : Int := if sqCode p n m k qs (decide (1 ≤ s) && decide (s ≤ 1000000)) = 0 then (match gsF n s 9 0 with | some l => powI n l | none => 0) else 0
theorem gsF_step {n s : Int} {a : Nat} (h : a < 9) : gsF n s (9 - a) a = if s ≤ powI n a then some a else gsF n s (9 - (a + 1)) (a + 1) := by
  rw [show 9 - a = (9 - (a + 1)) + 1 by omega]
  rfl
theorem gs_found {p n m k s : Int} {qs : List (List Nat)} {a : Nat} (h0 : sqCode p n m k qs (decide (1 ≤ s) && decide (s ≤ 1000000)) = 0) (ha : a < 9) (hg : gsF n s (9 - a) a = gsF n s 9 0) (hle : s ≤ powI n a) : gsCode p n m k qs s = 0 ∧ gsR p n m k qs s = powI n a := by
  rw [gsF_step ha, if_pos hle] at hg
  unfold gsCode gsR
  rw [if_pos h0, if_pos h0, ← hg]
  exact ⟨rfl, rfl⟩
theorem gs_next {n s : Int} {a : Nat} (ha : a < 9) (hg : gsF n s (9 - a) a = gsF n s 9 0) (hle : ¬ s ≤ powI n a) : gsF n s (9 - (a + 1)) (a + 1) = gsF n s 9 0 := by
  rw [gsF_step ha, if_neg hle] at hg
  exact hg
theorem gs_none {p n m k s : Int} {qs : List (List Nat)} {a : Nat} (h0 : sqCode p n m k qs (decide (1 ≤ s) && decide (s ≤ 1000000)) = 0) (hg : gsF n s (9 - a) a = gsF n s 9 0) (ha : ¬ a < 9) : gsCode p n m k qs s = 4 ∧ gsR p n m k qs s = 0 := by
  rw [show 9 - a = 0 by omega] at hg
  have hg2 : none = gsF n s 9 0 := hg
  unfold gsCode gsR
  rw [if_pos h0, if_pos h0, ← hg2]
  exact ⟨rfl, rfl⟩
end Go.Proofs.Ytbpapkpdlplfcaa
