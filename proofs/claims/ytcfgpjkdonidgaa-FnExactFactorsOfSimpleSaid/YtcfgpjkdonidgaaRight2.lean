/-
  spec.l01Places, spec.RightSide; impl.isEquation, sideAt (of rightSides), RightSide.
-/
import Derived.Test.YtcfgpjkdonidgaaRight1
namespace Go.Proofs.Ytcfgpjkdonidgaa
open Go.RowKit
set_option maxRecDepth 100000
def eqnB (n m k a b c : Int) : Bool := inB a (n * m) && inB b (m * k) && inB c (n * k)
def codeI (p n m k : Int) (qs : List (List Nat)) (a b c : Int) : Int := if schemeB p n m k qs then (if eqnB n m k a b c then 0 else 2) else 1
theorem inB_le (a N : Int) : (decide (0 ≤ a) && decide (a ≤ N - 1)) = inB a N := by
  unfold inB
  congr 1
  simp only [decide_eq_decide]
  omega
theorem l01In_ix (a N : Int) (w : World) : Calls Try.prog 26 #[.int .i64 a, .int .i64 0, .int .i64 (N - 1)] w fun e w' => e = .returned (.bool (inB a N)) ∧ w = w' := by
  have := l01In_c a 0 (N - 1) w
  rw [inB_le] at this
  exact this
theorem sizesB_mul {p n m k : Int} (h : sizesB p n m k = true) : (1 ≤ n * m ∧ n * m ≤ 9) ∧ (1 ≤ m * k ∧ m * k ≤ 9) ∧ 1 ≤ n * k ∧ n * k ≤ 9 := by
  obtain ⟨_, hn, hm, hk⟩ := sizesB_parts h
  simp only [sizeB, Bool.and_eq_true, decide_eq_true_eq] at hn hm hk
  exact ⟨mul_bounds hn.1 hn.2 hm.1 hm.2, mul_bounds hm.1 hm.2 hk.1 hk.2, mul_bounds hn.1 hn.2 hk.1 hk.2⟩
theorem codeI_cases (p n m k : Int) (qs : List (List Nat)) (a b c : Int) : codeI p n m k qs a b c = 1 ∨ codeI p n m k qs a b c = 2 ∨ (codeI p n m k qs a b c = 0 ∧ schemeB p n m k qs = true ∧ eqnB n m k a b c = true) := by
  unfold codeI
  cases schemeB p n m k qs <;> cases eqnB n m k a b c <;> simp
theorem sizes_bounds {p n m k : Int} (h : sizesB p n m k = true) : (1 ≤ n ∧ n ≤ 3) ∧ (1 ≤ m ∧ m ≤ 3) ∧ 1 ≤ k ∧ k ≤ 3 := by
  obtain ⟨_, hn, hm, hk⟩ := sizesB_parts h
  simp only [sizeB, Bool.and_eq_true, decide_eq_true_eq] at hn hm hk
  exact ⟨hn, hm, hk⟩
theorem eqnB_bounds {n m k a b c : Int} (h : eqnB n m k a b c = true) : (0 ≤ a ∧ a < n * m) ∧ (0 ≤ b ∧ b < m * k) ∧ 0 ≤ c ∧ c < n * k := by
  simp only [eqnB, inB, Bool.and_eq_true, decide_eq_true_eq] at h
  exact ⟨h.1.1, h.1.2, h.2⟩
def sideI (want : Int) (code : Int) : Int := if code = 0 then want else 0
end Go.Proofs.Ytcfgpjkdonidgaa
