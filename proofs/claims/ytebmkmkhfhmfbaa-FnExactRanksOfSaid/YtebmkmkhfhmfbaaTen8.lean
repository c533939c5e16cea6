/-
  impl.turned, impl.TurnTensor.
-/
import Derived.Test.YtebmkmkhfhmfbaaTen7Turn
namespace Go.Proofs.Ytebmkmkhfhmfbaa
open Go.RowKit
set_option maxRecDepth 100000
/-- The number at three places. -/
def at3 (n1 n2 : Nat) (xs : List Int) (i j k : Nat) : Int := nthI xs (((i * n1 + j) * n2 + k : Nat) : Int)
theorem numsB_nth {p : Int} {xs : List Int} (h : numsB p xs = true) (hp : 0 < p) (t : Int) : 0 ≤ nthI xs t ∧ nthI xs t < p := by
  unfold nthI
  by_cases hlt : t.toNat < xs.length
  · have h1 : inB xs[t.toNat] p = true := by
      unfold numsB at h
      rw [List.all_eq_true] at h
      exact h _ (List.getElem_mem hlt)
    rw [List.getElem?_eq_getElem hlt, Option.getD_some]
    exact inB_iff.1 h1
  · rw [List.getElem?_eq_none (by omega), Option.getD_none]
    exact ⟨Int.le_refl _, hp⟩
def turnL (p : Int) (n0 n1 n2 : Nat) (xs : List Int) : List Int := genL n2 n0 p (fun j k i => at3 n1 n2 xs i j k) (n1 * n2 * n0)
theorem turnL_len (p : Int) (n0 n1 n2 : Nat) (xs : List Int) : (turnL p n0 n1 n2 xs).length = n1 * n2 * n0 := genL_len _ _ _ _ _
theorem tenB_n3 {p : Int} {n0 n1 n2 : Nat} {xs : List Int} (h : tenB p n0 n1 n2 xs = true) : 2 ≤ p ∧ p ≤ 5 ∧ (1 ≤ n0 ∧ n0 ≤ 9) ∧ (1 ≤ n1 ∧ n1 ≤ 9) ∧ (1 ≤ n2 ∧ n2 ≤ 9) ∧ xs.length = n0 * n1 * n2 ∧ numsB p xs = true := by
  obtain ⟨h1, h2, h3, h4, h5, h6⟩ := tenB_parts h
  have a := prime_le5 h1
  have b := sideB_in h2
  have c := sideB_in h3
  have d := sideB_in h4
  refine ⟨a.1, a.2, by omega, by omega, by omega, ?_, h6⟩
  rw [← Int.natCast_mul, ← Int.natCast_mul] at h5
  omega
theorem side_of {n : Nat} (h : 1 ≤ n ∧ n ≤ 9) : sideB n = true := by
  simp only [sideB, Bool.and_eq_true, decide_eq_true_eq]
  omega
end Go.Proofs.Ytebmkmkhfhmfbaa
