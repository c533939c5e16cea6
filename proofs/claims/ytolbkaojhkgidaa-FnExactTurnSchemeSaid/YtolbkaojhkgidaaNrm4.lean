/-
  impl.addedForm, multipliedBy, subtractedForm, firstNumber, inverseOf.
-/
import Derived.Test.YtolbkaojhkgidaaNrm0
namespace Go.Proofs.Ytolbkaojhkgidaa
open Go.RowKit
set_option maxRecDepth 100000
def AddRelI (w : World) (p k : Int) (f g : List Nat) (j : Nat) (wr : World) : Prop :=
  Below w.heap.size w wr ∧ At wr w.heap.size (.cells (u8s (mixF (adF p k f g) f j)) 38 (0, 0)) ∧ At wr (w.heap.size + 1 + 1) (.cells (u8s (List.replicate 9 0)) 38 (0, 0))
theorem lead_at {f : List Nat} : ∀ n k, leadAt f k n ≠ 0 → ∃ i, k ≤ i ∧ i < k + n ∧ (∀ j, k ≤ j → j < i → f[j]?.getD 0 = 0) ∧ f[i]?.getD 0 = leadAt f k n
  | 0, k, h => by simp [leadAt] at h
  | n + 1, k, h => by
    simp only [leadAt] at h ⊢
    split at h
    · rename_i hz
      obtain ⟨i, h1, h2, h3, h4⟩ := lead_at n (k + 1) h
      refine ⟨i, by omega, by omega, fun j hj hji => ?_, by rw [if_pos hz]; exact h4⟩
      by_cases e : j = k
      · subst e; exact hz
      · exact h3 j (by omega) hji
    · rename_i hz
      exact ⟨k, Nat.le_refl _, by omega, fun j h1 h2 => by omega, by rw [if_neg hz]⟩
def powm (p a : Int) : Nat → Int
  | 0 => 1
  | t + 1 => powm p a t * a % p
theorem powm_in {p a : Int} (hp : 1 < p) : ∀ t, 0 ≤ powm p a t ∧ powm p a t < p
  | 0 => ⟨by simp [powm], by simp [powm]; omega⟩
  | t + 1 => ⟨Int.emod_nonneg _ (by omega), Int.emod_lt_of_pos _ (by omega)⟩
theorem powm_inv {p a : Int} (hp : primeB p = true) (ha : 1 ≤ a) (hap : a < p) : powm p a (p - 2).toNat = inv p a := by
  rcases inv_cases hp ha hap with ⟨rfl, rfl, h3⟩ | ⟨rfl, rfl, h3⟩ | ⟨rfl, rfl, h3⟩ | ⟨rfl, rfl, h3⟩ | ⟨rfl, rfl, h3⟩ | ⟨rfl, rfl, h3⟩ | ⟨rfl, rfl, h3⟩ <;> decide
end Go.Proofs.Ytolbkaojhkgidaa
