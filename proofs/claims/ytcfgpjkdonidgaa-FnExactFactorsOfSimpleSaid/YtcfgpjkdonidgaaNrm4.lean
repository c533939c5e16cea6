/-
  impl.addedForm, multipliedBy, subtractedForm, firstNumber, inverseOf.
-/
import Derived.Test.YtcfgpjkdonidgaaNrm0
namespace Go.Proofs.Ytcfgpjkdonidgaa
open Go.RowKit
set_option maxRecDepth 100000
theorem lead_at {f : List Nat} : ∀ n k, leadAt f k n ≠ 0 → ∃ i, k ≤ i ∧ i < k + n ∧ (∀ j, k ≤ j → j < i → f[j]?.getD 0 = 0) ∧ f[i]?.getD 0 = leadAt f k n
  | 0, k, h => by simp [leadAt] at h
  | n + 1, k, h => by
    simp only [leadAt] at h ⊢
    split at h
    · rename_i hz
      obtain ⟨i, h1, h2, h3, h4⟩ := lead_at n (k + 1) h
      refine ⟨i, by omega, by omega, fun j hj hji => ?_, by rw [if_pos hz]; exact h4⟩
      by_cases e : j = k
      · subst e; exact hz
      · exact h3 j (by omega) hji
    · rename_i hz
      exact ⟨k, Nat.le_refl _, by omega, fun j h1 h2 => by omega, by rw [if_neg hz]⟩
def powm (p a : Int) : Nat → Int
  | 0 => 1
  | t + 1 => powm p a t * a % p
theorem powm_in {p a : Int} (hp : 1 < p) : ∀ t, 0 ≤ powm p a t ∧ powm p a t < p
  | 0 => ⟨by simp [powm], by simp [powm]; omega⟩
  | t + 1 => ⟨Int.emod_nonneg _ (by omega), Int.emod_lt_of_pos _ (by omega)⟩
theorem powm_inv {p a : Int} (hp : primeB p = true) (ha : 1 ≤ a) (hap : a < p) : powm p a (p - 2).toNat = inv p a := by
  rcases inv_cases hp ha hap with ⟨rfl, rfl, h3⟩ | ⟨rfl, rfl, h3⟩ | ⟨rfl, rfl, h3⟩ | ⟨rfl, rfl, h3⟩ | ⟨rfl, rfl, h3⟩ | ⟨rfl, rfl, h3⟩ | ⟨rfl, rfl, h3⟩ <;> decide
set_option maxHeartbeats 800000 in
theorem inverseOf_c (p a : Int) (w : World) (hp : primeB p = true) (ha : 1 ≤ a) (hap : a < p) :
    Calls Try.prog 36 #[.int .i64 p, .int .i64 a] w fun e w' => e = .returned (.int .i64 (inv p a)) ∧ w = w' := by
  have hpp := primeB_5 hp
  have hp2 : 2 ≤ p := by omega
  rw [← powm_inv hp ha hap]
  have e9 : IntKind.i64.wrap (p - 2) = p - 2 := IntWalk.i64_in _ (by omega)
  have e3 : (p == 0) = false := by simp; omega
  go_enter Try.func36, Try.ntmps36
  go_wp2_with fail
  go_loop [5, 8] (fun v i => ∃ t : Nat, (t : Int) ≤ p - 2 ∧ i = .int .i64 t ∧ v = .int .i64 (powm p a t)) (fun _ i => 10 - (intOf i).toNat)
  case atStart => exact ⟨0, by omega, rfl, rfl⟩
  case round =>
    obtain ⟨t, ht, rfl, rfl⟩ := hrel
    have f0 : IntKind.i64.wrap ((t : Int) + 1) = (t : Int) + 1 := IntWalk.i64_in _ (by omega)
    have hv := powm_in (p := p) (a := a) (by omega) t
    by_cases hlt : (t : Int) < p - 2
    · have HS : Hid (powm p a (t + 1) = powm p a t * a % p) := Lib.hid rfl
      generalize powm p a t = v at *
      have m0 : 0 ≤ v * a := Int.mul_nonneg (by omega) (by omega)
      have m1 : v * a ≤ 25 := by
        have h1 : v * a ≤ 5 * a := Int.mul_le_mul_of_nonneg_right (by omega) (by omega)
        omega
      have e1 : IntKind.i64.wrap (v * a) = v * a := IntWalk.i64_in _ (by omega)
      go_wp2_with fail
      exact ⟨⟨t + 1, by omega, by go_num, by rw [HS.out]⟩, by simp [intOf]; omega⟩
    · have ht' : t = (p - 2).toNat := by omega
      have HT := Lib.hid ht'
      clear ht'
      go_wp2_with fail
      go_ret
      exact ⟨ret_i64 (by rw [HT.out]), rfl⟩
end Go.Proofs.Ytcfgpjkdonidgaa
