/-
  The first number of a form, inverses modulo a prime: plain functions; spec.l03Lead, l01Inverse.
-/
import Derived.Test.YtebmkmkhfhmfbaaAdF
import Derived.Test.YtebmkmkhfhmfbaaHeld
import Derived.Test.YtebmkmkhfhmfbaaImplIs
namespace Go.Proofs.Ytebmkmkhfhmfbaa
open Go.RowKit
set_option maxRecDepth 100000
def leadAt (f : List Nat) : Nat → Nat → Nat
  | _, 0 => 0
  | k, n + 1 => if f[k]?.getD 0 = 0 then leadAt f (k + 1) n else f[k]?.getD 0
def lead (f : List Nat) : Nat := leadAt f 0 9
theorem leadAt_lt {f : List Nat} (hf : Bytes 9 f) : ∀ n k, leadAt f k n < 256
  | 0, _ => by simp [leadAt]
  | n + 1, k => by
    simp only [leadAt]
    split
    · exact leadAt_lt hf n (k + 1)
    · exact hf.lt k
theorem lead_lt {f : List Nat} (hf : Bytes 9 f) : lead f < 256 := leadAt_lt hf 9 0
theorem primeB_5 {p : Int} (hp : primeB p = true) : 0 < p ∧ p ≤ 5 := by
  simp only [primeB, Bool.or_eq_true, beq_iff_eq] at hp
  omega
/-- The inverse modulo 2, 3 or 5. -/
def inv (p a : Int) : Int := if p = 5 then a * a * a % 5 else if p = 3 then a else 1
theorem inv_cases {p a : Int} (hp : primeB p = true) (ha : 1 ≤ a) (hap : a < p) :
    (p = 2 ∧ a = 1 ∧ inv p a = 1) ∨ (p = 3 ∧ a = 1 ∧ inv p a = 1) ∨ (p = 3 ∧ a = 2 ∧ inv p a = 2) ∨ (p = 5 ∧ a = 1 ∧ inv p a = 1) ∨ (p = 5 ∧ a = 2 ∧ inv p a = 3) ∨ (p = 5 ∧ a = 3 ∧ inv p a = 2) ∨ (p = 5 ∧ a = 4 ∧ inv p a = 4) := by
  simp only [primeB, Bool.or_eq_true, beq_iff_eq] at hp
  rcases hp with (rfl | rfl) | rfl
  · obtain rfl : a = 1 := by omega
    decide
  · rcases (show a = 1 ∨ a = 2 by omega) with rfl | rfl <;> decide
  · rcases (show a = 1 ∨ a = 2 ∨ a = 3 ∨ a = 4 by omega) with rfl | rfl | rfl | rfl <;> decide
theorem inv_range {p a : Int} (hp : primeB p = true) (ha : 1 ≤ a) (hap : a < p) : 1 ≤ inv p a ∧ inv p a < p := by
  rcases inv_cases hp ha hap with ⟨h1, h2, h3⟩ | ⟨h1, h2, h3⟩ | ⟨h1, h2, h3⟩ | ⟨h1, h2, h3⟩ | ⟨h1, h2, h3⟩ | ⟨h1, h2, h3⟩ | ⟨h1, h2, h3⟩ <;> omega
/-- Which number the search comes to. -/
theorem inv_test {p a k : Int} (hp : primeB p = true) (ha : 1 ≤ a) (hap : a < p) (hk : 1 ≤ k) (hki : k ≤ inv p a) : (k * a % p == 1) = decide (k = inv p a) := by
  rcases inv_cases hp ha hap with ⟨rfl, rfl, h3⟩ | ⟨rfl, rfl, h3⟩ | ⟨rfl, rfl, h3⟩ | ⟨rfl, rfl, h3⟩ | ⟨rfl, rfl, h3⟩ | ⟨rfl, rfl, h3⟩ | ⟨rfl, rfl, h3⟩ <;> rw [h3] at hki ⊢
  · obtain rfl : k = 1 := by omega
    decide
  · obtain rfl : k = 1 := by omega
    decide
  · rcases (show k = 1 ∨ k = 2 by omega) with rfl | rfl <;> decide
  · obtain rfl : k = 1 := by omega
    decide
  · rcases (show k = 1 ∨ k = 2 ∨ k = 3 by omega) with rfl | rfl | rfl <;> decide
  · rcases (show k = 1 ∨ k = 2 by omega) with rfl | rfl <;> decide
  · rcases (show k = 1 ∨ k = 2 ∨ k = 3 ∨ k = 4 by omega) with rfl | rfl | rfl | rfl <;> decide
set_option maxHeartbeats 800000 in
theorem l01Inverse_c (p a : Int) (w : World) (hp : primeB p = true) (ha : 1 ≤ a) (hap : a < p) :
    Calls Try.prog 45 #[.int .i64 p, .int .i64 a] w fun e w' => e = .returned (.int .i64 (inv p a)) ∧ w = w' := by
  have hpp := primeB_5 hp
  have hr := inv_range hp ha hap
  have Hm := Lib.hid (l01Mod_c p a w hpp.1 hpp.2)
  have Ha := Lib.hid (Int.emod_eq_of_lt (show 0 ≤ a by omega) hap)
  have Ht := Lib.hid (fun k => inv_test (k := k) hp ha hap)
  generalize inv p a = v at *
  go_enter Try.func45, Try.ntmps45
  go_wp2_with fail
  go_loop [5] (fun i => ∃ k : Int, 1 ≤ k ∧ k ≤ v ∧ i = .int .i64 k) (fun i => (10 - intOf i).toNat)
  case atStart => exact ⟨1, by omega, by omega, rfl⟩
  case round =>
    obtain ⟨k, hk1, hkv, rfl⟩ := hrel
    have hlt : k < p := by omega
    have e0 : IntKind.i64.wrap (k + 1) = k + 1 := IntWalk.i64_in _ (by omega)
    have m0 : 0 ≤ k * a := Int.mul_nonneg (by omega) (by omega)
    have m1 : k * a ≤ 25 := by
      have h1 : k * a ≤ 5 * a := Int.mul_le_mul_of_nonneg_right (by omega) (by omega)
      omega
    have e1 : IntKind.i64.wrap (k * a) = k * a := IntWalk.i64_in _ (by omega)
    have e2 : (p == 0) = false := by simp; omega
    have e3 : (k * a).tmod p = k * a % p := Int.tmod_eq_emod_of_nonneg m0
    have ht := Ht.out k hk1 hkv
    by_cases hv : k = v
    · have ht' : (k * a % p == 1) = true := by rw [ht, decide_eq_true hv]
      have Hv := Lib.hid hv
      clear ht hv
      go_wp2_with fail
      refine Hm.out.mono ?_
      rintro e w' ⟨rfl, rfl⟩
      rw [Ha.out]
      go_wp2_with fail
      go_ret
      exact ⟨ret_i64 Hv.out, rfl⟩
    · have ht' : (k * a % p == 1) = false := by rw [ht, decide_eq_false hv]
      clear ht
      go_wp2_with fail
      refine Hm.out.mono ?_
      rintro e w' ⟨rfl, rfl⟩
      rw [Ha.out]
      go_wp2_with fail
      exact ⟨⟨k + 1, by omega, by omega, rfl⟩, by simp [intOf]; omega⟩
end Go.Proofs.Ytebmkmkhfhmfbaa
