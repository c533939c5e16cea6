/-
  Square schemes: canRepeat, checkRepeated, l06Square; isBetween; powers; PlainCost of both sides. (Made by mkcs1.py.)
-/
import Derived.Test.YtokmchadckcilaaSx
import Derived.Test.YtokmchadckcilaaImplIs
import Derived.ChangeKeysEq
namespace Go.Proofs.Ytokmchadckcilaa
open Go.RowKit
set_option maxRecDepth 100000
/-- A square scheme's sizes. -/
def sqB (n m k : Int) : Bool := decide (2 ≤ n) && (m == n && k == n)
/-- The error for what has to be a square scheme, beside other arguments that are in their ranges or not. -/
def sqCode (p n m k : Int) (qs : List (List Nat)) (b : Bool) : Int := if schemeB p n m k qs = true then (if (sqB n m k && b) = true then 0 else 2) else 1
theorem isBetween_c (a n b : Int) (w : World) : Calls Try.prog 32 #[.int .i64 a, .int .i64 n, .int .i64 b] w fun e w' => e = .returned (.bool (decide (a ≤ n) && decide (n ≤ b))) ∧ w = w' := by
  by_cases h : a ≤ n
  · have h1 : decide (a ≤ n) = true := by simp [h]
    go_enter Try.func32, Try.ntmps32
    go_wp2_with fail
    go_ret
    exact ⟨by simp [h], rfl⟩
  · have h1 : decide (a ≤ n) = false := by simp [h]
    go_enter Try.func32, Try.ntmps32
    go_wp2_with fail
    go_ret
    exact ⟨by simp, rfl⟩
/-! ### Powers -/
def powI (n : Int) : Nat → Int
  | 0 => 1
  | k + 1 => powI n k * n
theorem powI_pos {n : Int} (h : 1 ≤ n) (k : Nat) : 1 ≤ powI n k := by
  induction k with
  | zero => simp [powI]
  | succ k ih => exact Int.le_trans (by omega) (Int.mul_le_mul ih h (by omega) (by omega))
theorem powI_le {n N : Int} (h : 1 ≤ n) (hN : n ≤ N) (k : Nat) : powI n k ≤ powI N k := by
  induction k with
  | zero => simp [powI]
  | succ k ih => exact Int.mul_le_mul ih hN (by omega) (by have := powI_pos (show 1 ≤ N by omega) k; omega)
theorem powI_up {n : Int} (h : 1 ≤ n) {j k : Nat} (hj : j ≤ k) : powI n j ≤ powI n k := by
  induction k with
  | zero => rw [show j = 0 by omega]; exact Int.le_refl _
  | succ k ih =>
    by_cases e : j = k + 1
    · rw [e]; exact Int.le_refl _
    · have h1 := ih (by omega)
      have h2 : powI n k * 1 ≤ powI n k * n := Int.mul_le_mul_of_nonneg_left h (by have := powI_pos h k; omega)
      show powI n j ≤ powI n k * n
      omega
theorem powI_in {n N : Int} (h : 1 ≤ n) (hN : n ≤ N) (E : Nat) (hE : powI N E ≤ 1000000000000000000) {j : Nat} (hj : j ≤ E) : 1 ≤ powI n j ∧ powI n j ≤ 1000000000000000000 := by
  have h1 := powI_pos h j
  have h2 := powI_up h hj
  have h3 := powI_le h hN E
  omega
/-! ### PlainCost -/
def pcCode (s : Int) : Int := if 1 ≤ s ∧ s ≤ 50000 then 0 else 2
def pcA (s : Int) : Int := if 1 ≤ s ∧ s ≤ 50000 then s * s * (2 * s - 1) else 0
theorem pc_bounds {s : Int} (h : 1 ≤ s) (h2 : s ≤ 50000) : 1 ≤ s * s ∧ s * s ≤ 2500000000 ∧ 0 ≤ 2 * s * s ∧ 2 * s * s ≤ 5000000000 ∧ 0 ≤ 2 * s * s * s ∧ 2 * s * s * s ≤ 250000000000000 ∧ 0 ≤ s * s * (2 * s - 1) ∧ s * s * (2 * s - 1) ≤ 250000000000000 ∧ 2 * s * s * s - s * s = s * s * (2 * s - 1) := by
  have a1 : 1 * 1 ≤ s * s := Int.mul_le_mul h h (by omega) (by omega)
  have a2 : s * s ≤ 50000 * 50000 := Int.mul_le_mul h2 h2 (by omega) (by omega)
  have a3 : 2 * s * s = 2 * (s * s) := by rw [Int.mul_assoc]
  have a4 : 2 * s * s * s = 2 * (s * s * s) := by rw [a3, Int.mul_assoc]
  have a5 : s * s * s ≤ 2500000000 * 50000 := Int.mul_le_mul (by omega) h2 (by omega) (by omega)
  have a6 : 1 * 1 ≤ s * s * s := Int.mul_le_mul (by omega) h (by omega) (by omega)
  have a7 : s * s * (2 * s - 1) = 2 * (s * s * s) - s * s := by rw [Int.mul_sub, Int.mul_one, Int.mul_left_comm]
  have a8 : s * s ≤ s * s * s := by have := Int.mul_le_mul_of_nonneg_left h (show 0 ≤ s * s by omega); omega
  omega
set_option maxHeartbeats 1600000 in
theorem implPlainCost_c (s : Int) (w : World) : Calls Try.prog 11 #[.int .i64 s] w fun e w' => e = .returned (.tuple #[.int .i64 (pcA s), .int .i64 (pcCode s)]) ∧ Below w.heap.size w w' := by
  by_cases h : 1 ≤ s ∧ s ≤ 50000
  · have Hr : Hid (pcA s = s * s * (2 * s - 1) ∧ pcCode s = 0) := Lib.hid ⟨if_pos h, if_pos h⟩
    have hc : (decide (1 ≤ s) && decide (s ≤ 50000)) = true := by simp [h.1, h.2]
    obtain ⟨b1, b2, b3, b4, b5, b6, b7, b8, _⟩ := pc_bounds h.1 h.2
    have e1 : IntKind.i64.wrap (s * s) = s * s := IntWalk.i64_in _ (by omega)
    have e2 : IntKind.i64.wrap (2 * s) = 2 * s := IntWalk.i64_in _ (by omega)
    have e3 : IntKind.i64.wrap (2 * s - 1) = 2 * s - 1 := IntWalk.i64_in _ (by omega)
    have e4 : IntKind.i64.wrap (s * s * (2 * s - 1)) = s * s * (2 * s - 1) := IntWalk.i64_in _ (by omega)
    clear b1 b2 b3 b4 b5 b6 b7 b8
    go_enter Try.func11, Try.ntmps11
    go_wp2_with fail
    refine (isBetween_c 1 s 50000 _).mono ?_
    rintro e w1 ⟨rfl, rfl⟩
    rw [hc]
    go_wp2_with fail
    go_ret2
    exact ⟨by rw [Hr.out.1, Hr.out.2]; rfl, Below.refl _ _⟩
  · have Hr : Hid (pcA s = 0 ∧ pcCode s = 2) := Lib.hid ⟨if_neg h, if_neg h⟩
    have hc : (decide (1 ≤ s) && decide (s ≤ 50000)) = false := by simp; omega
    go_enter Try.func11, Try.ntmps11
    go_wp2_with fail
    refine (isBetween_c 1 s 50000 _).mono ?_
    rintro e w1 ⟨rfl, rfl⟩
    rw [hc]
    go_wp2_with fail
    go_ret2
    exact ⟨by rw [Hr.out.1, Hr.out.2]; rfl, Below.refl _ _⟩
set_option maxHeartbeats 1600000 in
theorem specPlainCost_c (s : Int) (w : World) : Calls Try.prog 10 #[.int .i64 s] w fun e w' => e = .returned (.tuple #[.int .i64 (pcA s), .int .i64 (pcCode s)]) ∧ Below w.heap.size w w' := by
  by_cases h : 1 ≤ s ∧ s ≤ 50000
  · obtain ⟨b1, b2, b3, b4, b5, b6, b7, b8, b9⟩ := pc_bounds h.1 h.2
    have Hr : Hid (pcA s = 2 * s * s * s - s * s ∧ pcCode s = 0) := Lib.hid ⟨by rw [b9]; exact if_pos h, if_pos h⟩
    have hc : (decide (1 ≤ s) && decide (s ≤ 50000)) = true := by simp [h.1, h.2]
    have e1 : IntKind.i64.wrap (s * s) = s * s := IntWalk.i64_in _ (by omega)
    have e2 : IntKind.i64.wrap (2 * s) = 2 * s := IntWalk.i64_in _ (by omega)
    have e3 : IntKind.i64.wrap (2 * s * s) = 2 * s * s := IntWalk.i64_in _ (by omega)
    have e4 : IntKind.i64.wrap (2 * s * s * s) = 2 * s * s * s := IntWalk.i64_in _ (by omega)
    have e5 : IntKind.i64.wrap (2 * s * s * s - s * s) = 2 * s * s * s - s * s := IntWalk.i64_in _ (by omega)
    clear b1 b2 b3 b4 b5 b6 b7 b8 b9
    go_enter Try.func10, Try.ntmps10
    go_wp2_with fail
    refine (l01In_c s 1 50000 _).mono ?_
    rintro e w1 ⟨rfl, rfl⟩
    rw [hc]
    go_wp2_with fail
    go_ret2
    exact ⟨by rw [Hr.out.1, Hr.out.2]; rfl, Below.refl _ _⟩
  · have Hr : Hid (pcA s = 0 ∧ pcCode s = 2) := Lib.hid ⟨if_neg h, if_neg h⟩
    have hc : (decide (1 ≤ s) && decide (s ≤ 50000)) = false := by simp; omega
    go_enter Try.func10, Try.ntmps10
    go_wp2_with fail
    refine (l01In_c s 1 50000 _).mono ?_
    rintro e w1 ⟨rfl, rfl⟩
    rw [hc]
    go_wp2_with fail
    go_ret2
    exact ⟨by rw [Hr.out.1, Hr.out.2]; rfl, Below.refl _ _⟩
end Go.Proofs.Ytokmchadckcilaa
