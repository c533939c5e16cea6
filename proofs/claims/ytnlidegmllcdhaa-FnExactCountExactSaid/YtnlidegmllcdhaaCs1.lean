/-
  Square schemes: canRepeat, checkRepeated, l06Square; isBetween; powers; PlainCost of both sides. (Made by mkcs1.py.)
-/
import Derived.Test.YtnlidegmllcdhaaSx
import Derived.Test.YtnlidegmllcdhaaImplIs
import Derived.ChangeKeysEq
namespace Go.Proofs.Ytnlidegmllcdhaa
open Go.RowKit
set_option maxRecDepth 100000
/-- A square scheme's sizes. -/
def sqB (n m k : Int) : Bool := decide (2 ≤ n) && (m == n && k == n)
/-- The error for what has to be a square scheme, beside other arguments that are in their ranges or not. -/
def sqCode (p n m k : Int) (qs : List (List Nat)) (b : Bool) : Int := if schemeB p n m k qs = true then (if (sqB n m k && b) = true then 0 else 2) else 1
theorem exec_build_sizes {o : Oper} {a : Act} {w : World} (x y z : Operand) (ho : o.op = .build 93 #[(0, x), (1, y), (2, z)]) (n m k : Int) (hx : a.eval x = .int .i64 n) (hy : a.eval y = .int .i64 m) (hz : a.eval z = .int .i64 k) :
    (execOp a.eval o).run Try.prog w = .ok (.value (.agg #[.int .i64 n, .int .i64 m, .int .i64 k])) w := by
  have hb : Try.prog.built 93 [(0, .int .i64 n), (1, .int .i64 m), (2, .int .i64 k)] = some #[.int .i64 n, .int .i64 m, .int .i64 k] := by kernel_rfl
  have h := run_build (P := Try.prog) w 93 _ _ hb
  unfold execOp
  simp [ho, hx, hy, hz, h]
theorem run_eqs_sizes (n m k n' m' k' : Int) (w : World) : (Op.equalIn 10000 93 (.agg #[.int .i64 n, .int .i64 m, .int .i64 k]) (.agg #[.int .i64 n', .int .i64 m', .int .i64 k'])).run Try.prog w = .ok (n == n' && (m == m' && k == k')) w := by
  obtain ⟨i, hi⟩ : ∃ i, Try.prog.info? 2 = some i := Option.isSome_iff_exists.1 (by kernel_rfl)
  have hc : Try.prog.cellsOf 2 = 1 := by kernel_rfl
  have hu : Try.prog.underlying 2 = some (.int .i64) := by kernel_rfl
  have hagg : (isAgg 2).run Try.prog w = .ok false w := by
    unfold isAgg
    rw [Sem.run_bind, run_underlying hu w]
    rfl
  have hpart : ∀ (xs : Array Value) (j : Nat) (v : Value), xs[j]? = some v → (part 2 xs (j * 1)).run Try.prog w = .ok v w := by
    intro xs j v hv
    unfold part
    simp [Sem.run_bind, hagg, hv]
  rw [run_equalIn_array (P := Try.prog) w 9999 _ _ Try.underlying93 hi, hc]
  rw [show List.range 3 = [0, 1, 2] from rfl]
  have hq : ∀ a b : Int, (Op.equalIn 9999 2 (.int .i64 a) (.int .i64 b)).run Try.prog w = .ok (a == b) w := fun a b => run_equalIn_int w 9998 2 .i64 .i64 a b hu
  simp only [Op.eqItems, Sem.run_bind, hpart #[.int .i64 n, .int .i64 m, .int .i64 k] 0 (.int .i64 n) rfl, hpart #[.int .i64 n, .int .i64 m, .int .i64 k] 1 (.int .i64 m) rfl, hpart #[.int .i64 n, .int .i64 m, .int .i64 k] 2 (.int .i64 k) rfl,
    hpart #[.int .i64 n', .int .i64 m', .int .i64 k'] 0 (.int .i64 n') rfl, hpart #[.int .i64 n', .int .i64 m', .int .i64 k'] 1 (.int .i64 m') rfl, hpart #[.int .i64 n', .int .i64 m', .int .i64 k'] 2 (.int .i64 k') rfl, Result.andThen_ok, hq, Sem.run_ite, Sem.run_pure]
  cases n == n' <;> cases m == m' <;> cases k == k' <;> rfl
theorem exec_eql_sizes {o : Oper} {a : Act} {w : World} (x y : Operand) (t' : TypeId) (ho : o.op = .binOp .eql 93 x y t') (n m k n' m' k' : Int) (hx : a.eval x = .agg #[.int .i64 n, .int .i64 m, .int .i64 k]) (hy : a.eval y = .agg #[.int .i64 n', .int .i64 m', .int .i64 k']) (b : Bool) (hb : (n == n' && (m == m' && k == k')) = b) :
    (execOp a.eval o).run Try.prog w = .ok (.value (.bool b)) w := by
  have hm : Try.prog.eqGuardType Try.prog.depth 93 = false := by kernel_rfl
  unfold execOp
  subst hb
  simp [ho, hx, hy, Sem.run_bind, run_eqGuard_agg w .eql _ x y _ _ hm, run_eql_struct, run_eqs_sizes]
theorem isBetween_c (a n b : Int) (w : World) : Calls Try.prog 65 #[.int .i64 a, .int .i64 n, .int .i64 b] w fun e w' => e = .returned (.bool (decide (a ≤ n) && decide (n ≤ b))) ∧ w = w' := by
  by_cases h : a ≤ n
  · have h1 : decide (a ≤ n) = true := by simp [h]
    go_enter Try.func65, Try.ntmps65
    go_wp2_with fail
    go_ret
    exact ⟨by simp [h], rfl⟩
  · have h1 : decide (a ≤ n) = false := by simp [h]
    go_enter Try.func65, Try.ntmps65
    go_wp2_with fail
    go_ret
    exact ⟨by simp, rfl⟩
/-! ### Powers -/
def powI (n : Int) : Nat → Int
  | 0 => 1
  | k + 1 => powI n k * n
theorem powI_pos {n : Int} (h : 1 ≤ n) (k : Nat) : 1 ≤ powI n k := by
  induction k with
  | zero => simp [powI]
  | succ k ih => exact Int.le_trans (by omega) (Int.mul_le_mul ih h (by omega) (by omega))
theorem powI_le {n N : Int} (h : 1 ≤ n) (hN : n ≤ N) (k : Nat) : powI n k ≤ powI N k := by
  induction k with
  | zero => simp [powI]
  | succ k ih => exact Int.mul_le_mul ih hN (by omega) (by have := powI_pos (show 1 ≤ N by omega) k; omega)
theorem powI_up {n : Int} (h : 1 ≤ n) {j k : Nat} (hj : j ≤ k) : powI n j ≤ powI n k := by
  induction k with
  | zero => rw [show j = 0 by omega]; exact Int.le_refl _
  | succ k ih =>
    by_cases e : j = k + 1
    · rw [e]; exact Int.le_refl _
    · have h1 := ih (by omega)
      have h2 : powI n k * 1 ≤ powI n k * n := Int.mul_le_mul_of_nonneg_left h (by have := powI_pos h k; omega)
      show powI n j ≤ powI n k * n
      omega
theorem powI_in {n N : Int} (h : 1 ≤ n) (hN : n ≤ N) (E : Nat) (hE : powI N E ≤ 1000000000000000000) {j : Nat} (hj : j ≤ E) : 1 ≤ powI n j ∧ powI n j ≤ 1000000000000000000 := by
  have h1 := powI_pos h j
  have h2 := powI_up h hj
  have h3 := powI_le h hN E
  omega
set_option maxHeartbeats 1600000 in
theorem powerOf_c (n : Int) (e : Nat) (he : e ≤ 1000000) (h : ∀ j, j ≤ e → 1 ≤ powI n j ∧ powI n j ≤ 1000000000000000000) (w : World) :
    Calls Try.prog 57 #[.int .i64 n, .int .i64 (e : Int)] w fun x w' => x = .returned (.int .i64 (powI n e)) ∧ w = w' := by
  have H := Lib.hid h
  clear h
  go_enter Try.func57, Try.ntmps57
  go_wp2_with fail
  go_loop [5, 7] (fun a i => ∃ k : Nat, k ≤ e ∧ i = .int .i64 k ∧ a = .int .i64 (powI n k)) (fun _ i => e - (intOf i).toNat)
  case atStart => exact ⟨0, by omega, rfl, rfl⟩
  case round =>
    obtain ⟨k, hk, rfl, rfl⟩ := hrel
    by_cases hlt : k < e
    · have e0 : IntKind.i64.wrap ((k : Int) + 1) = (k : Int) + 1 := IntWalk.i64_in _ (by omega)
      have e1 : IntKind.i64.wrap (powI n k * n) = powI n k * n := IntWalk.i64_in _ (by have := H.out (k + 1) (by omega); simp only [powI] at this; omega)
      go_wp2_with fail
      go_round
      case rel => exact ⟨k + 1, by omega, by go_num, rfl⟩
      case measure => simp [intOf]; omega
    · obtain rfl : k = e := by omega
      go_wp2_with fail
      go_ret
      exact ⟨rfl, rfl⟩
/-! ### PlainCost -/
def pcCode (s : Int) : Int := if 1 ≤ s ∧ s ≤ 50000 then 0 else 2
def pcA (s : Int) : Int := if 1 ≤ s ∧ s ≤ 50000 then s * s * (2 * s - 1) else 0
theorem pc_bounds {s : Int} (h : 1 ≤ s) (h2 : s ≤ 50000) : 1 ≤ s * s ∧ s * s ≤ 2500000000 ∧ 0 ≤ 2 * s * s ∧ 2 * s * s ≤ 5000000000 ∧ 0 ≤ 2 * s * s * s ∧ 2 * s * s * s ≤ 250000000000000 ∧ 0 ≤ s * s * (2 * s - 1) ∧ s * s * (2 * s - 1) ≤ 250000000000000 ∧ 2 * s * s * s - s * s = s * s * (2 * s - 1) := by
  have a1 : 1 * 1 ≤ s * s := Int.mul_le_mul h h (by omega) (by omega)
  have a2 : s * s ≤ 50000 * 50000 := Int.mul_le_mul h2 h2 (by omega) (by omega)
  have a3 : 2 * s * s = 2 * (s * s) := by rw [Int.mul_assoc]
  have a4 : 2 * s * s * s = 2 * (s * s * s) := by rw [a3, Int.mul_assoc]
  have a5 : s * s * s ≤ 2500000000 * 50000 := Int.mul_le_mul (by omega) h2 (by omega) (by omega)
  have a6 : 1 * 1 ≤ s * s * s := Int.mul_le_mul (by omega) h (by omega) (by omega)
  have a7 : s * s * (2 * s - 1) = 2 * (s * s * s) - s * s := by rw [Int.mul_sub, Int.mul_one, Int.mul_left_comm]
  have a8 : s * s ≤ s * s * s := by have := Int.mul_le_mul_of_nonneg_left h (show 0 ≤ s * s by omega); omega
  omega
end Go.Proofs.Ytnlidegmllcdhaa
