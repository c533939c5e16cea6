/-
  Square schemes: canRepeat, checkRepeated, l06Square; isBetween; powers; PlainCost of both sides. (Made by mkcs1.py.)
-/
import Derived.Test.YtphccbilldfdpaaSx
import Derived.Test.YtphccbilldfdpaaImplIs
import Derived.ChangeKeysEq
namespace Go.Proofs.Ytphccbilldfdpaa
open Go.RowKit
set_option maxRecDepth 100000
/-- A square scheme's sizes. -/
def sqB (n m k : Int) : Bool := decide (2 ≤ n) && (m == n && k == n)
/-- The error for what has to be a square scheme, beside other arguments that are in their ranges or not. -/
def sqCode (p n m k : Int) (qs : List (List Nat)) (b : Bool) : Int := if schemeB p n m k qs = true then (if (sqB n m k && b) = true then 0 else 2) else 1
theorem exec_build_sizes {o : Oper} {a : Act} {w : World} (x y z : Operand) (ho : o.op = .build 60 #[(0, x), (1, y), (2, z)]) (n m k : Int) (hx : a.eval x = .int .i64 n) (hy : a.eval y = .int .i64 m) (hz : a.eval z = .int .i64 k) :
    (execOp a.eval o).run Try.prog w = .ok (.value (.agg #[.int .i64 n, .int .i64 m, .int .i64 k])) w := by
  have hb : Try.prog.built 60 [(0, .int .i64 n), (1, .int .i64 m), (2, .int .i64 k)] = some #[.int .i64 n, .int .i64 m, .int .i64 k] := by kernel_rfl
  have h := run_build (P := Try.prog) w 60 _ _ hb
  unfold execOp
  simp [ho, hx, hy, hz, h]
theorem run_eqs_sizes (n m k n' m' k' : Int) (w : World) : (Op.equalIn 10000 60 (.agg #[.int .i64 n, .int .i64 m, .int .i64 k]) (.agg #[.int .i64 n', .int .i64 m', .int .i64 k'])).run Try.prog w = .ok (n == n' && (m == m' && k == k')) w := by
  obtain ⟨i, hi⟩ : ∃ i, Try.prog.info? 2 = some i := Option.isSome_iff_exists.1 (by kernel_rfl)
  have hc : Try.prog.cellsOf 2 = 1 := by kernel_rfl
  have hu : Try.prog.underlying 2 = some (.int .i64) := by kernel_rfl
  have hagg : (isAgg 2).run Try.prog w = .ok false w := by
    unfold isAgg
    rw [Sem.run_bind, run_underlying hu w]
    rfl
  have hpart : ∀ (xs : Array Value) (j : Nat) (v : Value), xs[j]? = some v → (part 2 xs (j * 1)).run Try.prog w = .ok v w := by
    intro xs j v hv
    unfold part
    simp [Sem.run_bind, hagg, hv]
  rw [run_equalIn_array (P := Try.prog) w 9999 _ _ Try.underlying60 hi, hc]
  rw [show List.range 3 = [0, 1, 2] from rfl]
  have hq : ∀ a b : Int, (Op.equalIn 9999 2 (.int .i64 a) (.int .i64 b)).run Try.prog w = .ok (a == b) w := fun a b => run_equalIn_int w 9998 2 .i64 .i64 a b hu
  simp only [Op.eqItems, Sem.run_bind, hpart #[.int .i64 n, .int .i64 m, .int .i64 k] 0 (.int .i64 n) rfl, hpart #[.int .i64 n, .int .i64 m, .int .i64 k] 1 (.int .i64 m) rfl, hpart #[.int .i64 n, .int .i64 m, .int .i64 k] 2 (.int .i64 k) rfl,
    hpart #[.int .i64 n', .int .i64 m', .int .i64 k'] 0 (.int .i64 n') rfl, hpart #[.int .i64 n', .int .i64 m', .int .i64 k'] 1 (.int .i64 m') rfl, hpart #[.int .i64 n', .int .i64 m', .int .i64 k'] 2 (.int .i64 k') rfl, Result.andThen_ok, hq, Sem.run_ite, Sem.run_pure]
  cases n == n' <;> cases m == m' <;> cases k == k' <;> rfl
theorem exec_eql_sizes {o : Oper} {a : Act} {w : World} (x y : Operand) (t' : TypeId) (ho : o.op = .binOp .eql 60 x y t') (n m k n' m' k' : Int) (hx : a.eval x = .agg #[.int .i64 n, .int .i64 m, .int .i64 k]) (hy : a.eval y = .agg #[.int .i64 n', .int .i64 m', .int .i64 k']) (b : Bool) (hb : (n == n' && (m == m' && k == k')) = b) :
    (execOp a.eval o).run Try.prog w = .ok (.value (.bool b)) w := by
  have hm : Try.prog.eqGuardType Try.prog.depth 60 = false := by kernel_rfl
  unfold execOp
  subst hb
  simp [ho, hx, hy, Sem.run_bind, run_eqGuard_agg w .eql _ x y _ _ hm, run_eql_struct, run_eqs_sizes]
theorem isBetween_c (a n b : Int) (w : World) : Calls Try.prog 31 #[.int .i64 a, .int .i64 n, .int .i64 b] w fun e w' => e = .returned (.bool (decide (a ≤ n) && decide (n ≤ b))) ∧ w = w' := by
  by_cases h : a ≤ n
  · have h1 : decide (a ≤ n) = true := by simp [h]
    go_enter Try.func31, Try.ntmps31
    go_wp2_with fail
    go_ret
    exact ⟨by simp [h], rfl⟩
  · have h1 : decide (a ≤ n) = false := by simp [h]
    go_enter Try.func31, Try.ntmps31
    go_wp2_with fail
    go_ret
    exact ⟨by simp, rfl⟩
/-! ### Powers -/
def powI (n : Int) : Nat → Int
  | 0 => 1
  | k + 1 => powI n k * n
theorem powI_pos {n : Int} (h : 1 ≤ n) (k : Nat) : 1 ≤ powI n k := by
  induction k with
  | zero => simp [powI]
  | succ k ih => exact Int.le_trans (by omega) (Int.mul_le_mul ih h (by omega) (by omega))
theorem powI_le {n N : Int} (h : 1 ≤ n) (hN : n ≤ N) (k : Nat) : powI n k ≤ powI N k := by
  induction k with
  | zero => simp [powI]
  | succ k ih => exact Int.mul_le_mul ih hN (by omega) (by have := powI_pos (show 1 ≤ N by omega) k; omega)
theorem powI_up {n : Int} (h : 1 ≤ n) {j k : Nat} (hj : j ≤ k) : powI n j ≤ powI n k := by
  induction k with
  | zero => rw [show j = 0 by omega]; exact Int.le_refl _
  | succ k ih =>
    by_cases e : j = k + 1
    · rw [e]; exact Int.le_refl _
    · have h1 := ih (by omega)
      have h2 : powI n k * 1 ≤ powI n k * n := Int.mul_le_mul_of_nonneg_left h (by have := powI_pos h k; omega)
      show powI n j ≤ powI n k * n
      omega
theorem powI_in {n N : Int} (h : 1 ≤ n) (hN : n ≤ N) (E : Nat) (hE : powI N E ≤ 1000000000000000000) {j : Nat} (hj : j ≤ E) : 1 ≤ powI n j ∧ powI n j ≤ 1000000000000000000 := by
  have h1 := powI_pos h j
  have h2 := powI_up h hj
  have h3 := powI_le h hN E
  omega
set_option maxHeartbeats 1600000 in
theorem powerOf_c (n : Int) (e : Nat) (he : e ≤ 1000000) (h : ∀ j, j ≤ e → 1 ≤ powI n j ∧ powI n j ≤ 1000000000000000000) (w : World) :
    Calls Try.prog 32 #[.int .i64 n, .int .i64 (e : Int)] w fun x w' => x = .returned (.int .i64 (powI n e)) ∧ w = w' := by
  have H := Lib.hid h
  clear h
  go_enter Try.func32, Try.ntmps32
  go_wp2_with fail
  go_loop [5, 7] (fun a i => ∃ k : Nat, k ≤ e ∧ i = .int .i64 k ∧ a = .int .i64 (powI n k)) (fun _ i => e - (intOf i).toNat)
  case atStart => exact ⟨0, by omega, rfl, rfl⟩
  case round =>
    obtain ⟨k, hk, rfl, rfl⟩ := hrel
    by_cases hlt : k < e
    · have e0 : IntKind.i64.wrap ((k : Int) + 1) = (k : Int) + 1 := IntWalk.i64_in _ (by omega)
      have e1 : IntKind.i64.wrap (powI n k * n) = powI n k * n := IntWalk.i64_in _ (by have := H.out (k + 1) (by omega); simp only [powI] at this; omega)
      go_wp2_with fail
      go_round
      case rel => exact ⟨k + 1, by omega, by go_num, rfl⟩
      case measure => simp [intOf]; omega
    · obtain rfl : k = e := by omega
      go_wp2_with fail
      go_ret
      exact ⟨rfl, rfl⟩
set_option maxHeartbeats 1600000 in
theorem l06Power_c (n : Int) (e : Nat) (he : e ≤ 1000000) (h : ∀ j, j ≤ e → 1 ≤ powI n j ∧ powI n j ≤ 1000000000000000000) (w : World) :
    Calls Try.prog 33 #[.int .i64 n, .int .i64 (e : Int)] w fun x w' => x = .returned (.int .i64 (powI n e)) ∧ w = w' := by
  have H := Lib.hid h
  clear h
  go_enter Try.func33, Try.ntmps33
  go_wp2_with fail
  go_loop [5, 1] (fun a i => ∃ k r : Nat, k + r ≤ e ∧ e ≤ k + r ∧ i = .int .i64 r ∧ a = .int .i64 (powI n k)) (fun _ i => (intOf i).toNat)
  case atStart => exact ⟨0, e, by omega, by omega, rfl, rfl⟩
  case round =>
    obtain ⟨k, r, hk, hk2, rfl, rfl⟩ := hrel
    by_cases hlt : 0 < r
    · have e0 : IntKind.i64.wrap ((r : Int) - 1) = (r : Int) - 1 := IntWalk.i64_in _ (by omega)
      have e1 : IntKind.i64.wrap (powI n k * n) = powI n k * n := IntWalk.i64_in _ (by have := H.out (k + 1) (by omega); simp only [powI] at this; omega)
      go_wp2_with fail
      go_round
      case rel => exact ⟨k + 1, r - 1, by omega, by omega, by go_num, rfl⟩
      case measure => simp [intOf]; omega
    · obtain rfl : k = e := by omega
      obtain rfl : r = 0 := by omega
      go_wp2_with fail
      go_ret
      exact ⟨rfl, rfl⟩
/-! ### PlainCost -/
def pcCode (s : Int) : Int := if 1 ≤ s ∧ s ≤ 50000 then 0 else 2
def pcA (s : Int) : Int := if 1 ≤ s ∧ s ≤ 50000 then s * s * (2 * s - 1) else 0
theorem pc_bounds {s : Int} (h : 1 ≤ s) (h2 : s ≤ 50000) : 1 ≤ s * s ∧ s * s ≤ 2500000000 ∧ 0 ≤ 2 * s * s ∧ 2 * s * s ≤ 5000000000 ∧ 0 ≤ 2 * s * s * s ∧ 2 * s * s * s ≤ 250000000000000 ∧ 0 ≤ s * s * (2 * s - 1) ∧ s * s * (2 * s - 1) ≤ 250000000000000 ∧ 2 * s * s * s - s * s = s * s * (2 * s - 1) := by
  have a1 : 1 * 1 ≤ s * s := Int.mul_le_mul h h (by omega) (by omega)
  have a2 : s * s ≤ 50000 * 50000 := Int.mul_le_mul h2 h2 (by omega) (by omega)
  have a3 : 2 * s * s = 2 * (s * s) := by rw [Int.mul_assoc]
  have a4 : 2 * s * s * s = 2 * (s * s * s) := by rw [a3, Int.mul_assoc]
  have a5 : s * s * s ≤ 2500000000 * 50000 := Int.mul_le_mul (by omega) h2 (by omega) (by omega)
  have a6 : 1 * 1 ≤ s * s * s := Int.mul_le_mul (by omega) h (by omega) (by omega)
  have a7 : s * s * (2 * s - 1) = 2 * (s * s * s) - s * s := by rw [Int.mul_sub, Int.mul_one, Int.mul_left_comm]
  have a8 : s * s ≤ s * s * s := by have := Int.mul_le_mul_of_nonneg_left h (show 0 ≤ s * s by omega); omega
  omega
set_option maxHeartbeats 4000000 in
theorem canRepeat_a (p n m k : Int) (A : Option Addr) (l c : Nat) (w : World) (h : n < 2) :
    Calls Try.prog 35 #[.agg #[.int .i64 p, .int .i64 n, .int .i64 m, .int .i64 k, .slice A l c]] w (fun e w' => e = .returned (.bool (sqB n m k)) ∧ Below w.heap.size w w') := by
  have hB := Below.refl w.heap.size w
  have Hr : Hid (sqB n m k = false) := Lib.hid (by simp [sqB]; omega)
  go_enter Try.func35, Try.ntmps35
  go_upto_region 0 with (fail)
  refine wp_region_lit ?_
  refine ls_op rfl (fun K' hK' => ?_)
  have lz1 := hB.size
  refine wp_new (some 1) rfl (exec_box 30 _ rfl (#[.int .i64 p, .int .i64 n, .int .i64 m, .int .i64 k, .slice A l c]) rfl) (fun Wz2 nnz3 => ?_)
  have bz4 := nnz3.below (Below.refl _ _) (Nat.le_refl _)
  replace hB := below_after hB bz4
  have hz5 : At Wz2 w.heap.size (.cells #[.int .i64 p, .int .i64 n, .int .i64 m, .int .i64 k, .slice A l c] 30 (0, 0)) := nnz3.at_
  refine hK' _ _ ?_
  clear hK' K' nnz3 bz4
  go_frame
  refine ls_ex (some 2) (.bool false) rfl rfl (exec_assign _ rfl (.bool false) rfl) ?_
  go_frame
  refine wpList_nil ?_
  go_upto_region 1 with (fail)
  refine wp_region_y (zs := []) (S := fun w' => Below w.heap.size w w' ∧ At w' w.heap.size (.cells #[.int .i64 p, .int .i64 n, .int .i64 m, .int .i64 k, .slice A l c] 30 (0, 0))) (S2 := fun w' => True) (by kernel_rfl) ?_
  change wpAnyY _ _ _ _ _ _ _ _ _ _ (World.drew _)
  generalize hwdz6 : World.drew _ = wdz6
  replace hB : Below w.heap.size w wdz6 := by rw [← hwdz6]; exact hB.drew
  replace hz5 : At wdz6 w.heap.size (.cells #[.int .i64 p, .int .i64 n, .int .i64 m, .int .i64 k, .slice A l c] 30 (0, 0)) := by rw [← hwdz6]; exact hz5
  clear hwdz6
  refine y_yield 0 (some 3) (.pointer (some ⟨w.heap.size, 1, none⟩)) rfl (by kernel_rfl) (by kernel_rfl) (by kernel_rfl) (fun _ _ _ h => h) rfl rfl ⟨hB, hz5⟩ (fun w' h' => exec_fieldAddr 30 _ 1 rfl _ (by kernel_rfl)) ?_
  go_frame
  refine y_yield 1 (some 4) (.int .i64 n) rfl (by kernel_rfl) (by kernel_rfl) (by kernel_rfl) (fun _ _ _ h => h) rfl rfl ⟨hB, hz5⟩ (fun w' h' => exec_load_one 2 _ rfl w.heap.size 1 rfl (.int .i64 n) _ Try.underlying2 rfl (h'.2.at_ 1)) ?_
  go_frame
  refine y_yield 2 (some 5) (.bool false) rfl (by kernel_rfl) (by kernel_rfl) (by kernel_rfl) (fun _ _ _ h => h) rfl rfl ⟨hB, hz5⟩ (fun w' h' => exec_geq _ _ _ _ rfl n 2 rfl rfl false (decide_eq_false (by omega))) ?_
  go_frame
  refine y_yield 3 (some 6) (.bool false) rfl (by kernel_rfl) (by kernel_rfl) (by kernel_rfl) (fun _ _ _ h => h) rfl rfl ⟨hB, hz5⟩ (fun w' h' => exec_move _ rfl (.bool false) rfl) ?_
  go_frame
  refine y_skip 4 (some 7) rfl (by kernel_rfl) (by kernel_rfl) (by kernel_rfl) (fun _ _ _ h => h) rfl rfl ⟨hB, hz5⟩ ?_
  go_frame
  refine y_skip 6 (some 9) rfl (by kernel_rfl) (by kernel_rfl) (by kernel_rfl) (fun _ _ _ h => h) rfl rfl ⟨hB, hz5⟩ ?_
  go_frame
  refine y_skip 7 (some 10) rfl (by kernel_rfl) (by kernel_rfl) (by kernel_rfl) (fun _ _ _ h => h) rfl rfl ⟨hB, hz5⟩ ?_
  go_frame
  refine y_skip 8 (some 11) rfl (by kernel_rfl) (by kernel_rfl) (by kernel_rfl) (fun _ _ _ h => h) rfl rfl ⟨hB, hz5⟩ ?_
  go_frame
  refine y_skip 9 (some 12) rfl (by kernel_rfl) (by kernel_rfl) (by kernel_rfl) (fun _ _ _ h => h) rfl rfl ⟨hB, hz5⟩ ?_
  go_frame
  refine y_skip 10 (some 13) rfl (by kernel_rfl) (by kernel_rfl) (by kernel_rfl) (fun _ _ _ h => h) rfl rfl ⟨hB, hz5⟩ ?_
  go_frame
  refine y_skip 11 (some 14) rfl (by kernel_rfl) (by kernel_rfl) (by kernel_rfl) (fun _ _ _ h => h) rfl rfl ⟨hB, hz5⟩ ?_
  go_frame
  refine y_skip 12 (some 15) rfl (by kernel_rfl) (by kernel_rfl) (by kernel_rfl) (fun _ _ _ h => h) rfl rfl ⟨hB, hz5⟩ ?_
  go_frame
  refine y_pass 5 (some 8) (by kernel_rfl) rfl rfl rfl ⟨hB, hz5⟩ ?_
  go_frame
  refine y_skip 13 (some 16) rfl (by kernel_rfl) (by kernel_rfl) (by kernel_rfl) (fun _ _ _ h => h) rfl rfl ⟨hB, hz5⟩ ?_
  go_frame
  refine y_yield 14 (some 17) (.bool false) rfl (by kernel_rfl) (by kernel_rfl) (by kernel_rfl) (fun _ _ _ h => h) rfl rfl ⟨hB, hz5⟩ (fun w' h' => exec_pick _ _ _ rfl false rfl (.bool false) rfl) ?_
  go_frame
  refine y_oper 15 (by kernel_rfl) rfl rfl (fun K' hK' => ?_)
  refine wp_exec (some 2) rfl (.bool false) (exec_assign _ rfl (.bool false) rfl) ?_
  refine hK' _ _ ⟨hB, hz5⟩ (fun _ => trivial) ?_
  clear hK' K'
  go_frame
  refine y_done (by kernel_rfl) ?_ _
  go_wp2_with fail
  go_ret
  exact ⟨by rw [Hr.out]; rfl, hB⟩
set_option maxHeartbeats 4000000 in
theorem canRepeat_n (p n m k : Int) (A : Option Addr) (l c : Nat) (w : World) (h : 2 ≤ n) (he : (m == n && k == n) = false) :
    Calls Try.prog 35 #[.agg #[.int .i64 p, .int .i64 n, .int .i64 m, .int .i64 k, .slice A l c]] w (fun e w' => e = .returned (.bool (sqB n m k)) ∧ Below w.heap.size w w') := by
  have hB := Below.refl w.heap.size w
  have Hr : Hid (sqB n m k = false) := Lib.hid (by unfold sqB; rw [he]; simp)
  have Heq : Hid ((n == n && (m == n && k == n)) = false) := Lib.hid (by rw [he]; simp)
  clear he
  go_enter Try.func35, Try.ntmps35
  go_upto_region 0 with (fail)
  refine wp_region_lit ?_
  refine ls_op rfl (fun K' hK' => ?_)
  have lz1 := hB.size
  refine wp_new (some 1) rfl (exec_box 30 _ rfl (#[.int .i64 p, .int .i64 n, .int .i64 m, .int .i64 k, .slice A l c]) rfl) (fun Wz2 nnz3 => ?_)
  have bz4 := nnz3.below (Below.refl _ _) (Nat.le_refl _)
  replace hB := below_after hB bz4
  have hz5 : At Wz2 w.heap.size (.cells #[.int .i64 p, .int .i64 n, .int .i64 m, .int .i64 k, .slice A l c] 30 (0, 0)) := nnz3.at_
  refine hK' _ _ ?_
  clear hK' K' nnz3 bz4
  go_frame
  refine ls_ex (some 2) (.bool false) rfl rfl (exec_assign _ rfl (.bool false) rfl) ?_
  go_frame
  refine wpList_nil ?_
  go_upto_region 1 with (fail)
  refine wp_region_y (zs := []) (S := fun w' => Below w.heap.size w w' ∧ At w' w.heap.size (.cells #[.int .i64 p, .int .i64 n, .int .i64 m, .int .i64 k, .slice A l c] 30 (0, 0))) (S2 := fun w' => True) (by kernel_rfl) ?_
  change wpAnyY _ _ _ _ _ _ _ _ _ _ (World.drew _)
  generalize hwdz6 : World.drew _ = wdz6
  replace hB : Below w.heap.size w wdz6 := by rw [← hwdz6]; exact hB.drew
  replace hz5 : At wdz6 w.heap.size (.cells #[.int .i64 p, .int .i64 n, .int .i64 m, .int .i64 k, .slice A l c] 30 (0, 0)) := by rw [← hwdz6]; exact hz5
  clear hwdz6
  refine y_yield 0 (some 3) (.pointer (some ⟨w.heap.size, 1, none⟩)) rfl (by kernel_rfl) (by kernel_rfl) (by kernel_rfl) (fun _ _ _ h => h) rfl rfl ⟨hB, hz5⟩ (fun w' h' => exec_fieldAddr 30 _ 1 rfl _ (by kernel_rfl)) ?_
  go_frame
  refine y_yield 1 (some 4) (.int .i64 n) rfl (by kernel_rfl) (by kernel_rfl) (by kernel_rfl) (fun _ _ _ h => h) rfl rfl ⟨hB, hz5⟩ (fun w' h' => exec_load_one 2 _ rfl w.heap.size 1 rfl (.int .i64 n) _ Try.underlying2 rfl (h'.2.at_ 1)) ?_
  go_frame
  refine y_yield 2 (some 5) (.bool true) rfl (by kernel_rfl) (by kernel_rfl) (by kernel_rfl) (fun _ _ _ h => h) rfl rfl ⟨hB, hz5⟩ (fun w' h' => exec_geq _ _ _ _ rfl n 2 rfl rfl true (decide_eq_true (by omega))) ?_
  go_frame
  refine y_yield 3 (some 6) (.bool true) rfl (by kernel_rfl) (by kernel_rfl) (by kernel_rfl) (fun _ _ _ h => h) rfl rfl ⟨hB, hz5⟩ (fun w' h' => exec_move _ rfl (.bool true) rfl) ?_
  go_frame
  refine y_yield 4 (some 7) (.agg #[.int .i64 p, .int .i64 n, .int .i64 m, .int .i64 k, .slice A l c]) rfl (by kernel_rfl) (by kernel_rfl) (by kernel_rfl) (fun _ _ _ h => h) rfl rfl ⟨hB, hz5⟩ (fun w' h' => exec_load_all 30 _ rfl w.heap.size rfl _ _ _ h'.2 Try.underlying30 rfl 5 (by kernel_rfl) rfl) ?_
  go_frame
  refine y_yield 6 (some 9) (.pointer (some ⟨w.heap.size, 1, none⟩)) rfl (by kernel_rfl) (by kernel_rfl) (by kernel_rfl) (fun _ _ _ h => h) rfl rfl ⟨hB, hz5⟩ (fun w' h' => exec_fieldAddr 30 _ 1 rfl _ (by kernel_rfl)) ?_
  go_frame
  refine y_yield 7 (some 10) (.int .i64 n) rfl (by kernel_rfl) (by kernel_rfl) (by kernel_rfl) (fun _ _ _ h => h) rfl rfl ⟨hB, hz5⟩ (fun w' h' => exec_load_one 2 _ rfl w.heap.size 1 rfl (.int .i64 n) _ Try.underlying2 rfl (h'.2.at_ 1)) ?_
  go_frame
  refine y_yield 8 (some 11) (.pointer (some ⟨w.heap.size, 1, none⟩)) rfl (by kernel_rfl) (by kernel_rfl) (by kernel_rfl) (fun _ _ _ h => h) rfl rfl ⟨hB, hz5⟩ (fun w' h' => exec_fieldAddr 30 _ 1 rfl _ (by kernel_rfl)) ?_
  go_frame
  refine y_yield 9 (some 12) (.int .i64 n) rfl (by kernel_rfl) (by kernel_rfl) (by kernel_rfl) (fun _ _ _ h => h) rfl rfl ⟨hB, hz5⟩ (fun w' h' => exec_load_one 2 _ rfl w.heap.size 1 rfl (.int .i64 n) _ Try.underlying2 rfl (h'.2.at_ 1)) ?_
  go_frame
  refine y_yield 10 (some 13) (.pointer (some ⟨w.heap.size, 1, none⟩)) rfl (by kernel_rfl) (by kernel_rfl) (by kernel_rfl) (fun _ _ _ h => h) rfl rfl ⟨hB, hz5⟩ (fun w' h' => exec_fieldAddr 30 _ 1 rfl _ (by kernel_rfl)) ?_
  go_frame
  refine y_yield 11 (some 14) (.int .i64 n) rfl (by kernel_rfl) (by kernel_rfl) (by kernel_rfl) (fun _ _ _ h => h) rfl rfl ⟨hB, hz5⟩ (fun w' h' => exec_load_one 2 _ rfl w.heap.size 1 rfl (.int .i64 n) _ Try.underlying2 rfl (h'.2.at_ 1)) ?_
  go_frame
  refine y_yield 12 (some 15) (.agg #[.int .i64 n, .int .i64 n, .int .i64 n]) rfl (by kernel_rfl) (by kernel_rfl) (by kernel_rfl) (fun _ _ _ h => h) rfl rfl ⟨hB, hz5⟩ (fun w' h' => exec_build_sizes _ _ _ rfl n n n rfl rfl rfl) ?_
  go_frame
  refine y_oper 5 (by kernel_rfl) rfl rfl (fun K' hK' => ?_)
  have lz9 := hB.size
  have lz10 := hz5.lt
  refine wp_call1 (some 8) rfl 36 _ _ rfl (fun args w => by kernel_rfl) _ rfl _ (sizesOf_c p n m k (.slice A l c) _) (fun e Wz7 h => ?_)
  obtain ⟨rfl, bz8⟩ := h
  replace hB := below_after hB bz8
  replace hz5 := hz5.after bz8
  clear bz8
  refine ⟨_, rfl, ?_⟩
  refine hK' _ _ ⟨hB, hz5⟩ (fun _ => trivial) ?_
  clear hK' K'
  go_frame
  refine y_yield 13 (some 16) (.bool false) rfl (by kernel_rfl) (by kernel_rfl) (by kernel_rfl) (fun _ _ _ h => h) rfl rfl ⟨hB, hz5⟩ (fun w' h' => exec_eql_sizes _ _ _ rfl n m k n n n rfl rfl false Heq.out) ?_
  go_frame
  refine y_yield 14 (some 17) (.bool false) rfl (by kernel_rfl) (by kernel_rfl) (by kernel_rfl) (fun _ _ _ h => h) rfl rfl ⟨hB, hz5⟩ (fun w' h' => exec_pick _ _ _ rfl true rfl (.bool false) rfl) ?_
  go_frame
  refine y_oper 15 (by kernel_rfl) rfl rfl (fun K' hK' => ?_)
  refine wp_exec (some 2) rfl (.bool false) (exec_assign _ rfl (.bool false) rfl) ?_
  refine hK' _ _ ⟨hB, hz5⟩ (fun _ => trivial) ?_
  clear hK' K'
  go_frame
  refine y_done (by kernel_rfl) ?_ _
  go_wp2_with fail
  go_ret
  exact ⟨by rw [Hr.out]; rfl, hB⟩
set_option maxHeartbeats 4000000 in
theorem canRepeat_y (p n m k : Int) (A : Option Addr) (l c : Nat) (w : World) (h : 2 ≤ n) (he : (m == n && k == n) = true) :
    Calls Try.prog 35 #[.agg #[.int .i64 p, .int .i64 n, .int .i64 m, .int .i64 k, .slice A l c]] w (fun e w' => e = .returned (.bool (sqB n m k)) ∧ Below w.heap.size w w') := by
  have hB := Below.refl w.heap.size w
  have Hr : Hid (sqB n m k = true) := Lib.hid (by unfold sqB; rw [he]; simp; omega)
  have Heq : Hid ((n == n && (m == n && k == n)) = true) := Lib.hid (by rw [he]; simp)
  clear he
  go_enter Try.func35, Try.ntmps35
  go_upto_region 0 with (fail)
  refine wp_region_lit ?_
  refine ls_op rfl (fun K' hK' => ?_)
  have lz1 := hB.size
  refine wp_new (some 1) rfl (exec_box 30 _ rfl (#[.int .i64 p, .int .i64 n, .int .i64 m, .int .i64 k, .slice A l c]) rfl) (fun Wz2 nnz3 => ?_)
  have bz4 := nnz3.below (Below.refl _ _) (Nat.le_refl _)
  replace hB := below_after hB bz4
  have hz5 : At Wz2 w.heap.size (.cells #[.int .i64 p, .int .i64 n, .int .i64 m, .int .i64 k, .slice A l c] 30 (0, 0)) := nnz3.at_
  refine hK' _ _ ?_
  clear hK' K' nnz3 bz4
  go_frame
  refine ls_ex (some 2) (.bool false) rfl rfl (exec_assign _ rfl (.bool false) rfl) ?_
  go_frame
  refine wpList_nil ?_
  go_upto_region 1 with (fail)
  refine wp_region_y (zs := []) (S := fun w' => Below w.heap.size w w' ∧ At w' w.heap.size (.cells #[.int .i64 p, .int .i64 n, .int .i64 m, .int .i64 k, .slice A l c] 30 (0, 0))) (S2 := fun w' => True) (by kernel_rfl) ?_
  change wpAnyY _ _ _ _ _ _ _ _ _ _ (World.drew _)
  generalize hwdz6 : World.drew _ = wdz6
  replace hB : Below w.heap.size w wdz6 := by rw [← hwdz6]; exact hB.drew
  replace hz5 : At wdz6 w.heap.size (.cells #[.int .i64 p, .int .i64 n, .int .i64 m, .int .i64 k, .slice A l c] 30 (0, 0)) := by rw [← hwdz6]; exact hz5
  clear hwdz6
  refine y_yield 0 (some 3) (.pointer (some ⟨w.heap.size, 1, none⟩)) rfl (by kernel_rfl) (by kernel_rfl) (by kernel_rfl) (fun _ _ _ h => h) rfl rfl ⟨hB, hz5⟩ (fun w' h' => exec_fieldAddr 30 _ 1 rfl _ (by kernel_rfl)) ?_
  go_frame
  refine y_yield 1 (some 4) (.int .i64 n) rfl (by kernel_rfl) (by kernel_rfl) (by kernel_rfl) (fun _ _ _ h => h) rfl rfl ⟨hB, hz5⟩ (fun w' h' => exec_load_one 2 _ rfl w.heap.size 1 rfl (.int .i64 n) _ Try.underlying2 rfl (h'.2.at_ 1)) ?_
  go_frame
  refine y_yield 2 (some 5) (.bool true) rfl (by kernel_rfl) (by kernel_rfl) (by kernel_rfl) (fun _ _ _ h => h) rfl rfl ⟨hB, hz5⟩ (fun w' h' => exec_geq _ _ _ _ rfl n 2 rfl rfl true (decide_eq_true (by omega))) ?_
  go_frame
  refine y_yield 3 (some 6) (.bool true) rfl (by kernel_rfl) (by kernel_rfl) (by kernel_rfl) (fun _ _ _ h => h) rfl rfl ⟨hB, hz5⟩ (fun w' h' => exec_move _ rfl (.bool true) rfl) ?_
  go_frame
  refine y_yield 4 (some 7) (.agg #[.int .i64 p, .int .i64 n, .int .i64 m, .int .i64 k, .slice A l c]) rfl (by kernel_rfl) (by kernel_rfl) (by kernel_rfl) (fun _ _ _ h => h) rfl rfl ⟨hB, hz5⟩ (fun w' h' => exec_load_all 30 _ rfl w.heap.size rfl _ _ _ h'.2 Try.underlying30 rfl 5 (by kernel_rfl) rfl) ?_
  go_frame
  refine y_yield 6 (some 9) (.pointer (some ⟨w.heap.size, 1, none⟩)) rfl (by kernel_rfl) (by kernel_rfl) (by kernel_rfl) (fun _ _ _ h => h) rfl rfl ⟨hB, hz5⟩ (fun w' h' => exec_fieldAddr 30 _ 1 rfl _ (by kernel_rfl)) ?_
  go_frame
  refine y_yield 7 (some 10) (.int .i64 n) rfl (by kernel_rfl) (by kernel_rfl) (by kernel_rfl) (fun _ _ _ h => h) rfl rfl ⟨hB, hz5⟩ (fun w' h' => exec_load_one 2 _ rfl w.heap.size 1 rfl (.int .i64 n) _ Try.underlying2 rfl (h'.2.at_ 1)) ?_
  go_frame
  refine y_yield 8 (some 11) (.pointer (some ⟨w.heap.size, 1, none⟩)) rfl (by kernel_rfl) (by kernel_rfl) (by kernel_rfl) (fun _ _ _ h => h) rfl rfl ⟨hB, hz5⟩ (fun w' h' => exec_fieldAddr 30 _ 1 rfl _ (by kernel_rfl)) ?_
  go_frame
  refine y_yield 9 (some 12) (.int .i64 n) rfl (by kernel_rfl) (by kernel_rfl) (by kernel_rfl) (fun _ _ _ h => h) rfl rfl ⟨hB, hz5⟩ (fun w' h' => exec_load_one 2 _ rfl w.heap.size 1 rfl (.int .i64 n) _ Try.underlying2 rfl (h'.2.at_ 1)) ?_
  go_frame
  refine y_yield 10 (some 13) (.pointer (some ⟨w.heap.size, 1, none⟩)) rfl (by kernel_rfl) (by kernel_rfl) (by kernel_rfl) (fun _ _ _ h => h) rfl rfl ⟨hB, hz5⟩ (fun w' h' => exec_fieldAddr 30 _ 1 rfl _ (by kernel_rfl)) ?_
  go_frame
  refine y_yield 11 (some 14) (.int .i64 n) rfl (by kernel_rfl) (by kernel_rfl) (by kernel_rfl) (fun _ _ _ h => h) rfl rfl ⟨hB, hz5⟩ (fun w' h' => exec_load_one 2 _ rfl w.heap.size 1 rfl (.int .i64 n) _ Try.underlying2 rfl (h'.2.at_ 1)) ?_
  go_frame
  refine y_yield 12 (some 15) (.agg #[.int .i64 n, .int .i64 n, .int .i64 n]) rfl (by kernel_rfl) (by kernel_rfl) (by kernel_rfl) (fun _ _ _ h => h) rfl rfl ⟨hB, hz5⟩ (fun w' h' => exec_build_sizes _ _ _ rfl n n n rfl rfl rfl) ?_
  go_frame
  refine y_oper 5 (by kernel_rfl) rfl rfl (fun K' hK' => ?_)
  have lz9 := hB.size
  have lz10 := hz5.lt
  refine wp_call1 (some 8) rfl 36 _ _ rfl (fun args w => by kernel_rfl) _ rfl _ (sizesOf_c p n m k (.slice A l c) _) (fun e Wz7 h => ?_)
  obtain ⟨rfl, bz8⟩ := h
  replace hB := below_after hB bz8
  replace hz5 := hz5.after bz8
  clear bz8
  refine ⟨_, rfl, ?_⟩
  refine hK' _ _ ⟨hB, hz5⟩ (fun _ => trivial) ?_
  clear hK' K'
  go_frame
  refine y_yield 13 (some 16) (.bool true) rfl (by kernel_rfl) (by kernel_rfl) (by kernel_rfl) (fun _ _ _ h => h) rfl rfl ⟨hB, hz5⟩ (fun w' h' => exec_eql_sizes _ _ _ rfl n m k n n n rfl rfl true Heq.out) ?_
  go_frame
  refine y_yield 14 (some 17) (.bool true) rfl (by kernel_rfl) (by kernel_rfl) (by kernel_rfl) (fun _ _ _ h => h) rfl rfl ⟨hB, hz5⟩ (fun w' h' => exec_pick _ _ _ rfl true rfl (.bool true) rfl) ?_
  go_frame
  refine y_oper 15 (by kernel_rfl) rfl rfl (fun K' hK' => ?_)
  refine wp_exec (some 2) rfl (.bool true) (exec_assign _ rfl (.bool true) rfl) ?_
  refine hK' _ _ ⟨hB, hz5⟩ (fun _ => trivial) ?_
  clear hK' K'
  go_frame
  refine y_done (by kernel_rfl) ?_ _
  go_wp2_with fail
  go_ret
  exact ⟨by rw [Hr.out]; rfl, hB⟩
theorem canRepeat_c (p n m k : Int) (A : Option Addr) (l c : Nat) (w : World) : Calls Try.prog 35 #[.agg #[.int .i64 p, .int .i64 n, .int .i64 m, .int .i64 k, .slice A l c]] w (fun e w' => e = .returned (.bool (sqB n m k)) ∧ Below w.heap.size w w') := by
  by_cases h : n < 2
  · exact canRepeat_a p n m k A l c w h
  · cases he : (m == n && k == n) with
    | false => exact canRepeat_n p n m k A l c w (by omega) he
    | true => exact canRepeat_y p n m k A l c w (by omega) he
set_option maxHeartbeats 4000000 in
theorem checkRep_a (p n m k : Int) (A : Option Addr) (c : Nat) (qs : List (List Nat)) (w : World) (hR : Rd w A qs) (hlen : qs.length ≤ 1048576) (b : Bool) (hs : schemeB p n m k qs = false) :
    Calls Try.prog 22 #[.agg #[.int .i64 p, .int .i64 n, .int .i64 m, .int .i64 k, .slice A qs.length c], .bool b] w (fun e w' => e = .returned (.int .i64 (sqCode p n m k qs b)) ∧ Below w.heap.size w w') := by
  have hB := Below.refl w.heap.size w
  have HIs := Lib.hid (fun w hr => implIsScheme_c p n m k A c qs w hr hlen)
  have Hs := Lib.hid hs
  have Hr : Hid (sqCode p n m k qs b = 1) := Lib.hid (by simp [sqCode, hs])
  clear hs
  go_enter Try.func22, Try.ntmps22
  go_upto_region 0 with (fail)
  refine wp_region_lit ?_
  refine ls_op rfl (fun K' hK' => ?_)
  have lz1 := hB.size
  refine wp_new (some 2) rfl (exec_box 30 _ rfl (#[.int .i64 p, .int .i64 n, .int .i64 m, .int .i64 k, .slice A qs.length c]) rfl) (fun Wz2 nnz3 => ?_)
  have bz4 := nnz3.below (Below.refl _ _) (Nat.le_refl _)
  replace hB := below_after hB bz4
  have hz5 : At Wz2 w.heap.size (.cells #[.int .i64 p, .int .i64 n, .int .i64 m, .int .i64 k, .slice A qs.length c] 30 (0, 0)) := nnz3.at_
  refine hK' _ _ ?_
  clear hK' K' nnz3 bz4
  go_frame
  refine ls_ex (some 4) (.int .i64 0) rfl rfl (exec_assign _ rfl (.int .i64 0) rfl) ?_
  go_frame
  refine wpList_nil ?_
  go_upto_region 1 with (fail)
  refine wp_region_lit ?_
  refine ls_ex (some 5) (.agg #[.int .i64 p, .int .i64 n, .int .i64 m, .int .i64 k, .slice A qs.length c]) rfl rfl (exec_load_all 30 _ rfl w.heap.size rfl _ _ _ hz5 Try.underlying30 rfl 5 (by kernel_rfl) rfl) ?_
  go_frame
  refine ls_op rfl (fun K' hK' => ?_)
  have lz8 := hB.size
  have lz9 := hz5.lt
  refine wp_call1 (some 6) rfl 34 _ _ rfl (fun args w => by kernel_rfl) _ rfl _ (HIs.out _ (hR.keep hB)) (fun e Wz6 h => ?_)
  obtain ⟨rfl, bz7⟩ := h
  replace hB := below_after hB bz7
  replace hz5 := hz5.after bz7
  rw [Hs.out]
  clear bz7
  refine ⟨_, rfl, ?_⟩
  refine hK' _ _ ?_
  clear hK' K'
  go_frame
  refine ls_ex (some 7) (.bool true) rfl rfl (exec_not _ _ rfl false rfl) ?_
  go_frame
  refine wpList_nil ?_
  go_upto_region 2 with (fail)
  refine wp_region_lit ?_
  refine ls_ex (some 4) (.int .i64 1) rfl rfl (exec_assign _ rfl (.int .i64 1) rfl) ?_
  go_frame
  refine wpList_nil ?_
  go_wp2_with fail
  go_ret
  exact ⟨by rw [Hr.out]; rfl, hB⟩
set_option maxHeartbeats 4000000 in
theorem checkRep_b (p n m k : Int) (A : Option Addr) (c : Nat) (qs : List (List Nat)) (w : World) (hR : Rd w A qs) (hlen : qs.length ≤ 1048576) (b : Bool) (hs : schemeB p n m k qs = true) (hq : sqB n m k = false) :
    Calls Try.prog 22 #[.agg #[.int .i64 p, .int .i64 n, .int .i64 m, .int .i64 k, .slice A qs.length c], .bool b] w (fun e w' => e = .returned (.int .i64 (sqCode p n m k qs b)) ∧ Below w.heap.size w w') := by
  have hB := Below.refl w.heap.size w
  have HIs := Lib.hid (fun w hr => implIsScheme_c p n m k A c qs w hr hlen)
  have Hs := Lib.hid hs
  have Hq := Lib.hid hq
  have Hr : Hid (sqCode p n m k qs b = 2) := Lib.hid (by simp [sqCode, hs, hq])
  clear hs hq
  go_enter Try.func22, Try.ntmps22
  go_upto_region 0 with (fail)
  refine wp_region_lit ?_
  refine ls_op rfl (fun K' hK' => ?_)
  have lz1 := hB.size
  refine wp_new (some 2) rfl (exec_box 30 _ rfl (#[.int .i64 p, .int .i64 n, .int .i64 m, .int .i64 k, .slice A qs.length c]) rfl) (fun Wz2 nnz3 => ?_)
  have bz4 := nnz3.below (Below.refl _ _) (Nat.le_refl _)
  replace hB := below_after hB bz4
  have hz5 : At Wz2 w.heap.size (.cells #[.int .i64 p, .int .i64 n, .int .i64 m, .int .i64 k, .slice A qs.length c] 30 (0, 0)) := nnz3.at_
  refine hK' _ _ ?_
  clear hK' K' nnz3 bz4
  go_frame
  refine ls_ex (some 4) (.int .i64 0) rfl rfl (exec_assign _ rfl (.int .i64 0) rfl) ?_
  go_frame
  refine wpList_nil ?_
  go_upto_region 1 with (fail)
  refine wp_region_lit ?_
  refine ls_ex (some 5) (.agg #[.int .i64 p, .int .i64 n, .int .i64 m, .int .i64 k, .slice A qs.length c]) rfl rfl (exec_load_all 30 _ rfl w.heap.size rfl _ _ _ hz5 Try.underlying30 rfl 5 (by kernel_rfl) rfl) ?_
  go_frame
  refine ls_op rfl (fun K' hK' => ?_)
  have lz8 := hB.size
  have lz9 := hz5.lt
  refine wp_call1 (some 6) rfl 34 _ _ rfl (fun args w => by kernel_rfl) _ rfl _ (HIs.out _ (hR.keep hB)) (fun e Wz6 h => ?_)
  obtain ⟨rfl, bz7⟩ := h
  replace hB := below_after hB bz7
  replace hz5 := hz5.after bz7
  rw [Hs.out]
  clear bz7
  refine ⟨_, rfl, ?_⟩
  refine hK' _ _ ?_
  clear hK' K'
  go_frame
  refine ls_ex (some 7) (.bool false) rfl rfl (exec_not _ _ rfl true rfl) ?_
  go_frame
  refine wpList_nil ?_
  go_upto_region 3 with (fail)
  refine wp_region_lit ?_
  refine ls_ex (some 8) (.agg #[.int .i64 p, .int .i64 n, .int .i64 m, .int .i64 k, .slice A qs.length c]) rfl rfl (exec_load_all 30 _ rfl w.heap.size rfl _ _ _ hz5 Try.underlying30 rfl 5 (by kernel_rfl) rfl) ?_
  go_frame
  refine ls_op rfl (fun K' hK' => ?_)
  have lz12 := hB.size
  have lz13 := hz5.lt
  refine wp_call1 (some 9) rfl 35 _ _ rfl (fun args w => by kernel_rfl) _ rfl _ (canRepeat_c p n m k A qs.length c _) (fun e Wz10 h => ?_)
  obtain ⟨rfl, bz11⟩ := h
  replace hB := below_after hB bz11
  replace hz5 := hz5.after bz11
  rw [Hq.out]
  clear bz11
  refine ⟨_, rfl, ?_⟩
  refine hK' _ _ ?_
  clear hK' K'
  go_frame
  refine ls_ex (some 10) (.bool true) rfl rfl (exec_not _ _ rfl false rfl) ?_
  go_frame
  refine ls_ex (some 11) (.bool true) rfl rfl (exec_move _ rfl (.bool true) rfl) ?_
  go_frame
  refine ls_skip_g (some 12) rfl rfl ?_
  go_frame
  refine ls_skip_g (some 13) rfl rfl ?_
  go_frame
  refine ls_ex (some 14) (.bool true) rfl rfl (exec_pick _ _ _ rfl true rfl (.bool true) rfl) ?_
  go_frame
  refine wpList_nil ?_
  go_upto_region 4 with (fail)
  refine wp_region_lit ?_
  refine ls_ex (some 4) (.int .i64 2) rfl rfl (exec_assign _ rfl (.int .i64 2) rfl) ?_
  go_frame
  refine wpList_nil ?_
  go_wp2_with fail
  go_ret
  exact ⟨by rw [Hr.out]; rfl, hB⟩
set_option maxHeartbeats 4000000 in
theorem checkRep_c (p n m k : Int) (A : Option Addr) (c : Nat) (qs : List (List Nat)) (w : World) (hR : Rd w A qs) (hlen : qs.length ≤ 1048576) (hs : schemeB p n m k qs = true) (hq : sqB n m k = true) :
    Calls Try.prog 22 #[.agg #[.int .i64 p, .int .i64 n, .int .i64 m, .int .i64 k, .slice A qs.length c], .bool false] w (fun e w' => e = .returned (.int .i64 (sqCode p n m k qs false)) ∧ Below w.heap.size w w') := by
  have hB := Below.refl w.heap.size w
  have HIs := Lib.hid (fun w hr => implIsScheme_c p n m k A c qs w hr hlen)
  have Hs := Lib.hid hs
  have Hq := Lib.hid hq
  have Hr : Hid (sqCode p n m k qs false = 2) := Lib.hid (by simp [sqCode, hs, hq])
  clear hs hq
  go_enter Try.func22, Try.ntmps22
  go_upto_region 0 with (fail)
  refine wp_region_lit ?_
  refine ls_op rfl (fun K' hK' => ?_)
  have lz1 := hB.size
  refine wp_new (some 2) rfl (exec_box 30 _ rfl (#[.int .i64 p, .int .i64 n, .int .i64 m, .int .i64 k, .slice A qs.length c]) rfl) (fun Wz2 nnz3 => ?_)
  have bz4 := nnz3.below (Below.refl _ _) (Nat.le_refl _)
  replace hB := below_after hB bz4
  have hz5 : At Wz2 w.heap.size (.cells #[.int .i64 p, .int .i64 n, .int .i64 m, .int .i64 k, .slice A qs.length c] 30 (0, 0)) := nnz3.at_
  refine hK' _ _ ?_
  clear hK' K' nnz3 bz4
  go_frame
  refine ls_ex (some 4) (.int .i64 0) rfl rfl (exec_assign _ rfl (.int .i64 0) rfl) ?_
  go_frame
  refine wpList_nil ?_
  go_upto_region 1 with (fail)
  refine wp_region_lit ?_
  refine ls_ex (some 5) (.agg #[.int .i64 p, .int .i64 n, .int .i64 m, .int .i64 k, .slice A qs.length c]) rfl rfl (exec_load_all 30 _ rfl w.heap.size rfl _ _ _ hz5 Try.underlying30 rfl 5 (by kernel_rfl) rfl) ?_
  go_frame
  refine ls_op rfl (fun K' hK' => ?_)
  have lz8 := hB.size
  have lz9 := hz5.lt
  refine wp_call1 (some 6) rfl 34 _ _ rfl (fun args w => by kernel_rfl) _ rfl _ (HIs.out _ (hR.keep hB)) (fun e Wz6 h => ?_)
  obtain ⟨rfl, bz7⟩ := h
  replace hB := below_after hB bz7
  replace hz5 := hz5.after bz7
  rw [Hs.out]
  clear bz7
  refine ⟨_, rfl, ?_⟩
  refine hK' _ _ ?_
  clear hK' K'
  go_frame
  refine ls_ex (some 7) (.bool false) rfl rfl (exec_not _ _ rfl true rfl) ?_
  go_frame
  refine wpList_nil ?_
  go_upto_region 3 with (fail)
  refine wp_region_lit ?_
  refine ls_ex (some 8) (.agg #[.int .i64 p, .int .i64 n, .int .i64 m, .int .i64 k, .slice A qs.length c]) rfl rfl (exec_load_all 30 _ rfl w.heap.size rfl _ _ _ hz5 Try.underlying30 rfl 5 (by kernel_rfl) rfl) ?_
  go_frame
  refine ls_op rfl (fun K' hK' => ?_)
  have lz12 := hB.size
  have lz13 := hz5.lt
  refine wp_call1 (some 9) rfl 35 _ _ rfl (fun args w => by kernel_rfl) _ rfl _ (canRepeat_c p n m k A qs.length c _) (fun e Wz10 h => ?_)
  obtain ⟨rfl, bz11⟩ := h
  replace hB := below_after hB bz11
  replace hz5 := hz5.after bz11
  rw [Hq.out]
  clear bz11
  refine ⟨_, rfl, ?_⟩
  refine hK' _ _ ?_
  clear hK' K'
  go_frame
  refine ls_ex (some 10) (.bool false) rfl rfl (exec_not _ _ rfl true rfl) ?_
  go_frame
  refine ls_ex (some 11) (.bool false) rfl rfl (exec_move _ rfl (.bool false) rfl) ?_
  go_frame
  refine ls_ex_g (some 12) (.bool false) rfl rfl (exec_move _ rfl (.bool false) rfl) ?_
  go_frame
  refine ls_ex_g (some 13) (.bool true) rfl rfl (exec_not _ _ rfl false rfl) ?_
  go_frame
  refine ls_ex (some 14) (.bool true) rfl rfl (exec_pick _ _ _ rfl false rfl (.bool true) rfl) ?_
  go_frame
  refine wpList_nil ?_
  go_upto_region 4 with (fail)
  refine wp_region_lit ?_
  refine ls_ex (some 4) (.int .i64 2) rfl rfl (exec_assign _ rfl (.int .i64 2) rfl) ?_
  go_frame
  refine wpList_nil ?_
  go_wp2_with fail
  go_ret
  exact ⟨by rw [Hr.out]; rfl, hB⟩
set_option maxHeartbeats 4000000 in
theorem checkRep_d (p n m k : Int) (A : Option Addr) (c : Nat) (qs : List (List Nat)) (w : World) (hR : Rd w A qs) (hlen : qs.length ≤ 1048576) (hs : schemeB p n m k qs = true) (hq : sqB n m k = true) :
    Calls Try.prog 22 #[.agg #[.int .i64 p, .int .i64 n, .int .i64 m, .int .i64 k, .slice A qs.length c], .bool true] w (fun e w' => e = .returned (.int .i64 (sqCode p n m k qs true)) ∧ Below w.heap.size w w') := by
  have hB := Below.refl w.heap.size w
  have HIs := Lib.hid (fun w hr => implIsScheme_c p n m k A c qs w hr hlen)
  have Hs := Lib.hid hs
  have Hq := Lib.hid hq
  have Hr : Hid (sqCode p n m k qs true = 0) := Lib.hid (by simp [sqCode, hs, hq])
  clear hs hq
  go_enter Try.func22, Try.ntmps22
  go_upto_region 0 with (fail)
  refine wp_region_lit ?_
  refine ls_op rfl (fun K' hK' => ?_)
  have lz1 := hB.size
  refine wp_new (some 2) rfl (exec_box 30 _ rfl (#[.int .i64 p, .int .i64 n, .int .i64 m, .int .i64 k, .slice A qs.length c]) rfl) (fun Wz2 nnz3 => ?_)
  have bz4 := nnz3.below (Below.refl _ _) (Nat.le_refl _)
  replace hB := below_after hB bz4
  have hz5 : At Wz2 w.heap.size (.cells #[.int .i64 p, .int .i64 n, .int .i64 m, .int .i64 k, .slice A qs.length c] 30 (0, 0)) := nnz3.at_
  refine hK' _ _ ?_
  clear hK' K' nnz3 bz4
  go_frame
  refine ls_ex (some 4) (.int .i64 0) rfl rfl (exec_assign _ rfl (.int .i64 0) rfl) ?_
  go_frame
  refine wpList_nil ?_
  go_upto_region 1 with (fail)
  refine wp_region_lit ?_
  refine ls_ex (some 5) (.agg #[.int .i64 p, .int .i64 n, .int .i64 m, .int .i64 k, .slice A qs.length c]) rfl rfl (exec_load_all 30 _ rfl w.heap.size rfl _ _ _ hz5 Try.underlying30 rfl 5 (by kernel_rfl) rfl) ?_
  go_frame
  refine ls_op rfl (fun K' hK' => ?_)
  have lz8 := hB.size
  have lz9 := hz5.lt
  refine wp_call1 (some 6) rfl 34 _ _ rfl (fun args w => by kernel_rfl) _ rfl _ (HIs.out _ (hR.keep hB)) (fun e Wz6 h => ?_)
  obtain ⟨rfl, bz7⟩ := h
  replace hB := below_after hB bz7
  replace hz5 := hz5.after bz7
  rw [Hs.out]
  clear bz7
  refine ⟨_, rfl, ?_⟩
  refine hK' _ _ ?_
  clear hK' K'
  go_frame
  refine ls_ex (some 7) (.bool false) rfl rfl (exec_not _ _ rfl true rfl) ?_
  go_frame
  refine wpList_nil ?_
  go_upto_region 3 with (fail)
  refine wp_region_lit ?_
  refine ls_ex (some 8) (.agg #[.int .i64 p, .int .i64 n, .int .i64 m, .int .i64 k, .slice A qs.length c]) rfl rfl (exec_load_all 30 _ rfl w.heap.size rfl _ _ _ hz5 Try.underlying30 rfl 5 (by kernel_rfl) rfl) ?_
  go_frame
  refine ls_op rfl (fun K' hK' => ?_)
  have lz12 := hB.size
  have lz13 := hz5.lt
  refine wp_call1 (some 9) rfl 35 _ _ rfl (fun args w => by kernel_rfl) _ rfl _ (canRepeat_c p n m k A qs.length c _) (fun e Wz10 h => ?_)
  obtain ⟨rfl, bz11⟩ := h
  replace hB := below_after hB bz11
  replace hz5 := hz5.after bz11
  rw [Hq.out]
  clear bz11
  refine ⟨_, rfl, ?_⟩
  refine hK' _ _ ?_
  clear hK' K'
  go_frame
  refine ls_ex (some 10) (.bool false) rfl rfl (exec_not _ _ rfl true rfl) ?_
  go_frame
  refine ls_ex (some 11) (.bool false) rfl rfl (exec_move _ rfl (.bool false) rfl) ?_
  go_frame
  refine ls_ex_g (some 12) (.bool true) rfl rfl (exec_move _ rfl (.bool true) rfl) ?_
  go_frame
  refine ls_ex_g (some 13) (.bool false) rfl rfl (exec_not _ _ rfl true rfl) ?_
  go_frame
  refine ls_ex (some 14) (.bool false) rfl rfl (exec_pick _ _ _ rfl false rfl (.bool false) rfl) ?_
  go_frame
  refine wpList_nil ?_
  go_upto_region 5 with (fail)
  refine wp_region_lit ?_
  refine ls_ex (some 4) (.int .i64 0) rfl rfl (exec_assign _ rfl (.int .i64 0) rfl) ?_
  go_frame
  refine wpList_nil ?_
  go_wp2_with fail
  go_ret
  exact ⟨by rw [Hr.out]; rfl, hB⟩
theorem checkRepeated_c (p n m k : Int) (A : Option Addr) (c : Nat) (qs : List (List Nat)) (b : Bool) (w : World) (hR : Rd w A qs) (hlen : qs.length ≤ 1048576) : Calls Try.prog 22 #[.agg #[.int .i64 p, .int .i64 n, .int .i64 m, .int .i64 k, .slice A qs.length c], .bool b] w (fun e w' => e = .returned (.int .i64 (sqCode p n m k qs b)) ∧ Below w.heap.size w w') := by
  cases hs : schemeB p n m k qs with
  | false => exact checkRep_a p n m k A c qs w hR hlen b hs
  | true =>
    cases hq : sqB n m k with
    | false => exact checkRep_b p n m k A c qs w hR hlen b hs hq
    | true =>
      cases b with
      | false => exact checkRep_c p n m k A c qs w hR hlen hs hq
      | true => exact checkRep_d p n m k A c qs w hR hlen hs hq
set_option maxHeartbeats 4000000 in
theorem square_a (p n m k : Int) (A : Option Addr) (c : Nat) (qs : List (List Nat)) (w : World) (hR : Rd w A qs) (hlen : qs.length ≤ 1048576) (hs : schemeB p n m k qs = false) :
    Calls Try.prog 29 #[.agg #[.int .i64 p, .int .i64 n, .int .i64 m, .int .i64 k, .slice A qs.length c]] w (fun e w' => e = .returned (.int .i64 (sqCode p n m k qs true)) ∧ Below w.heap.size w w') := by
  have hB := Below.refl w.heap.size w
  have HIs := Lib.hid (fun w hr => l01Is_c p n m k A c qs w hr hlen)
  have Hs := Lib.hid hs
  have Hr : Hid (sqCode p n m k qs true = 1) := Lib.hid (by simp [sqCode, hs])
  clear hs
  go_enter Try.func29, Try.ntmps29
  go_upto_region 0 with (fail)
  refine wp_region_lit ?_
  refine ls_op rfl (fun K' hK' => ?_)
  have lz1 := hB.size
  refine wp_new (some 1) rfl (exec_box 30 _ rfl (#[.int .i64 p, .int .i64 n, .int .i64 m, .int .i64 k, .slice A qs.length c]) rfl) (fun Wz2 nnz3 => ?_)
  have bz4 := nnz3.below (Below.refl _ _) (Nat.le_refl _)
  replace hB := below_after hB bz4
  have hz5 : At Wz2 w.heap.size (.cells #[.int .i64 p, .int .i64 n, .int .i64 m, .int .i64 k, .slice A qs.length c] 30 (0, 0)) := nnz3.at_
  refine hK' _ _ ?_
  clear hK' K' nnz3 bz4
  go_frame
  refine ls_ex (some 2) (.int .i64 0) rfl rfl (exec_assign _ rfl (.int .i64 0) rfl) ?_
  go_frame
  refine wpList_nil ?_
  go_upto_region 1 with (fail)
  refine wp_region_lit ?_
  refine ls_ex (some 4) (.agg #[.int .i64 p, .int .i64 n, .int .i64 m, .int .i64 k, .slice A qs.length c]) rfl rfl (exec_load_all 30 _ rfl w.heap.size rfl _ _ _ hz5 Try.underlying30 rfl 5 (by kernel_rfl) rfl) ?_
  go_frame
  refine ls_op rfl (fun K' hK' => ?_)
  have lz8 := hB.size
  have lz9 := hz5.lt
  refine wp_call1 (some 5) rfl 45 _ _ rfl (fun args w => by kernel_rfl) _ rfl _ (HIs.out _ (hR.keep hB)) (fun e Wz6 h => ?_)
  obtain ⟨rfl, bz7⟩ := h
  replace hB := below_after hB bz7
  replace hz5 := hz5.after bz7
  rw [Hs.out]
  clear bz7
  refine ⟨_, rfl, ?_⟩
  refine hK' _ _ ?_
  clear hK' K'
  go_frame
  refine ls_ex (some 6) (.bool true) rfl rfl (exec_not _ _ rfl false rfl) ?_
  go_frame
  refine ls_ex (some 3) (.bool true) rfl rfl (exec_assign _ rfl (.bool true) rfl) ?_
  go_frame
  refine wpList_nil ?_
  go_upto_region 2 with (fail)
  refine wp_region_lit ?_
  refine ls_ex (some 2) (.int .i64 1) rfl rfl (exec_assign _ rfl (.int .i64 1) rfl) ?_
  go_frame
  refine wpList_nil ?_
  go_wp2_with fail
  go_ret
  exact ⟨by rw [Hr.out]; rfl, hB⟩
set_option maxHeartbeats 4000000 in
theorem square_b (p n m k : Int) (A : Option Addr) (c : Nat) (qs : List (List Nat)) (w : World) (hR : Rd w A qs) (hlen : qs.length ≤ 1048576) (hs : schemeB p n m k qs = true) (h : n < 2) :
    Calls Try.prog 29 #[.agg #[.int .i64 p, .int .i64 n, .int .i64 m, .int .i64 k, .slice A qs.length c]] w (fun e w' => e = .returned (.int .i64 (sqCode p n m k qs true)) ∧ Below w.heap.size w w') := by
  have hB := Below.refl w.heap.size w
  have HIs := Lib.hid (fun w hr => l01Is_c p n m k A c qs w hr hlen)
  have Hs := Lib.hid hs
  have Hr : Hid (sqCode p n m k qs true = 2) := Lib.hid (by simp [sqCode, hs, sqB]; omega)
  clear hs
  go_enter Try.func29, Try.ntmps29
  go_upto_region 0 with (fail)
  refine wp_region_lit ?_
  refine ls_op rfl (fun K' hK' => ?_)
  have lz1 := hB.size
  refine wp_new (some 1) rfl (exec_box 30 _ rfl (#[.int .i64 p, .int .i64 n, .int .i64 m, .int .i64 k, .slice A qs.length c]) rfl) (fun Wz2 nnz3 => ?_)
  have bz4 := nnz3.below (Below.refl _ _) (Nat.le_refl _)
  replace hB := below_after hB bz4
  have hz5 : At Wz2 w.heap.size (.cells #[.int .i64 p, .int .i64 n, .int .i64 m, .int .i64 k, .slice A qs.length c] 30 (0, 0)) := nnz3.at_
  refine hK' _ _ ?_
  clear hK' K' nnz3 bz4
  go_frame
  refine ls_ex (some 2) (.int .i64 0) rfl rfl (exec_assign _ rfl (.int .i64 0) rfl) ?_
  go_frame
  refine wpList_nil ?_
  go_upto_region 1 with (fail)
  refine wp_region_lit ?_
  refine ls_ex (some 4) (.agg #[.int .i64 p, .int .i64 n, .int .i64 m, .int .i64 k, .slice A qs.length c]) rfl rfl (exec_load_all 30 _ rfl w.heap.size rfl _ _ _ hz5 Try.underlying30 rfl 5 (by kernel_rfl) rfl) ?_
  go_frame
  refine ls_op rfl (fun K' hK' => ?_)
  have lz8 := hB.size
  have lz9 := hz5.lt
  refine wp_call1 (some 5) rfl 45 _ _ rfl (fun args w => by kernel_rfl) _ rfl _ (HIs.out _ (hR.keep hB)) (fun e Wz6 h => ?_)
  obtain ⟨rfl, bz7⟩ := h
  replace hB := below_after hB bz7
  replace hz5 := hz5.after bz7
  rw [Hs.out]
  clear bz7
  refine ⟨_, rfl, ?_⟩
  refine hK' _ _ ?_
  clear hK' K'
  go_frame
  refine ls_ex (some 6) (.bool false) rfl rfl (exec_not _ _ rfl true rfl) ?_
  go_frame
  refine ls_ex (some 3) (.bool false) rfl rfl (exec_assign _ rfl (.bool false) rfl) ?_
  go_frame
  refine wpList_nil ?_
  go_upto_region 3 with (fail)
  refine wp_region_lit ?_
  refine ls_ex (some 8) (.pointer (some ⟨w.heap.size, 1, none⟩)) rfl rfl (exec_fieldAddr 30 _ 1 rfl _ (by kernel_rfl)) ?_
  go_frame
  refine ls_ex (some 9) (.int .i64 n) rfl rfl (exec_load_one 2 _ rfl w.heap.size 1 rfl (.int .i64 n) _ Try.underlying2 rfl (hz5.at_ 1)) ?_
  go_frame
  refine ls_ex (some 10) (.bool true) rfl rfl (exec_lss _ _ _ _ rfl n 2 rfl rfl true (decide_eq_true (by omega))) ?_
  go_frame
  refine ls_ex (some 11) (.bool true) rfl rfl (exec_move _ rfl (.bool true) rfl) ?_
  go_frame
  refine ls_skip_g (some 12) rfl rfl ?_
  go_frame
  refine ls_skip_g (some 13) rfl rfl ?_
  go_frame
  refine ls_skip_g (some 14) rfl rfl ?_
  go_frame
  refine ls_skip_g (some 15) rfl rfl ?_
  go_frame
  refine ls_skip_g (some 16) rfl rfl ?_
  go_frame
  refine ls_ex (some 17) (.bool true) rfl rfl (exec_pick _ _ _ rfl true rfl (.bool true) rfl) ?_
  go_frame
  refine ls_ex (some 18) (.bool true) rfl rfl (exec_move _ rfl (.bool true) rfl) ?_
  go_frame
  refine ls_skip_g (some 19) rfl rfl ?_
  go_frame
  refine ls_skip_g (some 20) rfl rfl ?_
  go_frame
  refine ls_skip_g (some 21) rfl rfl ?_
  go_frame
  refine ls_skip_g (some 22) rfl rfl ?_
  go_frame
  refine ls_skip_g (some 23) rfl rfl ?_
  go_frame
  refine ls_ex (some 24) (.bool true) rfl rfl (exec_pick _ _ _ rfl true rfl (.bool true) rfl) ?_
  go_frame
  refine ls_ex (some 7) (.bool true) rfl rfl (exec_assign _ rfl (.bool true) rfl) ?_
  go_frame
  refine wpList_nil ?_
  go_upto_region 4 with (fail)
  refine wp_region_lit ?_
  refine ls_ex (some 2) (.int .i64 2) rfl rfl (exec_assign _ rfl (.int .i64 2) rfl) ?_
  go_frame
  refine wpList_nil ?_
  go_wp2_with fail
  go_ret
  exact ⟨by rw [Hr.out]; rfl, hB⟩
set_option maxHeartbeats 4000000 in
theorem square_c (p n m k : Int) (A : Option Addr) (c : Nat) (qs : List (List Nat)) (w : World) (hR : Rd w A qs) (hlen : qs.length ≤ 1048576) (hs : schemeB p n m k qs = true) (h : 2 ≤ n) (hm : (m != n) = true) :
    Calls Try.prog 29 #[.agg #[.int .i64 p, .int .i64 n, .int .i64 m, .int .i64 k, .slice A qs.length c]] w (fun e w' => e = .returned (.int .i64 (sqCode p n m k qs true)) ∧ Below w.heap.size w w') := by
  have hB := Below.refl w.heap.size w
  have HIs := Lib.hid (fun w hr => l01Is_c p n m k A c qs w hr hlen)
  have Hs := Lib.hid hs
  have Hm := Lib.hid hm
  have Hr : Hid (sqCode p n m k qs true = 2) := Lib.hid (by unfold sqCode; rw [if_pos hs]; have hm2 : (m == n) = false := (by simpa using hm); simp [sqB, hm2])
  clear hs hm
  go_enter Try.func29, Try.ntmps29
  go_upto_region 0 with (fail)
  refine wp_region_lit ?_
  refine ls_op rfl (fun K' hK' => ?_)
  have lz1 := hB.size
  refine wp_new (some 1) rfl (exec_box 30 _ rfl (#[.int .i64 p, .int .i64 n, .int .i64 m, .int .i64 k, .slice A qs.length c]) rfl) (fun Wz2 nnz3 => ?_)
  have bz4 := nnz3.below (Below.refl _ _) (Nat.le_refl _)
  replace hB := below_after hB bz4
  have hz5 : At Wz2 w.heap.size (.cells #[.int .i64 p, .int .i64 n, .int .i64 m, .int .i64 k, .slice A qs.length c] 30 (0, 0)) := nnz3.at_
  refine hK' _ _ ?_
  clear hK' K' nnz3 bz4
  go_frame
  refine ls_ex (some 2) (.int .i64 0) rfl rfl (exec_assign _ rfl (.int .i64 0) rfl) ?_
  go_frame
  refine wpList_nil ?_
  go_upto_region 1 with (fail)
  refine wp_region_lit ?_
  refine ls_ex (some 4) (.agg #[.int .i64 p, .int .i64 n, .int .i64 m, .int .i64 k, .slice A qs.length c]) rfl rfl (exec_load_all 30 _ rfl w.heap.size rfl _ _ _ hz5 Try.underlying30 rfl 5 (by kernel_rfl) rfl) ?_
  go_frame
  refine ls_op rfl (fun K' hK' => ?_)
  have lz8 := hB.size
  have lz9 := hz5.lt
  refine wp_call1 (some 5) rfl 45 _ _ rfl (fun args w => by kernel_rfl) _ rfl _ (HIs.out _ (hR.keep hB)) (fun e Wz6 h => ?_)
  obtain ⟨rfl, bz7⟩ := h
  replace hB := below_after hB bz7
  replace hz5 := hz5.after bz7
  rw [Hs.out]
  clear bz7
  refine ⟨_, rfl, ?_⟩
  refine hK' _ _ ?_
  clear hK' K'
  go_frame
  refine ls_ex (some 6) (.bool false) rfl rfl (exec_not _ _ rfl true rfl) ?_
  go_frame
  refine ls_ex (some 3) (.bool false) rfl rfl (exec_assign _ rfl (.bool false) rfl) ?_
  go_frame
  refine wpList_nil ?_
  go_upto_region 3 with (fail)
  refine wp_region_lit ?_
  refine ls_ex (some 8) (.pointer (some ⟨w.heap.size, 1, none⟩)) rfl rfl (exec_fieldAddr 30 _ 1 rfl _ (by kernel_rfl)) ?_
  go_frame
  refine ls_ex (some 9) (.int .i64 n) rfl rfl (exec_load_one 2 _ rfl w.heap.size 1 rfl (.int .i64 n) _ Try.underlying2 rfl (hz5.at_ 1)) ?_
  go_frame
  refine ls_ex (some 10) (.bool false) rfl rfl (exec_lss _ _ _ _ rfl n 2 rfl rfl false (decide_eq_false (by omega))) ?_
  go_frame
  refine ls_ex (some 11) (.bool false) rfl rfl (exec_move _ rfl (.bool false) rfl) ?_
  go_frame
  refine ls_ex_g (some 12) (.pointer (some ⟨w.heap.size, 2, none⟩)) rfl rfl (exec_fieldAddr 30 _ 2 rfl _ (by kernel_rfl)) ?_
  go_frame
  refine ls_ex_g (some 13) (.int .i64 m) rfl rfl (exec_load_one 2 _ rfl w.heap.size 2 rfl (.int .i64 m) _ Try.underlying2 rfl (hz5.at_ 2)) ?_
  go_frame
  refine ls_ex_g (some 14) (.pointer (some ⟨w.heap.size, 1, none⟩)) rfl rfl (exec_fieldAddr 30 _ 1 rfl _ (by kernel_rfl)) ?_
  go_frame
  refine ls_ex_g (some 15) (.int .i64 n) rfl rfl (exec_load_one 2 _ rfl w.heap.size 1 rfl (.int .i64 n) _ Try.underlying2 rfl (hz5.at_ 1)) ?_
  go_frame
  refine ls_ex_g (some 16) (.bool true) rfl rfl (exec_neq _ _ _ _ rfl m n rfl rfl true Hm.out) ?_
  go_frame
  refine ls_ex (some 17) (.bool true) rfl rfl (exec_pick _ _ _ rfl false rfl (.bool true) rfl) ?_
  go_frame
  refine ls_ex (some 18) (.bool true) rfl rfl (exec_move _ rfl (.bool true) rfl) ?_
  go_frame
  refine ls_skip_g (some 19) rfl rfl ?_
  go_frame
  refine ls_skip_g (some 20) rfl rfl ?_
  go_frame
  refine ls_skip_g (some 21) rfl rfl ?_
  go_frame
  refine ls_skip_g (some 22) rfl rfl ?_
  go_frame
  refine ls_skip_g (some 23) rfl rfl ?_
  go_frame
  refine ls_ex (some 24) (.bool true) rfl rfl (exec_pick _ _ _ rfl true rfl (.bool true) rfl) ?_
  go_frame
  refine ls_ex (some 7) (.bool true) rfl rfl (exec_assign _ rfl (.bool true) rfl) ?_
  go_frame
  refine wpList_nil ?_
  go_upto_region 4 with (fail)
  refine wp_region_lit ?_
  refine ls_ex (some 2) (.int .i64 2) rfl rfl (exec_assign _ rfl (.int .i64 2) rfl) ?_
  go_frame
  refine wpList_nil ?_
  go_wp2_with fail
  go_ret
  exact ⟨by rw [Hr.out]; rfl, hB⟩
set_option maxHeartbeats 4000000 in
theorem square_d (p n m k : Int) (A : Option Addr) (c : Nat) (qs : List (List Nat)) (w : World) (hR : Rd w A qs) (hlen : qs.length ≤ 1048576) (hs : schemeB p n m k qs = true) (h : 2 ≤ n) (hm : (m != n) = false) (hk : (k != n) = true) :
    Calls Try.prog 29 #[.agg #[.int .i64 p, .int .i64 n, .int .i64 m, .int .i64 k, .slice A qs.length c]] w (fun e w' => e = .returned (.int .i64 (sqCode p n m k qs true)) ∧ Below w.heap.size w w') := by
  have hB := Below.refl w.heap.size w
  have HIs := Lib.hid (fun w hr => l01Is_c p n m k A c qs w hr hlen)
  have Hs := Lib.hid hs
  have Hm := Lib.hid hm
  have Hk := Lib.hid hk
  have Hr : Hid (sqCode p n m k qs true = 2) := Lib.hid (by unfold sqCode; rw [if_pos hs]; have hk2 : (k == n) = false := (by simpa using hk); simp [sqB, hk2])
  clear hs hm hk
  go_enter Try.func29, Try.ntmps29
  go_upto_region 0 with (fail)
  refine wp_region_lit ?_
  refine ls_op rfl (fun K' hK' => ?_)
  have lz1 := hB.size
  refine wp_new (some 1) rfl (exec_box 30 _ rfl (#[.int .i64 p, .int .i64 n, .int .i64 m, .int .i64 k, .slice A qs.length c]) rfl) (fun Wz2 nnz3 => ?_)
  have bz4 := nnz3.below (Below.refl _ _) (Nat.le_refl _)
  replace hB := below_after hB bz4
  have hz5 : At Wz2 w.heap.size (.cells #[.int .i64 p, .int .i64 n, .int .i64 m, .int .i64 k, .slice A qs.length c] 30 (0, 0)) := nnz3.at_
  refine hK' _ _ ?_
  clear hK' K' nnz3 bz4
  go_frame
  refine ls_ex (some 2) (.int .i64 0) rfl rfl (exec_assign _ rfl (.int .i64 0) rfl) ?_
  go_frame
  refine wpList_nil ?_
  go_upto_region 1 with (fail)
  refine wp_region_lit ?_
  refine ls_ex (some 4) (.agg #[.int .i64 p, .int .i64 n, .int .i64 m, .int .i64 k, .slice A qs.length c]) rfl rfl (exec_load_all 30 _ rfl w.heap.size rfl _ _ _ hz5 Try.underlying30 rfl 5 (by kernel_rfl) rfl) ?_
  go_frame
  refine ls_op rfl (fun K' hK' => ?_)
  have lz8 := hB.size
  have lz9 := hz5.lt
  refine wp_call1 (some 5) rfl 45 _ _ rfl (fun args w => by kernel_rfl) _ rfl _ (HIs.out _ (hR.keep hB)) (fun e Wz6 h => ?_)
  obtain ⟨rfl, bz7⟩ := h
  replace hB := below_after hB bz7
  replace hz5 := hz5.after bz7
  rw [Hs.out]
  clear bz7
  refine ⟨_, rfl, ?_⟩
  refine hK' _ _ ?_
  clear hK' K'
  go_frame
  refine ls_ex (some 6) (.bool false) rfl rfl (exec_not _ _ rfl true rfl) ?_
  go_frame
  refine ls_ex (some 3) (.bool false) rfl rfl (exec_assign _ rfl (.bool false) rfl) ?_
  go_frame
  refine wpList_nil ?_
  go_upto_region 3 with (fail)
  refine wp_region_lit ?_
  refine ls_ex (some 8) (.pointer (some ⟨w.heap.size, 1, none⟩)) rfl rfl (exec_fieldAddr 30 _ 1 rfl _ (by kernel_rfl)) ?_
  go_frame
  refine ls_ex (some 9) (.int .i64 n) rfl rfl (exec_load_one 2 _ rfl w.heap.size 1 rfl (.int .i64 n) _ Try.underlying2 rfl (hz5.at_ 1)) ?_
  go_frame
  refine ls_ex (some 10) (.bool false) rfl rfl (exec_lss _ _ _ _ rfl n 2 rfl rfl false (decide_eq_false (by omega))) ?_
  go_frame
  refine ls_ex (some 11) (.bool false) rfl rfl (exec_move _ rfl (.bool false) rfl) ?_
  go_frame
  refine ls_ex_g (some 12) (.pointer (some ⟨w.heap.size, 2, none⟩)) rfl rfl (exec_fieldAddr 30 _ 2 rfl _ (by kernel_rfl)) ?_
  go_frame
  refine ls_ex_g (some 13) (.int .i64 m) rfl rfl (exec_load_one 2 _ rfl w.heap.size 2 rfl (.int .i64 m) _ Try.underlying2 rfl (hz5.at_ 2)) ?_
  go_frame
  refine ls_ex_g (some 14) (.pointer (some ⟨w.heap.size, 1, none⟩)) rfl rfl (exec_fieldAddr 30 _ 1 rfl _ (by kernel_rfl)) ?_
  go_frame
  refine ls_ex_g (some 15) (.int .i64 n) rfl rfl (exec_load_one 2 _ rfl w.heap.size 1 rfl (.int .i64 n) _ Try.underlying2 rfl (hz5.at_ 1)) ?_
  go_frame
  refine ls_ex_g (some 16) (.bool false) rfl rfl (exec_neq _ _ _ _ rfl m n rfl rfl false Hm.out) ?_
  go_frame
  refine ls_ex (some 17) (.bool false) rfl rfl (exec_pick _ _ _ rfl false rfl (.bool false) rfl) ?_
  go_frame
  refine ls_ex (some 18) (.bool false) rfl rfl (exec_move _ rfl (.bool false) rfl) ?_
  go_frame
  refine ls_ex_g (some 19) (.pointer (some ⟨w.heap.size, 3, none⟩)) rfl rfl (exec_fieldAddr 30 _ 3 rfl _ (by kernel_rfl)) ?_
  go_frame
  refine ls_ex_g (some 20) (.int .i64 k) rfl rfl (exec_load_one 2 _ rfl w.heap.size 3 rfl (.int .i64 k) _ Try.underlying2 rfl (hz5.at_ 3)) ?_
  go_frame
  refine ls_ex_g (some 21) (.pointer (some ⟨w.heap.size, 1, none⟩)) rfl rfl (exec_fieldAddr 30 _ 1 rfl _ (by kernel_rfl)) ?_
  go_frame
  refine ls_ex_g (some 22) (.int .i64 n) rfl rfl (exec_load_one 2 _ rfl w.heap.size 1 rfl (.int .i64 n) _ Try.underlying2 rfl (hz5.at_ 1)) ?_
  go_frame
  refine ls_ex_g (some 23) (.bool true) rfl rfl (exec_neq _ _ _ _ rfl k n rfl rfl true Hk.out) ?_
  go_frame
  refine ls_ex (some 24) (.bool true) rfl rfl (exec_pick _ _ _ rfl false rfl (.bool true) rfl) ?_
  go_frame
  refine ls_ex (some 7) (.bool true) rfl rfl (exec_assign _ rfl (.bool true) rfl) ?_
  go_frame
  refine wpList_nil ?_
  go_upto_region 4 with (fail)
  refine wp_region_lit ?_
  refine ls_ex (some 2) (.int .i64 2) rfl rfl (exec_assign _ rfl (.int .i64 2) rfl) ?_
  go_frame
  refine wpList_nil ?_
  go_wp2_with fail
  go_ret
  exact ⟨by rw [Hr.out]; rfl, hB⟩
set_option maxHeartbeats 4000000 in
theorem square_e (p n m k : Int) (A : Option Addr) (c : Nat) (qs : List (List Nat)) (w : World) (hR : Rd w A qs) (hlen : qs.length ≤ 1048576) (hs : schemeB p n m k qs = true) (h : 2 ≤ n) (hm : (m != n) = false) (hk : (k != n) = false) :
    Calls Try.prog 29 #[.agg #[.int .i64 p, .int .i64 n, .int .i64 m, .int .i64 k, .slice A qs.length c]] w (fun e w' => e = .returned (.int .i64 (sqCode p n m k qs true)) ∧ Below w.heap.size w w') := by
  have hB := Below.refl w.heap.size w
  have HIs := Lib.hid (fun w hr => l01Is_c p n m k A c qs w hr hlen)
  have Hs := Lib.hid hs
  have Hm := Lib.hid hm
  have Hk := Lib.hid hk
  have Hr : Hid (sqCode p n m k qs true = 0) := Lib.hid (by unfold sqCode; rw [if_pos hs]; have hm2 : (m == n) = true := (by simpa using hm); have hk2 : (k == n) = true := (by simpa using hk); simp [sqB, hm2, hk2]; omega)
  clear hs hm hk
  go_enter Try.func29, Try.ntmps29
  go_upto_region 0 with (fail)
  refine wp_region_lit ?_
  refine ls_op rfl (fun K' hK' => ?_)
  have lz1 := hB.size
  refine wp_new (some 1) rfl (exec_box 30 _ rfl (#[.int .i64 p, .int .i64 n, .int .i64 m, .int .i64 k, .slice A qs.length c]) rfl) (fun Wz2 nnz3 => ?_)
  have bz4 := nnz3.below (Below.refl _ _) (Nat.le_refl _)
  replace hB := below_after hB bz4
  have hz5 : At Wz2 w.heap.size (.cells #[.int .i64 p, .int .i64 n, .int .i64 m, .int .i64 k, .slice A qs.length c] 30 (0, 0)) := nnz3.at_
  refine hK' _ _ ?_
  clear hK' K' nnz3 bz4
  go_frame
  refine ls_ex (some 2) (.int .i64 0) rfl rfl (exec_assign _ rfl (.int .i64 0) rfl) ?_
  go_frame
  refine wpList_nil ?_
  go_upto_region 1 with (fail)
  refine wp_region_lit ?_
  refine ls_ex (some 4) (.agg #[.int .i64 p, .int .i64 n, .int .i64 m, .int .i64 k, .slice A qs.length c]) rfl rfl (exec_load_all 30 _ rfl w.heap.size rfl _ _ _ hz5 Try.underlying30 rfl 5 (by kernel_rfl) rfl) ?_
  go_frame
  refine ls_op rfl (fun K' hK' => ?_)
  have lz8 := hB.size
  have lz9 := hz5.lt
  refine wp_call1 (some 5) rfl 45 _ _ rfl (fun args w => by kernel_rfl) _ rfl _ (HIs.out _ (hR.keep hB)) (fun e Wz6 h => ?_)
  obtain ⟨rfl, bz7⟩ := h
  replace hB := below_after hB bz7
  replace hz5 := hz5.after bz7
  rw [Hs.out]
  clear bz7
  refine ⟨_, rfl, ?_⟩
  refine hK' _ _ ?_
  clear hK' K'
  go_frame
  refine ls_ex (some 6) (.bool false) rfl rfl (exec_not _ _ rfl true rfl) ?_
  go_frame
  refine ls_ex (some 3) (.bool false) rfl rfl (exec_assign _ rfl (.bool false) rfl) ?_
  go_frame
  refine wpList_nil ?_
  go_upto_region 3 with (fail)
  refine wp_region_lit ?_
  refine ls_ex (some 8) (.pointer (some ⟨w.heap.size, 1, none⟩)) rfl rfl (exec_fieldAddr 30 _ 1 rfl _ (by kernel_rfl)) ?_
  go_frame
  refine ls_ex (some 9) (.int .i64 n) rfl rfl (exec_load_one 2 _ rfl w.heap.size 1 rfl (.int .i64 n) _ Try.underlying2 rfl (hz5.at_ 1)) ?_
  go_frame
  refine ls_ex (some 10) (.bool false) rfl rfl (exec_lss _ _ _ _ rfl n 2 rfl rfl false (decide_eq_false (by omega))) ?_
  go_frame
  refine ls_ex (some 11) (.bool false) rfl rfl (exec_move _ rfl (.bool false) rfl) ?_
  go_frame
  refine ls_ex_g (some 12) (.pointer (some ⟨w.heap.size, 2, none⟩)) rfl rfl (exec_fieldAddr 30 _ 2 rfl _ (by kernel_rfl)) ?_
  go_frame
  refine ls_ex_g (some 13) (.int .i64 m) rfl rfl (exec_load_one 2 _ rfl w.heap.size 2 rfl (.int .i64 m) _ Try.underlying2 rfl (hz5.at_ 2)) ?_
  go_frame
  refine ls_ex_g (some 14) (.pointer (some ⟨w.heap.size, 1, none⟩)) rfl rfl (exec_fieldAddr 30 _ 1 rfl _ (by kernel_rfl)) ?_
  go_frame
  refine ls_ex_g (some 15) (.int .i64 n) rfl rfl (exec_load_one 2 _ rfl w.heap.size 1 rfl (.int .i64 n) _ Try.underlying2 rfl (hz5.at_ 1)) ?_
  go_frame
  refine ls_ex_g (some 16) (.bool false) rfl rfl (exec_neq _ _ _ _ rfl m n rfl rfl false Hm.out) ?_
  go_frame
  refine ls_ex (some 17) (.bool false) rfl rfl (exec_pick _ _ _ rfl false rfl (.bool false) rfl) ?_
  go_frame
  refine ls_ex (some 18) (.bool false) rfl rfl (exec_move _ rfl (.bool false) rfl) ?_
  go_frame
  refine ls_ex_g (some 19) (.pointer (some ⟨w.heap.size, 3, none⟩)) rfl rfl (exec_fieldAddr 30 _ 3 rfl _ (by kernel_rfl)) ?_
  go_frame
  refine ls_ex_g (some 20) (.int .i64 k) rfl rfl (exec_load_one 2 _ rfl w.heap.size 3 rfl (.int .i64 k) _ Try.underlying2 rfl (hz5.at_ 3)) ?_
  go_frame
  refine ls_ex_g (some 21) (.pointer (some ⟨w.heap.size, 1, none⟩)) rfl rfl (exec_fieldAddr 30 _ 1 rfl _ (by kernel_rfl)) ?_
  go_frame
  refine ls_ex_g (some 22) (.int .i64 n) rfl rfl (exec_load_one 2 _ rfl w.heap.size 1 rfl (.int .i64 n) _ Try.underlying2 rfl (hz5.at_ 1)) ?_
  go_frame
  refine ls_ex_g (some 23) (.bool false) rfl rfl (exec_neq _ _ _ _ rfl k n rfl rfl false Hk.out) ?_
  go_frame
  refine ls_ex (some 24) (.bool false) rfl rfl (exec_pick _ _ _ rfl false rfl (.bool false) rfl) ?_
  go_frame
  refine ls_ex (some 7) (.bool false) rfl rfl (exec_assign _ rfl (.bool false) rfl) ?_
  go_frame
  refine wpList_nil ?_
  go_upto_region 5 with (fail)
  refine wp_region_lit ?_
  refine ls_ex (some 2) (.int .i64 0) rfl rfl (exec_assign _ rfl (.int .i64 0) rfl) ?_
  go_frame
  refine wpList_nil ?_
  go_wp2_with fail
  go_ret
  exact ⟨by rw [Hr.out]; rfl, hB⟩
theorem l06Square_c (p n m k : Int) (A : Option Addr) (c : Nat) (qs : List (List Nat)) (w : World) (hR : Rd w A qs) (hlen : qs.length ≤ 1048576) : Calls Try.prog 29 #[.agg #[.int .i64 p, .int .i64 n, .int .i64 m, .int .i64 k, .slice A qs.length c]] w (fun e w' => e = .returned (.int .i64 (sqCode p n m k qs true)) ∧ Below w.heap.size w w') := by
  cases hs : schemeB p n m k qs with
  | false => exact square_a p n m k A c qs w hR hlen hs
  | true =>
    by_cases h : n < 2
    · exact square_b p n m k A c qs w hR hlen hs h
    · cases hm : (m != n) with
      | true => exact square_c p n m k A c qs w hR hlen hs (by omega) hm
      | false =>
        cases hk : (k != n) with
        | true => exact square_d p n m k A c qs w hR hlen hs (by omega) hm hk
        | false => exact square_e p n m k A c qs w hR hlen hs (by omega) hm hk
end Go.Proofs.Ytphccbilldfdpaa
