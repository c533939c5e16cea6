/-
  '==' on arrays of three int64; spec.l02Sizes.
-/
import Derived.Test.YtelicajipilhjaaNum0
import Derived.ChangeKeysEq
namespace Go.Proofs.Ytelicajipilhjaa
open Go.RowKit
set_option maxRecDepth 100000
theorem run_eq_three {T : TypeId} (hT : Try.prog.underlying T = some (.array 3 2)) (n m k n' m' k' : Int) (w : World) : (Op.equalIn 10000 T (.agg #[.int .i64 n, .int .i64 m, .int .i64 k]) (.agg #[.int .i64 n', .int .i64 m', .int .i64 k'])).run Try.prog w = .ok (n == n' && (m == m' && k == k')) w := by
  obtain ⟨i, hi⟩ : ∃ i, Try.prog.info? 2 = some i := Option.isSome_iff_exists.1 (by kernel_rfl)
  have hc : Try.prog.cellsOf 2 = 1 := by kernel_rfl
  have hu : Try.prog.underlying 2 = some (.int .i64) := by kernel_rfl
  have hagg : (isAgg 2).run Try.prog w = .ok false w := by
    unfold isAgg
    rw [Sem.run_bind, run_underlying hu w]
    rfl
  have hpart : ∀ (xs : Array Value) (j : Nat) (v : Value), xs[j]? = some v → (part 2 xs (j * 1)).run Try.prog w = .ok v w := by
    intro xs j v hv
    unfold part
    simp [Sem.run_bind, hagg, hv]
  rw [run_equalIn_array (P := Try.prog) w 9999 _ _ hT hi, hc]
  rw [show List.range 3 = [0, 1, 2] from rfl]
  have hq : ∀ a b : Int, (Op.equalIn 9999 2 (.int .i64 a) (.int .i64 b)).run Try.prog w = .ok (a == b) w := fun a b => run_equalIn_int w 9998 2 .i64 .i64 a b hu
  simp only [Op.eqItems, Sem.run_bind, hpart #[.int .i64 n, .int .i64 m, .int .i64 k] 0 (.int .i64 n) rfl, hpart #[.int .i64 n, .int .i64 m, .int .i64 k] 1 (.int .i64 m) rfl, hpart #[.int .i64 n, .int .i64 m, .int .i64 k] 2 (.int .i64 k) rfl,
    hpart #[.int .i64 n', .int .i64 m', .int .i64 k'] 0 (.int .i64 n') rfl, hpart #[.int .i64 n', .int .i64 m', .int .i64 k'] 1 (.int .i64 m') rfl, hpart #[.int .i64 n', .int .i64 m', .int .i64 k'] 2 (.int .i64 k') rfl, Result.andThen_ok, hq, Sem.run_ite, Sem.run_pure]
  cases n == n' <;> cases m == m' <;> cases k == k' <;> rfl
theorem exec_eql_three {T : TypeId} (hT : Try.prog.underlying T = some (.array 3 2)) (hm : Try.prog.eqGuardType Try.prog.depth T = false) {o : Oper} {a : Act} {w : World} (x y : Operand) (t' : TypeId) (ho : o.op = .binOp .eql T x y t') (n m k n' m' k' : Int)
    (hx : a.eval x = .agg #[.int .i64 n, .int .i64 m, .int .i64 k]) (hy : a.eval y = .agg #[.int .i64 n', .int .i64 m', .int .i64 k']) (b : Bool) (hb : (n == n' && (m == m' && k == k')) = b) :
    (execOp a.eval o).run Try.prog w = .ok (.value (.bool b)) w := by
  have h1 := run_eq_three hT n m k n' m' k' w
  unfold execOp
  subst hb
  simp [ho, hx, hy, Sem.run_bind, run_eqGuard_agg w .eql T x y _ _ hm, run_eql_struct, h1]
theorem exec_index_v {P : Program} {o : Oper} {a : Act} {w : World} (ty e : TypeId) (x i : Operand) (ho : o.op = .index ty x i) (n k : Nat) (cs : Array Value) (v : Value) (hx : a.eval x = .agg cs) (hi : a.eval i = .int .i64 k)
    (hu : P.underlying ty = some (.array n e)) (d : TypeDesc) (he : P.underlying e = some d) (hd : (match d with | .struct _ | .array _ _ => true | _ => false) = false) (hs : (P.info? e).map (·.size) = some 1) (hk : k < n) (hv : cs[k]? = some v) :
    (execOp a.eval o).run P w = .ok (.value v) w := by
  obtain ⟨ie, hie, hse⟩ := Option.map_eq_some_iff.1 hs
  have hagg : (isAgg e).run P w = .ok false w := by
    unfold isAgg
    rw [Sem.run_bind, run_underlying he w]
    cases d <;> simp_all
  have h1 : (0 : Int) ≤ k ∧ (k : Int) < n := ⟨by omega, by omega⟩
  unfold execOp
  simp [ho, hx, hi, Instr.index, asIntOf, run_underlying hu, h1, sizeOf, typeInfo, hie, hse, part, hagg, hk, hv]
theorem exec_build_div {o : Oper} {a : Act} {w : World} (x y z : Operand) (ho : o.op = .build 83 #[(0, x), (1, y), (2, z)]) (n m k n' m' k' c : Int) (hx : a.eval x = .agg #[.int .i64 n, .int .i64 m, .int .i64 k]) (hy : a.eval y = .agg #[.int .i64 n', .int .i64 m', .int .i64 k']) (hz : a.eval z = .int .i64 c) :
    (execOp a.eval o).run Try.prog w = .ok (.value (.agg #[.int .i64 n, .int .i64 m, .int .i64 k, .int .i64 n', .int .i64 m', .int .i64 k', .int .i64 c, .int .i64 0])) w := by
  have hb : Try.prog.built 83 [(0, .agg #[.int .i64 n, .int .i64 m, .int .i64 k]), (1, .agg #[.int .i64 n', .int .i64 m', .int .i64 k']), (2, .int .i64 c)] = some #[.int .i64 n, .int .i64 m, .int .i64 k, .int .i64 n', .int .i64 m', .int .i64 k', .int .i64 c, .int .i64 0] := by kernel_rfl
  have h := run_build (P := Try.prog) w 83 _ _ hb
  unfold execOp
  simp [ho, hx, hy, hz, h]
set_option maxHeartbeats 400000 in
theorem l02Sizes_0 (n m k a : Int) (w : World) : Calls Try.prog 57 #[.agg #[.int .i64 n, .int .i64 m, .int .i64 k], .int .i64 0, .int .i64 a] w fun e w' => e = .returned (.agg #[.int .i64 a, .int .i64 m, .int .i64 k]) ∧ Below w.heap.size w w' := by
  go_enter Try.func57, Try.ntmps57
  go_wp2_with fail
  refine bodyPost_ret (results_at rfl _ _ (w.heap.size + 1) _ _ _ rfl (al2_1 _ _ _) Try.underlying52 rfl 3 (by kernel_rfl) rfl) rfl ?_
  exact ⟨rfl, below2 _ _ _⟩
set_option maxHeartbeats 400000 in
theorem l02Sizes_1 (n m k a : Int) (w : World) : Calls Try.prog 57 #[.agg #[.int .i64 n, .int .i64 m, .int .i64 k], .int .i64 1, .int .i64 a] w fun e w' => e = .returned (.agg #[.int .i64 n, .int .i64 a, .int .i64 k]) ∧ Below w.heap.size w w' := by
  go_enter Try.func57, Try.ntmps57
  go_wp2_with fail
  refine bodyPost_ret (results_at rfl _ _ (w.heap.size + 1) _ _ _ rfl (al2_1 _ _ _) Try.underlying52 rfl 3 (by kernel_rfl) rfl) rfl ?_
  exact ⟨rfl, below2 _ _ _⟩
set_option maxHeartbeats 400000 in
theorem l02Sizes_2 (n m k a : Int) (w : World) : Calls Try.prog 57 #[.agg #[.int .i64 n, .int .i64 m, .int .i64 k], .int .i64 2, .int .i64 a] w fun e w' => e = .returned (.agg #[.int .i64 n, .int .i64 m, .int .i64 a]) ∧ Below w.heap.size w w' := by
  go_enter Try.func57, Try.ntmps57
  go_wp2_with fail
  refine bodyPost_ret (results_at rfl _ _ (w.heap.size + 1) _ _ _ rfl (al2_1 _ _ _) Try.underlying52 rfl 3 (by kernel_rfl) rfl) rfl ?_
  exact ⟨rfl, below2 _ _ _⟩
end Go.Proofs.Ytelicajipilhjaa
