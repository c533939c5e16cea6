/-
  '!=' on impl.sizes, an array of three int64; an element of an array as a value.
-/
import Derived.Test.YtopdfblfhdooaaaLK1
import Derived.ChangeKeysEq
namespace Go.Proofs.Ytopdfblfhdooaaa
open Go.RowKit
set_option maxRecDepth 100000
theorem run_eq_sz (n m k n' m' k' : Int) (w : World) : (Op.equalIn 10000 68 (.agg #[.int .i64 n, .int .i64 m, .int .i64 k]) (.agg #[.int .i64 n', .int .i64 m', .int .i64 k'])).run Try.prog w = .ok (n == n' && (m == m' && k == k')) w := by
  obtain ⟨i, hi⟩ : ∃ i, Try.prog.info? 2 = some i := Option.isSome_iff_exists.1 (by kernel_rfl)
  have hc : Try.prog.cellsOf 2 = 1 := by kernel_rfl
  have hu : Try.prog.underlying 2 = some (.int .i64) := by kernel_rfl
  have hagg : (isAgg 2).run Try.prog w = .ok false w := by
    unfold isAgg
    rw [Sem.run_bind, run_underlying hu w]
    rfl
  have hpart : ∀ (xs : Array Value) (j : Nat) (v : Value), xs[j]? = some v → (part 2 xs (j * 1)).run Try.prog w = .ok v w := by
    intro xs j v hv
    unfold part
    simp [Sem.run_bind, hagg, hv]
  rw [run_equalIn_array (P := Try.prog) w 9999 _ _ Try.underlying68 hi, hc]
  rw [show List.range 3 = [0, 1, 2] from rfl]
  have hq : ∀ a b : Int, (Op.equalIn 9999 2 (.int .i64 a) (.int .i64 b)).run Try.prog w = .ok (a == b) w := fun a b => run_equalIn_int w 9998 2 .i64 .i64 a b hu
  simp only [Op.eqItems, Sem.run_bind, hpart #[.int .i64 n, .int .i64 m, .int .i64 k] 0 (.int .i64 n) rfl, hpart #[.int .i64 n, .int .i64 m, .int .i64 k] 1 (.int .i64 m) rfl, hpart #[.int .i64 n, .int .i64 m, .int .i64 k] 2 (.int .i64 k) rfl,
    hpart #[.int .i64 n', .int .i64 m', .int .i64 k'] 0 (.int .i64 n') rfl, hpart #[.int .i64 n', .int .i64 m', .int .i64 k'] 1 (.int .i64 m') rfl, hpart #[.int .i64 n', .int .i64 m', .int .i64 k'] 2 (.int .i64 k') rfl, Result.andThen_ok, hq, Sem.run_ite, Sem.run_pure]
  cases n == n' <;> cases m == m' <;> cases k == k' <;> rfl
theorem exec_neq_sz {o : Oper} {a : Act} {w : World} (x y : Operand) (t' : TypeId) (ho : o.op = .binOp .neq 68 x y t') (n m k n' m' k' : Int) (hx : a.eval x = .agg #[.int .i64 n, .int .i64 m, .int .i64 k]) (hy : a.eval y = .agg #[.int .i64 n', .int .i64 m', .int .i64 k']) (b : Bool) (hb : (!(n == n' && (m == m' && k == k'))) = b) :
    (execOp a.eval o).run Try.prog w = .ok (.value (.bool b)) w := by
  have hm : Try.prog.eqGuardType Try.prog.depth 68 = false := by kernel_rfl
  unfold execOp
  subst hb
  simp [ho, hx, hy, Sem.run_bind, run_eqGuard_agg w .neq _ x y _ _ hm, run_neq_struct, run_eq_sz]
theorem exec_index_arr3 {P : Program} {o : Oper} {a : Act} {w : World} (ty e : TypeId) (x i : Operand) (ho : o.op = .index ty x i) (n k : Nat) (cs : Array Value) (v : Value) (hx : a.eval x = .agg cs) (hi : a.eval i = .int .i64 k)
    (hu : P.underlying ty = some (.array n e)) (d : TypeDesc) (he : P.underlying e = some d) (hd : (match d with | .struct _ | .array _ _ => true | _ => false) = false) (hs : (P.info? e).map (·.size) = some 1) (hk : k < n) (hv : cs[k]? = some v) :
    (execOp a.eval o).run P w = .ok (.value v) w := by
  obtain ⟨ie, hie, hse⟩ := Option.map_eq_some_iff.1 hs
  have hagg : (isAgg e).run P w = .ok false w := by
    unfold isAgg
    rw [Sem.run_bind, run_underlying he w]
    cases d <;> simp_all
  have h1 : (0 : Int) ≤ k ∧ (k : Int) < n := ⟨by omega, by omega⟩
  unfold execOp
  simp [ho, hx, hi, Instr.index, asIntOf, run_underlying hu, h1, sizeOf, typeInfo, hie, hse, part, hagg, hk, hv]
end Go.Proofs.Ytopdfblfhdooaaa
