/-
  impl.checkAlike: whether two schemes have the same prime and the same sizes. (Made by mkhe2.py.)
-/
import Derived.Test.YticbngacefgigaaHe2a
import Derived.Test.YticbngacefgigaaHeldG
import Derived.Deep.RegionWith
namespace Go.Proofs.Yticbngacefgigaa
open Go.RowKit
set_option maxRecDepth 100000
theorem exec_neq_sizes {o : Oper} {a : Act} {w : World} (x y : Operand) (t' : TypeId) (ho : o.op = .binOp .neq 62 x y t') (n m k n' m' k' : Int) (hx : a.eval x = .agg #[.int .i64 n, .int .i64 m, .int .i64 k]) (hy : a.eval y = .agg #[.int .i64 n', .int .i64 m', .int .i64 k']) (b : Bool) (hb : (!(n == n' && (m == m' && k == k'))) = b) :
    (execOp a.eval o).run Try.prog w = .ok (.value (.bool b)) w := by
  have hm : Try.prog.eqGuardType Try.prog.depth 62 = false := by kernel_rfl
  unfold execOp
  subst hb
  simp [ho, hx, hy, Sem.run_bind, run_eqGuard_agg w .neq _ x y _ _ hm, run_neq_struct, run_eq_sizes]
end Go.Proofs.Yticbngacefgigaa
