/-
  The greatest of three numbers.
-/
import Derived.Test.YtcmpeoijedddjaaTenA
namespace Go.Proofs.Ytcmpeoijedddjaa
open Go.RowKit
set_option maxRecDepth 100000
theorem exec_max3 {P : Program} {o : Oper} {a : Act} {w : World} (x y z : Operand) (t : TypeId) (ho : o.op = .call { callee := .builtin .max, args := #[x, y, z], argTypes := #[t, t, t] }) (m0 m1 m2 : Int) (hx : a.eval x = .int .i64 m0) (hy : a.eval y = .int .i64 m1) (hz : a.eval z = .int .i64 m2) (r : Int)
    (hr : (if (if m0 < m1 then m1 else m0) < m2 then m2 else (if m0 < m1 then m1 else m0)) = r) : (execOp a.eval o).run P w = .ok (.value (.int .i64 r)) w := by
  subst hr
  unfold execOp
  simp only [ho, hx, hy, hz, resolve, invoke, builtin, Sem.run_bind, Sem.run_pure, Result.andThen_ok, List.map_toArray, List.map_cons, List.map_nil]
  simp [go_sem]
end Go.Proofs.Ytcmpeoijedddjaa
