/-
  impl.isFactor. (Made by mkfac.py.)
-/
import Derived.Test.YtdbcgbbokodndaaOk
import Derived.Test.YtdbcgbbokodndaaSx
namespace Go.Proofs.Ytdbcgbbokodndaa
open Go.RowKit
set_option maxRecDepth 100000
attribute [local irreducible] wpList
theorem exec_neqFc {o : Oper} {a : Act} {w : World} (x y : Operand) (t' : TypeId) (ho : o.op = .binOp .neq 52 x y t') (f g : List Nat) (hx : a.eval x = .agg (u8s f)) (hy : a.eval y = .agg (u8s g)) (hf : f.length = 9) (hg : g.length = 9) (b : Bool) (hb : (!(f == g)) = b) :
    (execOp a.eval o).run Try.prog w = .ok (.value (.bool b)) w := by
  have hm : Try.prog.eqGuardType Try.prog.depth 52 = false := by kernel_rfl
  have h1 := run_equalIn_u8s (P := Try.prog) w 9998 52 5 9 Try.underlying52 Try.underlying5 (by kernel_rfl) f g hf hg
  unfold execOp
  subst hb
  simp [ho, hx, hy, Sem.run_bind, run_eqGuard_agg w .neq _ x y _ _ hm, run_neq_struct, h1]
end Go.Proofs.Ytdbcgbbokodndaa
