/-
  impl.productOf. (Made by mkpo.py.)
-/
import Derived.Test.YtemkhlokpinecaaSx
import Derived.Test.YtemkhlokpinecaaNrm0
namespace Go.Proofs.Ytemkhlokpinecaa
open Go.RowKit
set_option maxRecDepth 100000
theorem al_impl_Product {o : Oper} {a : Act} {w : World} (ho : o.op = .alloc 53) : (execOp a.eval o).run Try.prog w = .ok (.value (.pointer (some ⟨w.heap.size, 0, none⟩))) (w.alloc (.cells (u8s (List.replicate 27 0)) 53 (0, 0))) := by
  unfold execOp
  rw [ho]
  kernel_rfl
end Go.Proofs.Ytemkhlokpinecaa
