/-
  impl.IsTensor. (Made by mkten4.py.)
-/
import Derived.Test.YtopdfblfhdooaaaSx
import Derived.Test.YtopdfblfhdooaaaTen3
namespace Go.Proofs.Ytopdfblfhdooaaa
open Go.RowKit
set_option maxRecDepth 100000
theorem al_impl_box {o : Oper} {a : Act} {w : World} (ho : o.op = .alloc 57) : (execOp a.eval o).run Try.prog w = .ok (.value (.pointer (some ⟨w.heap.size, 0, none⟩))) (w.alloc (.cells #[.int .i64 0, .int .i64 0, .int .i64 0] 57 (0, 0))) := by
  unfold execOp
  rw [ho]
  kernel_rfl
end Go.Proofs.Ytopdfblfhdooaaa
