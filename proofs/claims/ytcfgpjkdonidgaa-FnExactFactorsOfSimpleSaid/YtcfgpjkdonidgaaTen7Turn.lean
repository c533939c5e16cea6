/-
  impl.tensorWith with the function literal turned$1. (Made by mkten7.py.)
-/
import Derived.Test.YtcfgpjkdonidgaaTen6
namespace Go.Proofs.Ytcfgpjkdonidgaa
open Go.RowKit
set_option maxRecDepth 100000
theorem tensorOfTurn_c (p a b c : Int) (A : Option Addr) (n cap : Nat) (w : World) : Calls Try.prog 47 #[.int .i64 p, .agg #[.int .i64 a, .int .i64 b, .int .i64 c], .slice A n cap] w fun e w' => e = .returned (.agg #[.int .i64 p, .int .i64 a, .int .i64 b, .int .i64 c, .slice A n cap]) ∧ Below w.heap.size w w' := by
  go_enter Try.func47, Try.ntmps47
  go_wp2_with fail
  refine bodyPost_ret (results_at rfl _ _ (w.heap.size + 1) _ _ _ rfl (al2_1 _ _ _) Try.underlying28 rfl 5 (by kernel_rfl) rfl) rfl ?_
  exact ⟨rfl, below2 _ _ _⟩
end Go.Proofs.Ytcfgpjkdonidgaa
