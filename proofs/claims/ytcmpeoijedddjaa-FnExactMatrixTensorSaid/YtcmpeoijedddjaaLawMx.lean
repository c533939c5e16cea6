/-
  laws.FnExactMatrixTensor: it returns true.
-/
import Derived.Test.YtcmpeoijedddjaaLawMatrixTensor
import Derived.Test.YtcmpeoijedddjaaMt1
namespace Go.Proofs.Ytcmpeoijedddjaa
open Go.RowKit
theorem lawMatrixTensor (p n m k : Int) (w : World) :
    Calls Try.prog 6 #[.int .i64 p, .int .i64 n, .int .i64 m, .int .i64 k] w fun e w' => e = .returned (.bool true) ∧ Below w.heap.size w w' :=
  lawMatrixTensor_walk p n m k _ _ _ _ _ _ w (mtR_len p n m k) (fun w => specMatrixTensor_c p n m k w) (fun w => implMatrixTensor_c p n m k w)
end Go.Proofs.Ytcmpeoijedddjaa
