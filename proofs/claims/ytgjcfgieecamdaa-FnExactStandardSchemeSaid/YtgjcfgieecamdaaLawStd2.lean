/-
  laws.FnExactStandardScheme returns true and writes nothing that was there.
-/
import Derived.Test.YtgjcfgieecamdaaLawStd
import Derived.Test.YtgjcfgieecamdaaStd4
namespace Go.Proofs.Ytgjcfgieecamdaa
open Go.RowKit
theorem lawStandard (p n m k : Int) (w : World) : Calls Try.prog 4 #[.int .i64 p, .int .i64 n, .int .i64 m, .int .i64 k] w fun e w' => e = .returned (.bool true) ∧ Below w.heap.size w w' :=
  lawStandard_walk p n m k _ _ _ _ _ _ w (stdQs_bytes p n m k) (by have := stdQs_len p n m k; omega) (specStandard_c p n m k) (implStandard_c p n m k)
end Go.Proofs.Ytgjcfgieecamdaa
