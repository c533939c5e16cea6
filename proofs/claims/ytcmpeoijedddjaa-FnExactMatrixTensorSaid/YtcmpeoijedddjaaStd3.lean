/-
  spec.StandardScheme.
-/
import Derived.Test.YtcmpeoijedddjaaStd2
import Derived.Test.YtcmpeoijedddjaaLK1
import Derived.Test.YtcmpeoijedddjaaRight2
namespace Go.Proofs.Ytcmpeoijedddjaa
open Go.RowKit
set_option maxRecDepth 100000
def stdQs (p n m k : Int) : List (List Nat) := if sizesB p n m k then stdA m.toNat k.toNat n.toNat else []
def stdZ (p n m k x : Int) : Int := if sizesB p n m k then x else 0
def stdCode (p n m k : Int) : Int := if sizesB p n m k then 0 else 2
theorem stdQs_bytes (p n m k : Int) : ∀ q ∈ stdQs p n m k, Bytes 27 q := by
  unfold stdQs
  split
  · exact stdA_bytes _ _ _
  · simp
theorem stdQs_len (p n m k : Int) : (stdQs p n m k).length ≤ 27 := by
  unfold stdQs
  split
  · rename_i h
    have hb := sizes_bounds h
    rw [stdA_len]
    exact Nat.mul_le_mul (show n.toNat ≤ 3 by omega) (Nat.mul_le_mul (show m.toNat ≤ 3 by omega) (show k.toNat ≤ 3 by omega))
  · simp
end Go.Proofs.Ytcmpeoijedddjaa
