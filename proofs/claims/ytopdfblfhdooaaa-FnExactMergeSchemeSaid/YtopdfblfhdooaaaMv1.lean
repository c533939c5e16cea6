/-
  spec.l03Factor, l03With; a factor of a product, a product with another factor.
-/
import Derived.Test.YtopdfblfhdooaaaTold
namespace Go.Proofs.Ytopdfblfhdooaaa
open Go.RowKit
set_option maxRecDepth 100000
theorem adF_shift (p k : Int) (f g : List Nat) : adF p (k + p) f g = adF p k f g := by
  unfold adF
  refine List.map_congr_left fun i _ => ?_
  unfold ad1
  rw [Int.add_mul, ← Int.add_assoc, Int.add_mul_emod_self_left]
/-- The factor number 'f' of a product. -/
def facQ (q : List Nat) (f : Nat) : List Nat := segm q (f * 9) 9
/-- The product with another factor. -/
def withQ (q : List Nat) (f : Nat) (r : List Nat) : List Nat := over q (f * 9) r
theorem facQ_bytes {q : List Nat} {f : Nat} (hq : Bytes 27 q) (hf : f < 3) : Bytes 9 (facQ q f) := segm_bytes hq (by omega)
theorem withQ_bytes {q r : List Nat} {f : Nat} (hq : Bytes 27 q) (hr : Bytes 9 r) (hf : f < 3) : Bytes 27 (withQ q f r) := by
  obtain ⟨A, B, C, rfl, hA, hB, hC⟩ := parts3 hq
  unfold withQ
  rcases (show f = 0 ∨ f = 1 ∨ f = 2 by omega) with rfl | rfl | rfl
  · rw [over_a hA.len hr.len]; exact bytes3 hr hB hC
  · rw [over_b hA.len hB.len hr.len]; exact bytes3 hA hr hC
  · rw [over_c hA.len hB.len hC.len hr.len]; exact bytes3 hA hB hr
end Go.Proofs.Ytopdfblfhdooaaa
