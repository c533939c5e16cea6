/-
  A laws.Scheme that came in, read as data: its numbers, and its products as lists of bytes.
-/
import Derived.Test.YtolgfpcadfjliaaBase
import Derived.Test.YtolgfpcadfjliaaChecked
import Derived.Deep.Slices
import Derived.OpenShut
import Derived.ProofKit
namespace Go.Proofs.Ytolgfpcadfjliaa
open Go.RowKit Go.ChangeShapes Go.WideShapes
set_option maxRecDepth 100000
theorem bytes_of (cs : List Value) (N : Nat) (h : ∀ i, i < N → ∃ n : Int, cs[i]? = some (.int .u8 n) ∧ 0 ≤ n ∧ n ≤ 255) :
    ∃ l, Bytes N l ∧ ∀ j, j < N → cs[j]? = some (.int .u8 ((l[j]?.getD 0 : Nat) : Int)) := by
  obtain ⟨f, hf⟩ := Go.Deep.choose_lt (α := Int) h
  refine ⟨(List.range N).map fun i => (f i).toNat, ⟨by simp, fun n hn => ?_⟩, fun j hj => ?_⟩
  · obtain ⟨i, hi, rfl⟩ := List.mem_map.1 hn
    have := hf i (List.mem_range.1 hi)
    omega
  · have := hf j hj
    rw [this.1]
    have e : (((List.range N).map fun i => (f i).toNat)[j]?.getD 0 : Nat) = (f j).toNat := by simp [hj]
    rw [e, Int.toNat_of_nonneg this.2.1]
section
variable {H : Type} {enc : TypeId × Value → H} {w : World} {base : Nat} {spare : Nat → Bool} {held : Bool}
theorem cells_u8 : Try.prog.cellsOf 5 = 1 := by kernel_rfl
theorem cells_int64 : Try.prog.cellsOf 2 = 1 := by kernel_rfl
end
end Go.Proofs.Ytolgfpcadfjliaa
