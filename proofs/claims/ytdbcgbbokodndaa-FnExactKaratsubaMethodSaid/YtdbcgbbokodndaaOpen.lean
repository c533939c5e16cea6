/-
  A laws.Scheme that came in, read as data: its numbers, and its products as lists of bytes.
-/
import Derived.Test.YtdbcgbbokodndaaBase
import Derived.Test.YtdbcgbbokodndaaChecked
import Derived.Deep.Slices
import Derived.OpenShut
import Derived.ProofKit
namespace Go.Proofs.Ytdbcgbbokodndaa
open Go.RowKit Go.ChangeShapes Go.WideShapes
set_option maxRecDepth 100000
theorem bytes_of (cs : List Value) (N : Nat) (h : ∀ i, i < N → ∃ n : Int, cs[i]? = some (.int .u8 n) ∧ 0 ≤ n ∧ n ≤ 255) :
    ∃ l, Bytes N l ∧ ∀ j, j < N → cs[j]? = some (.int .u8 ((l[j]?.getD 0 : Nat) : Int)) := by
  obtain ⟨f, hf⟩ := Go.Deep.choose_lt (α := Int) h
  refine ⟨(List.range N).map fun i => (f i).toNat, ⟨by simp, fun n hn => ?_⟩, fun j hj => ?_⟩
  · obtain ⟨i, hi, rfl⟩ := List.mem_map.1 hn
    have := hf i (List.mem_range.1 hi)
    omega
  · have := hf j hj
    rw [this.1]
    have e : (((List.range N).map fun i => (f i).toNat)[j]?.getD 0 : Nat) = (f j).toNat := by simp [hj]
    rw [e, Int.toNat_of_nonneg this.2.1]
section
variable {H : Type} {enc : TypeId × Value → H} {w : World} {base : Nat} {spare : Nat → Bool} {held : Bool}
theorem cells_u8 : Try.prog.cellsOf 5 = 1 := by kernel_rfl
theorem cells_form : Try.prog.cellsOf 51 = 9 := by kernel_rfl
theorem cells_int64 : Try.prog.cellsOf 2 = 1 := by kernel_rfl
theorem trod_form {fuel : Nat} {cs : List Value} {x : DataW H × List MemPlace} (h : DataW.trod enc Try.prog w base spare held fuel 51 cs = some x) :
    cs.length = 9 ∧ ∀ i, i < 9 → ∃ n : Int, cs[i]? = some (.int .u8 n) ∧ 0 ≤ n ∧ n ≤ 255 := by
  obtain ⟨xs, m, _, _, hlen, hxl, hi⟩ := DataW.trod_array Try.underlying51 h
  rw [cells_form] at hlen
  refine ⟨hlen, fun i hlt => ?_⟩
  have h1 := hi i hlt
  rw [cells_u8, Nat.mul_one, List.getElem?_eq_getElem (by omega)] at h1
  obtain ⟨n, hn, _, hw⟩ := DataW.trod_int Try.underlying5 h1
  have hb := bounds_u8 hw
  refine ⟨n, ?_, hb.1, hb.2⟩
  rw [List.drop_eq_getElem_cons (by omega)] at hn
  simp only [List.take_succ_cons, List.take_zero, List.cons.injEq, and_true] at hn
  rw [List.getElem?_eq_getElem (by omega), hn]
end
end Go.Proofs.Ytdbcgbbokodndaa
