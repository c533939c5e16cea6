/-
  spec.FirstWrong, impl.FirstWrong.
-/
import Derived.Test.YtpoekhpchhmkaaaFst3
import Derived.Test.YtpoekhpchhmkaaaLKI
namespace Go.Proofs.Ytpoekhpchhmkaaa
open Go.RowKit
set_option maxRecDepth 100000
def fstI : Option (Nat × Nat × Nat) → List Int
  | none => []
  | some (a, b, c) => [a, b, c]
theorem fstL_eq (o : Option (Nat × Nat × Nat)) : fstL o = i64s (fstI o) := by
  rcases o with _ | ⟨a, b, c⟩ <;> rfl
def fwXs (p n m k : Int) (qs : List (List Nat)) : List Int := if schemeB p n m k qs then fstI (wrS p n m k qs).2 else []
def fwCode (p n m k : Int) (qs : List (List Nat)) : Int := if schemeB p n m k qs then (if (wrS p n m k qs).2.isNone then 4 else 0) else 1
theorem fwXs_len (p n m k : Int) (qs : List (List Nat)) : (fwXs p n m k qs).length ≤ 3 := by
  unfold fwXs
  split
  · rcases (wrS p n m k qs).2 with _ | ⟨a, b, c⟩ <;> simp [fstI]
  · simp
theorem OwnI.of_KW {w wr : World} {p n m k : Int} {A : Option Addr} {len cap : Nat} {v : Value} {o : Option (Nat × Nat × Nat)} (h : KW w p n m k A len cap v (fstL o) wr) : OwnI wr (w.heap.size + 1) v (fstI o) := by
  have := h.own
  rw [fstL_eq, i64s_len] at this
  exact this
theorem OwnI.of_first {w wr : World} {v : Value} {t : Nat × Nat × Nat} (h : FirstV w wr v (some t)) : OwnI wr w.heap.size v (fstI (some t)) := by
  obtain ⟨a, b, c⟩ := t
  obtain ⟨g, rfl, hg, hA⟩ := h
  exact ⟨rfl, .inr ⟨g, 3, _, rfl, hg, hA, by simp [fstI], by simp [maxLen], by simp, rfl⟩⟩
end Go.Proofs.Ytpoekhpchhmkaaa
