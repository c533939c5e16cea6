/-
  The numbers of a form, row by row, and its rank.
-/
import Derived.Test.YtebmkmkhfhmfbaaRk0
namespace Go.Proofs.Ytebmkmkhfhmfbaa
open Go.RowKit
set_option maxRecDepth 100000
/-- The numbers of a form, row by row. -/
def fmR (C : Nat) (f : List Nat) (i : Nat) : List Int := (List.range C).map fun t => ((f[i * C + t]?.getD 0 : Nat) : Int)
/-- The rank of a form as a matrix. -/
def frank (p : Int) (n C : Nat) (f : List Nat) : Nat := (rkS p n C (fmR C f) C).2
theorem fmR_rg {p : Int} {n C : Nat} {f : List Nat} (hp : 0 < p) (h : ∀ x ∈ f, (x : Int) < p) : Rg p n C (fmR C f) := fun i _ => by
  refine ⟨by simp [fmR], fun t ht => ?_⟩
  have e : ent (fmR C f) i t = ((f[i * C + t]?.getD 0 : Nat) : Int) := by simp [ent, fmR, ht]
  rw [e]
  refine ⟨by omega, ?_⟩
  rcases h9 : f[i * C + t]? with _ | x
  · simpa using hp
  · exact h x (List.mem_of_getElem? h9)
end Go.Proofs.Ytebmkmkhfhmfbaa
