/-
  impl.IsScheme answers as spec.IsScheme does. (Made by mkimplis.py.)
-/
import Derived.Test.YtolgfpcadfjliaaIs
import Derived.Test.YtolgfpcadfjliaaAre
namespace Go.Proofs.Ytolgfpcadfjliaa
open Go.RowKit
set_option maxRecDepth 100000
theorem schemeB_are {p n m k : Int} {qs : List (List Nat)} (hs : sizesB p n m k = true) : schemeB p n m k qs = areB p (shR n m) (shC m k) qs := by
  unfold schemeB areB
  rw [hs, Bool.true_and, show prodB p n m k = prodG p (shR n m) (shC m k) from funext (prodB_G p n m k)]
attribute [local irreducible] wpList
theorem sizesB_allowed {p n m k : Int} (h : sizesB p n m k = true) : (sizeB n && sizeB m && sizeB k) = true := by
  obtain ⟨_, h1, h2, h3⟩ := sizesB_parts h
  rw [h1, h2, h3]
  rfl
theorem schemeB_len {p n m k : Int} {qs : List (List Nat)} (h : schemeB p n m k qs = true) : qs.length ≤ 30 := by
  simp only [schemeB, Bool.and_eq_true, decide_eq_true_eq] at h
  exact h.1.2
theorem schemeB_sizes {p n m k : Int} {qs : List (List Nat)} (h : schemeB p n m k qs = true) : sizesB p n m k = true := by
  simp only [schemeB, Bool.and_eq_true] at h
  exact h.1.1
end Go.Proofs.Ytolgfpcadfjliaa

