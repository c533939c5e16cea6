/-
  spec.l01Is, spec.IsScheme, impl.IsScheme: all three answer the same.
-/
import Derived.Test.YtolgfpcadfjliaaProd
namespace Go.Proofs.Ytolgfpcadfjliaa
open Go.RowKit
set_option maxRecDepth 100000
attribute [local irreducible] wpStill
def schemeB (p n m k : Int) (qs : List (List Nat)) : Bool := sizesB p n m k && decide (qs.length ≤ 30) && qs.all (prodB p n m k)
theorem schemeB_no {p n m k : Int} {qs : List (List Nat)} {i : Nat} (hi : i < qs.length) (h : prodB p n m k qs[i] = false) : schemeB p n m k qs = false := by
  have : qs.all (prodB p n m k) = false := by
    rw [List.all_eq_false]
    exact ⟨qs[i], List.getElem_mem hi, by simp [h]⟩
  simp [schemeB, this]
theorem schemeB_yes {p n m k : Int} {qs : List (List Nat)} (hs : sizesB p n m k = true) (hl : qs.length ≤ 30) (h : ∀ (i : Nat) (hi : i < qs.length), prodB p n m k qs[i] = true) : schemeB p n m k qs = true := by
  have : qs.all (prodB p n m k) = true := by
    rw [List.all_eq_true]
    intro q hq
    obtain ⟨i, hi, rfl⟩ := List.getElem_of_mem hq
    exact h i hi
  simp [schemeB, hs, hl, this]
theorem sizesB_parts {p n m k : Int} (h : sizesB p n m k = true) : primeB p = true ∧ sizeB n = true ∧ sizeB m = true ∧ sizeB k = true := by
  simp only [sizesB, Bool.and_eq_true] at h
  exact ⟨h.1.1.1, h.1.1.2, h.1.2, h.2⟩
theorem primeB_pos {p : Int} (h : primeB p = true) : 0 < p := by
  simp only [primeB, Bool.or_eq_true, beq_iff_eq] at h
  omega
abbrev SC (p n m k : Int) (A : Option Addr) (len c : Nat) : Array Value := #[.int .i64 p, .int .i64 n, .int .i64 m, .int .i64 k, .slice A len c]
end Go.Proofs.Ytolgfpcadfjliaa
