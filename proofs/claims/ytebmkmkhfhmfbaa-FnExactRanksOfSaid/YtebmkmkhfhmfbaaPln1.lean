/-
  spec.l01Matrix, impl.isMatrix, shapeOfRows, isSmallMatrix, zeroMatrix.
-/
import Derived.Test.YtebmkmkhfhmfbaaMat1
import Derived.Test.YtebmkmkhfhmfbaaRight1
import Derived.Test.YtebmkmkhfhmfbaaTen3
import Derived.Test.YtebmkmkhfhmfbaaIsm
namespace Go.Proofs.Ytebmkmkhfhmfbaa
open Go.RowKit
set_option maxRecDepth 100000
def numB (p x : Int) : Bool := decide (0 ≤ x) && decide (x < p)
def rowB (p m : Int) (xs : List Int) : Bool := decide ((xs.length : Int) = m) && xs.all (numB p)
def matB (p n m : Int) (N : Nat) (row : Nat → List Int) : Bool := decide ((N : Int) = n) && (List.range N).all fun i => rowB p m (row i)
theorem rowB_no {p m : Int} {xs : List Int} {j : Nat} (hj : j < xs.length) (h : numB p xs[j] = false) : rowB p m xs = false := by
  have : xs.all (numB p) = false := by
    rw [List.all_eq_false]
    exact ⟨xs[j], List.getElem_mem hj, by simp [h]⟩
  simp [rowB, this]
theorem rowB_yes {p m : Int} {xs : List Int} (hl : (xs.length : Int) = m) (h : ∀ (j : Nat) (hj : j < xs.length), numB p xs[j] = true) : rowB p m xs = true := by
  have : xs.all (numB p) = true := by
    rw [List.all_eq_true]
    intro x hx
    obtain ⟨j, hj, rfl⟩ := List.getElem_of_mem hx
    exact h j hj
  simp [rowB, hl, this]
theorem matB_no {p n m : Int} {N : Nat} {row : Nat → List Int} {i : Nat} (hi : i < N) (h : rowB p m (row i) = false) : matB p n m N row = false := by
  have : ((List.range N).all fun i => rowB p m (row i)) = false := by
    rw [List.all_eq_false]
    exact ⟨i, List.mem_range.2 hi, by simp [h]⟩
  simp [matB, this]
theorem matB_yes {p n m : Int} {N : Nat} {row : Nat → List Int} (hn : (N : Int) = n) (h : ∀ i, i < N → rowB p m (row i) = true) : matB p n m N row = true := by
  have : ((List.range N).all fun i => rowB p m (row i)) = true := by
    rw [List.all_eq_true]
    exact fun i hi => h i (List.mem_range.1 hi)
  simp [matB, hn, this]
theorem matB_parts {p n m : Int} {N : Nat} {row : Nat → List Int} (h : matB p n m N row = true) : (N : Int) = n ∧ ∀ i, i < N → ((row i).length : Int) = m ∧ ∀ x ∈ row i, 0 ≤ x ∧ x < p := by
  simp only [matB, Bool.and_eq_true, decide_eq_true_eq, List.all_eq_true, List.mem_range, rowB, numB] at h
  exact ⟨h.1, fun i hi => ⟨(h.2 i hi).1, (h.2 i hi).2⟩⟩
theorem num_in (p x : Int) : (decide (0 ≤ x) && decide (x ≤ p - 1)) = numB p x := by
  unfold numB
  congr 1
  exact decide_eq_decide.2 (by omega)
theorem isMatrix_c (p n m : Int) (A : Option Addr) (c N : Nat) (row : Nat → List Int) (w : World) (hr : RdM w A N row) (hN : N ≤ 1048576) (hrow : ∀ i, i < N → (row i).length ≤ 1048576) :
    Calls Try.prog 39 #[.int .i64 p, .agg #[.int .i64 n, .int .i64 m], .slice A N c] w fun e w' => e = .returned (.bool (matB p n m N row)) ∧ Below w.heap.size w w' :=
  isMatrixR_c p n m A c N row w hr hN hrow
end Go.Proofs.Ytebmkmkhfhmfbaa
