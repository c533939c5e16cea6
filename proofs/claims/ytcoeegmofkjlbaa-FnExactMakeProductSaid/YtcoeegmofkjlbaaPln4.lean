/-
  spec.PlainProduct, impl.PlainProduct.
-/
import Derived.Test.YtcoeegmofkjlbaaPln3
import Derived.Test.YtcoeegmofkjlbaaLKM
namespace Go.Proofs.Ytcoeegmofkjlbaa
open Go.RowKit
set_option maxRecDepth 100000
def plOk (p : Int) (n : Nat) (X : Nat → List Int) (m : Nat) (Y : Nat → List Int) : Bool := primeB p && smallB p n X && smallB p m Y && decide (colM n X = (m : Int))
theorem colM_pos {n : Nat} {X : Nat → List Int} (h : 1 ≤ n) : colM n X = ((X 0).length : Int) := by
  unfold colM
  rw [if_neg (by omega)]
theorem RdM.drewN {w : World} {A : Option Addr} {n : Nat} {row : Nat → List Int} (h : RdM w A n row) (j : Nat) : RdM (w.drewN j) A n row := h.keep (below_drawn (Below.refl _ _) j)
theorem plOk_parts {p : Int} {n m : Nat} {X Y : Nat → List Int} (h : plOk p n X m Y = true) : primeB p = true ∧ 1 ≤ n ∧ n ≤ 3 ∧ 1 ≤ m ∧ m ≤ 3 ∧ 1 ≤ (Y 0).length ∧ (Y 0).length ≤ 3 ∧ matB p n m n X = true ∧ matB p m (Y 0).length m Y = true ∧ ((X 0).length : Int) = m := by
  simp only [plOk, smallB, Bool.and_eq_true, decide_eq_true_eq] at h
  obtain ⟨⟨⟨hp, ⟨h1, h2⟩, h3⟩, ⟨h4, h5⟩, h6⟩, h7⟩ := h
  rw [h7] at h3
  simp only [sizeB, Bool.and_eq_true, decide_eq_true_eq] at h1 h4 h5
  have hm : 1 ≤ m := by omega
  have hn : 1 ≤ n := by omega
  rw [colM_pos hm] at h5 h6
  rw [colM_pos hn] at h7
  exact ⟨hp, hn, by omega, hm, by omega, by omega, by omega, h3, h6, h7⟩
theorem plOk_of {p : Int} {n m : Nat} {X Y : Nat → List Int} (hp : primeB p = true) (hn : 1 ≤ n) (hn3 : n ≤ 3) (hm : 1 ≤ m) (hm3 : m ≤ 3) (hk : sizeB ((Y 0).length : Int) = true) (h1 : matB p n m n X = true) (h2 : matB p m (Y 0).length m Y = true) : plOk p n X m Y = true := by
  have hx := ((matB_parts h1).2 0 (by omega)).1
  have sn : sizeB (n : Int) = true := by simp only [sizeB, Bool.and_eq_true, decide_eq_true_eq]; omega
  have sm : sizeB (m : Int) = true := by simp only [sizeB, Bool.and_eq_true, decide_eq_true_eq]; omega
  simp only [plOk, smallB, colM_pos hn, colM_pos hm, hx, hp, sn, sm, hk, h1, h2]
  simp

end Go.Proofs.Ytcoeegmofkjlbaa
