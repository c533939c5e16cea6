/-
  Join numbers: the table, and the two ways in which they are found.
-/
import Derived.Test.YtelicajipilhjaaSizes
namespace Go.Proofs.Ytelicajipilhjaa
open Go.RowKit
set_option maxRecDepth 100000
def jn (n m k : Nat) : Nat := [1, 2, 3, 2, 4, 6, 3, 6, 9, 2, 4, 6, 4, 7, 11, 6, 11, 17, 3, 6, 9, 6, 11, 17, 9, 17, 26].getD (((n - 1) * 3 + (m - 1)) * 3 + (k - 1)) 0
def up (f : Nat → Nat) (s : Nat) : Nat → Nat
  | 0 => s
  | a + 1 => min (up f s a) (f (a + 1))
def up2 (f : Nat → Nat) (s : Nat) : Nat → Nat
  | 0 => s
  | a + 1 => if up2 f s a = 0 ∨ f (a + 1) < up2 f s a then f (a + 1) else up2 f s a
def pt0 (n m k a : Nat) : Nat := jn a m k + jn (n - a) m k
def pt1 (n m k a : Nat) : Nat := jn n a k + jn n (m - a) k
def pt2 (n m k a : Nat) : Nat := jn n m a + jn n m (k - a)
def bs1 (n m k : Nat) : Nat := up (pt0 n m k) 100 (n - 1)
def bs2 (n m k : Nat) : Nat := up (pt1 n m k) (bs1 n m k) (m - 1)
def bs3 (n m k : Nat) : Nat := up (pt2 n m k) (bs2 n m k) (k - 1)
def cs1 (n m k : Nat) : Nat := up2 (pt0 n m k) 0 (n - 1)
def cs2 (n m k : Nat) : Nat := up2 (pt1 n m k) (cs1 n m k) (m - 1)
def cs3 (n m k : Nat) : Nat := up2 (pt2 n m k) (cs2 n m k) (k - 1)
theorem jn_le (n m k : Nat) : jn n m k ≤ 26 := by
  unfold jn
  generalize ((n - 1) * 3 + (m - 1)) * 3 + (k - 1) = i
  by_cases h : i < 27
  · have := (show ∀ i : Fin 27, [1, 2, 3, 2, 4, 6, 3, 6, 9, 2, 4, 6, 4, 7, 11, 6, 11, 17, 3, 6, 9, 6, 11, 17, 9, 17, 26].getD i.val 0 ≤ 26 by decide) ⟨i, h⟩
    exact this
  · rw [List.getD_eq_getElem?_getD, List.getElem?_eq_none (by simp; omega)]
    simp
theorem up_le (f : Nat → Nat) (s a : Nat) : up f s a ≤ s := by
  induction a with
  | zero => exact Nat.le_refl _
  | succ a ih => simp only [up]; omega
theorem up2_le (f : Nat → Nat) (s a : Nat) (hs : s ≤ 100) (hf : ∀ a, f a ≤ 100) : up2 f s a ≤ 100 := by
  induction a with
  | zero => exact hs
  | succ a ih =>
    simp only [up2]
    split
    · exact hf _
    · exact ih
theorem jn_tab : ∀ n m k : Fin 4, 1 ≤ n.val → 1 ≤ m.val → 1 ≤ k.val →
    ((n.val == 1 && (m.val == 1 && k.val == 1)) || (n.val == 2 && (m.val == 2 && k.val == 2)) || (bs3 n m k == jn n m k && cs3 n m k == jn n m k)) = true := by decide +kernel
theorem jn_bs {n m k : Nat} (hn : 1 ≤ n ∧ n ≤ 3) (hm : 1 ≤ m ∧ m ≤ 3) (hk : 1 ≤ k ∧ k ≤ 3) (h1 : (n == 1 && (m == 1 && k == 1)) = false) (h2 : (n == 2 && (m == 2 && k == 2)) = false) : bs3 n m k = jn n m k ∧ cs3 n m k = jn n m k := by
  have h := jn_tab ⟨n, by omega⟩ ⟨m, by omega⟩ ⟨k, by omega⟩ hn.1 hm.1 hk.1
  simp only [h1, h2, Bool.false_or, Bool.and_eq_true, beq_iff_eq] at h
  exact h
theorem beq3 (n m k a : Nat) : ((n : Int) == (a : Int) && ((m : Int) == (a : Int) && (k : Int) == (a : Int))) = (n == a && (m == a && k == a)) := by
  have h : ∀ x : Nat, ((x : Int) == (a : Int)) = (x == a) := fun x => by rw [Bool.eq_iff_iff, beq_iff_eq, beq_iff_eq]; omega
  rw [h, h, h]
end Go.Proofs.Ytelicajipilhjaa
