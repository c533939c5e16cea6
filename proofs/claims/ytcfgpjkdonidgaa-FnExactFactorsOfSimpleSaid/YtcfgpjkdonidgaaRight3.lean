/-
  impl.sideAt (of rightSides), impl.RightSide; the law laws.FnExactRightSide, walked.
-/
import Derived.Test.YtcfgpjkdonidgaaRight2
import Derived.Deep.RegionWith
namespace Go.Proofs.Ytcfgpjkdonidgaa
open Go.RowKit
set_option maxRecDepth 100000
theorem zeros_get (n i : Nat) : (List.replicate n (0 : Nat))[i]?.getD 0 = 0 := by
  rw [List.getElem?_replicate]
  split <;> rfl
theorem unitL_get {i j : Nat} (hi : i < 9) : (unitL j)[i]?.getD 0 = if i = j then 1 else 0 := by
  unfold unitL
  rw [List.getElem?_set]
  by_cases h : j = i
  · subst h; simp [hi]
  · have h' : ¬ i = j := fun e => h e.symm
    rw [if_neg h, if_neg h', zeros_get]
theorem right_at {n m k a b : Int} {c : Nat} (hn : 1 ≤ n ∧ n ≤ 3) (hm : 1 ≤ m ∧ m ≤ 3) (hk : 1 ≤ k ∧ k ≤ 3) (ha : 0 ≤ a ∧ a < n * m) (hb : 0 ≤ b ∧ b < m * k) (hc : (c : Int) < n * k) :
    (((rightL m k a b)[c]?.getD 0 : Nat) : Int) = wantI m k a b c := by
  have hb9 := mul_bounds hn.1 hn.2 hk.1 hk.2
  have hc9 : c < 9 := by omega
  obtain ⟨_, _, q3, q4⟩ := place_bounds (b := b) hn hm hk ha
  unfold rightL wantI
  by_cases h1 : a % m = b / k
  · rw [if_pos h1, unitL_get hc9]
    have e : (c = (a / m * k + b % k).toNat) ↔ (a % m = b / k ∧ a / m = (c : Int) / k ∧ b % k = (c : Int) % k) := by
      have hm' : m = 1 ∨ m = 2 ∨ m = 3 := by omega
      have hk' : k = 1 ∨ k = 2 ∨ k = 3 := by omega
      rcases hm' with rfl | rfl | rfl <;> rcases hk' with rfl | rfl | rfl <;> omega
    by_cases h2 : c = (a / m * k + b % k).toNat
    · rw [if_pos h2, if_pos (e.1 h2)]; rfl
    · rw [if_neg h2, if_neg (fun h => h2 (e.2 h))]; rfl
  · rw [if_neg h1, if_neg (fun h => h1 h.1), zeros_get]
    rfl
theorem rightL_bytes (m k a b : Int) : Bytes 9 (rightL m k a b) := by
  unfold rightL
  split
  · exact (Bytes.zeros 9).set _ 1 (by omega)
  · exact Bytes.zeros 9
end Go.Proofs.Ytcfgpjkdonidgaa
