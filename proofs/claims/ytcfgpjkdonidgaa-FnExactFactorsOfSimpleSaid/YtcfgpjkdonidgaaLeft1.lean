/-
  Left sides: spec.l01Sum; impl.leftSides.
-/
import Derived.Test.YtcfgpjkdonidgaaRight3
namespace Go.Proofs.Ytcfgpjkdonidgaa
open Go.RowKit
set_option maxRecDepth 100000
def termN (q : List Nat) (a b c : Nat) : Nat := (q[a]?.getD 0) * (q[9 + b]?.getD 0) * (q[18 + c]?.getD 0)
def sumN : List (List Nat) → Nat → Nat → Nat → Nat
  | [], _, _, _ => 0
  | q :: qs, a, b, c => sumN qs a b c + termN q a b c
theorem sumN_append (xs ys : List (List Nat)) (a b c : Nat) : sumN (xs ++ ys) a b c = sumN xs a b c + sumN ys a b c := by
  induction xs with
  | nil => simp [sumN]
  | cons q xs ih => simp only [List.cons_append, sumN, ih]; omega
theorem sumN_step {qs : List (List Nat)} {j : Nat} (h : j < qs.length) (a b c : Nat) : sumN (qs.take (j + 1)) a b c = sumN (qs.take j) a b c + termN qs[j] a b c := by
  rw [List.take_succ_eq_append_getElem h, sumN_append]
  simp [sumN]
theorem mul3_le {x y z : Nat} (hx : x < 256) (hy : y < 256) (hz : z < 256) : x * y ≤ 65025 ∧ x * y * z ≤ 16581375 := by
  have h1 : x * y ≤ 255 * 255 := Nat.mul_le_mul (by omega) (by omega)
  have h2 : x * y * z ≤ 255 * 255 * 255 := Nat.mul_le_mul h1 (by omega)
  exact ⟨by omega, by omega⟩
theorem sumN_le {qs : List (List Nat)} (h : ∀ q ∈ qs, Bytes 27 q) (a b c : Nat) : sumN qs a b c ≤ qs.length * 16581375 := by
  induction qs with
  | nil => simp [sumN]
  | cons q qs ih =>
    have h1 := ih (fun x hx => h x (by simp [hx]))
    have hq := h q (by simp)
    have h2 := (mul3_le (hq.lt a) (hq.lt (9 + b)) (hq.lt (18 + c))).2
    simp only [sumN, List.length_cons, termN]
    omega
end Go.Proofs.Ytcfgpjkdonidgaa
