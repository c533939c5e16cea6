/-
  impl.isProduct for any shapes; isProductFor: the same as spec.l01Product says.
-/
import Derived.Test.YtolgfpcadfjliaaFac
import Derived.Maps.RangeWalk
namespace Go.Proofs.Ytolgfpcadfjliaa
open Go.RowKit
set_option maxRecDepth 100000
attribute [local irreducible] wpStill
def shR (n m : Int) (i : Nat) : Int := if i = 1 then m else n
def shC (m k : Int) (i : Nat) : Int := if i = 0 then m else k
def facB (p n m k : Int) (q : List Nat) (i : Nat) : Bool := !zeroB (segm q (i * 9) 9) && formB p (segm q (i * 9) 9) (shR n m i * shC m k i)
theorem prodB_facs (p n m k : Int) (q : List Nat) : prodB p n m k q = (facB p n m k q 0 && facB p n m k q 1 && facB p n m k q 2) := by
  simp only [prodB, facB, shR, shC, Nat.zero_mul, Nat.one_mul, show 2 * 9 = 18 from rfl, show ¬ (0 : Nat) = 1 by omega, show ¬ (1 : Nat) = 0 by omega, show ¬ (2 : Nat) = 0 by omega, show ¬ (2 : Nat) = 1 by omega, if_true, if_false]
  cases formB p (segm q 0 9) (n * m) <;> cases formB p (segm q 9 9) (m * k) <;> cases formB p (segm q 18 9) (n * k) <;> cases zeroB (segm q 0 9) <;> cases zeroB (segm q 9 9) <;> cases zeroB (segm q 18 9) <;> rfl
theorem prodB_no {p n m k : Int} {q : List Nat} {i : Nat} (hi : i < 3) (h : facB p n m k q i = false) : prodB p n m k q = false := by
  rw [prodB_facs]
  obtain rfl | rfl | rfl : i = 0 ∨ i = 1 ∨ i = 2 := by omega
  all_goals simp [h]
theorem prodB_yes {p n m k : Int} {q : List Nat} (h : ∀ i, i < 3 → facB p n m k q i = true) : prodB p n m k q = true := by
  rw [prodB_facs, h 0 (by omega), h 1 (by omega), h 2 (by omega)]
  rfl
theorem sizeB_shR {n m : Int} (hn : sizeB n = true) (hm : sizeB m = true) (i : Nat) : sizeB (shR n m i) = true := by unfold shR; split <;> assumption
theorem sizeB_shC {m k : Int} (hm : sizeB m = true) (hk : sizeB k = true) (i : Nat) : sizeB (shC m k i) = true := by unfold shC; split <;> assumption
theorem shapes_at (n m k : Int) {i : Nat} (hi : i < 3) : (#[.int .i64 n, .int .i64 m, .int .i64 m, .int .i64 k, .int .i64 n, .int .i64 k] : Array Value).extract (0 + i * 2) (0 + i * 2 + 2) = #[.int .i64 (shR n m i), .int .i64 (shC m k i)] := by
  obtain rfl | rfl | rfl : i = 0 ∨ i = 1 ∨ i = 2 := by omega
  all_goals rfl
/-- What a factor has to be, the shapes being told as functions. -/
def facG (p : Int) (R C : Nat → Int) (q : List Nat) (i : Nat) : Bool := !zeroB (segm q (i * 9) 9) && formB p (segm q (i * 9) 9) (R i * C i)
def prodG (p : Int) (R C : Nat → Int) (q : List Nat) : Bool := facG p R C q 0 && facG p R C q 1 && facG p R C q 2
theorem prodB_G (p n m k : Int) (q : List Nat) : prodB p n m k q = prodG p (shR n m) (shC m k) q := prodB_facs p n m k q
theorem prodG_no {p : Int} {R C : Nat → Int} {q : List Nat} {i : Nat} (hi : i < 3) (h : facG p R C q i = false) : prodG p R C q = false := by
  unfold prodG
  obtain rfl | rfl | rfl : i = 0 ∨ i = 1 ∨ i = 2 := by omega
  all_goals simp [h]
theorem prodG_yes {p : Int} {R C : Nat → Int} {q : List Nat} (h : ∀ i, i < 3 → facG p R C q i = true) : prodG p R C q = true := by
  unfold prodG
  rw [h 0 (by omega), h 1 (by omega), h 2 (by omega)]
  rfl
theorem shapes_atG (R C : Nat → Int) {i : Nat} (hi : i < 3) : (#[.int .i64 (R 0), .int .i64 (C 0), .int .i64 (R 1), .int .i64 (C 1), .int .i64 (R 2), .int .i64 (C 2)] : Array Value).extract (0 + i * 2) (0 + i * 2 + 2) = #[.int .i64 (R i), .int .i64 (C i)] := by
  obtain rfl | rfl | rfl : i = 0 ∨ i = 1 ∨ i = 2 := by omega
  all_goals rfl
end Go.Proofs.Ytolgfpcadfjliaa
