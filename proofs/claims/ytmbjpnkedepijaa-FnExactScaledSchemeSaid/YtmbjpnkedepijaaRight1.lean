/-
  Places and right sides: spec.l01Want; impl.isIndex, unitForm, rightSides.
-/
import Derived.Test.YtmbjpnkedepijaaImplIs
namespace Go.Proofs.Ytmbjpnkedepijaa
open Go.RowKit
set_option maxRecDepth 100000
def inB (a N : Int) : Bool := decide (0 ≤ a) && decide (a < N)
def wantI (m k a b c : Int) : Int := if a % m = b / k ∧ a / m = c / k ∧ b % k = c % k then 1 else 0
def unitL (j : Nat) : List Nat := (List.replicate 9 0).set j 1
theorem unitL_len (j : Nat) : (unitL j).length = 9 := by simp [unitL]
def rightL (m k a b : Int) : List Nat := if a % m = b / k then unitL (a / m * k + b % k).toNat else List.replicate 9 0
theorem place_bounds {n m k a b : Int} (hn : 1 ≤ n ∧ n ≤ 3) (hm : 1 ≤ m ∧ m ≤ 3) (hk : 1 ≤ k ∧ k ≤ 3) (ha : 0 ≤ a ∧ a < n * m) : 0 ≤ a / m * k ∧ a / m * k ≤ 6 ∧ 0 ≤ a / m * k + b % k ∧ a / m * k + b % k < 9 := by
  have hn' : n = 1 ∨ n = 2 ∨ n = 3 := by omega
  have hm' : m = 1 ∨ m = 2 ∨ m = 3 := by omega
  have hk' : k = 1 ∨ k = 2 ∨ k = 3 := by omega
  rcases hn' with rfl | rfl | rfl <;> rcases hm' with rfl | rfl | rfl <;> rcases hk' with rfl | rfl | rfl <;> omega
end Go.Proofs.Ytmbjpnkedepijaa
