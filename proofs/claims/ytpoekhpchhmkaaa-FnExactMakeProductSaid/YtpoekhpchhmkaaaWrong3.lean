/-
  impl.countDifferent, CountWrong.
-/
import Derived.Test.YtpoekhpchhmkaaaWrong2
namespace Go.Proofs.Ytpoekhpchhmkaaa
open Go.RowKit
set_option maxRecDepth 100000
/-- At how many of the first places two lists differ. -/
def diffN (f g : List Nat) : Nat → Nat
  | 0 => 0
  | c + 1 => diffN f g c + (if f[c]?.getD 0 = g[c]?.getD 0 then 0 else 1)
theorem diffN_le (f g : List Nat) (c : Nat) : diffN f g c ≤ c := by
  induction c with
  | zero => simp [diffN]
  | succ c ih => simp only [diffN]; split <;> omega
/-- How many are wrong, row by row: what impl.CountWrong counts. -/
def cntB (p m k : Int) (qs : List (List Nat)) (a : Nat) : Nat → Nat
  | 0 => 0
  | b + 1 => cntB p m k qs a b + diffN (sidesL p.toNat qs a b) (rightL m k a b) 9
def cntA (p m k : Int) (qs : List (List Nat)) (N2 : Nat) : Nat → Nat
  | 0 => 0
  | a + 1 => cntA p m k qs N2 a + cntB p m k qs a N2
theorem cntB_le (p m k : Int) (qs : List (List Nat)) (a b : Nat) : cntB p m k qs a b ≤ b * 9 := by
  induction b with
  | zero => simp [cntB]
  | succ b ih => have := diffN_le (sidesL p.toNat qs a b) (rightL m k a b) 9; simp only [cntB]; omega
theorem cntA_le (p m k : Int) (qs : List (List Nat)) (N2 a : Nat) : cntA p m k qs N2 a ≤ a * (N2 * 9) := by
  induction a with
  | zero => simp [cntA]
  | succ a ih => have := cntB_le p m k qs a N2; simp only [cntA]; rw [Nat.succ_mul]; omega
end Go.Proofs.Ytpoekhpchhmkaaa
