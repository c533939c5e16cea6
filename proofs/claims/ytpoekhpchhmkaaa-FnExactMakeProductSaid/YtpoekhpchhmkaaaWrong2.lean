/-
  spec.l01Correct, CountWrong, IsCorrect.
-/
import Derived.Test.YtpoekhpchhmkaaaWrong1
namespace Go.Proofs.Ytpoekhpchhmkaaa
open Go.RowKit
set_option maxRecDepth 100000
def wrS (p n m k : Int) (qs : List (List Nat)) : Wst := runA (wrongB p m k qs) (m * k).toNat (n * k).toNat (n * m).toNat
theorem wrS_wf (p n m k : Int) (qs : List (List Nat)) : WF (wrS p n m k qs) := WF.runA _ _ _ _
theorem wrS_le {p n m k : Int} {qs : List (List Nat)} (h : schemeB p n m k qs = true) : (wrS p n m k qs).1 ≤ 729 := by
  obtain ⟨⟨x1, x2⟩, ⟨y1, y2⟩, z1, z2⟩ := sizesB_mul (schemeB_sizes h)
  have h1 := runA_le (wrongB p m k qs) (m * k).toNat (n * k).toNat (n * m).toNat
  have h2 : (m * k).toNat * (n * k).toNat ≤ 9 * 9 := Nat.mul_le_mul (by omega) (by omega)
  have h3 : (n * m).toNat * ((m * k).toNat * (n * k).toNat) ≤ 9 * 81 := Nat.mul_le_mul (by omega) h2
  unfold wrS
  omega
def sCode (p n m k : Int) (qs : List (List Nat)) : Int := if schemeB p n m k qs then 0 else 1
def cntI (p n m k : Int) (qs : List (List Nat)) : Int := if schemeB p n m k qs then ((wrS p n m k qs).1 : Nat) else 0
def okB (p n m k : Int) (qs : List (List Nat)) : Bool := schemeB p n m k qs && (((wrS p n m k qs).1 : Nat) == (0 : Int))
end Go.Proofs.Ytpoekhpchhmkaaa
