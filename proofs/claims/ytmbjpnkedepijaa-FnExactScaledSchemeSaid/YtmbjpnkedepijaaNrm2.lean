/-
  spec.l03Normal: the normal product. (Made by mknrm2.py.)
-/
import Derived.Test.YtmbjpnkedepijaaNrm1
namespace Go.Proofs.Ytmbjpnkedepijaa
open Go.RowKit
set_option maxRecDepth 100000
def normQ (p : Int) (q : List Nat) : List Nat :=
  cat3 (scF p (inv p (lead (segm q 0 9))) (segm q 0 9)) (scF p (inv p (lead (segm q 9 9))) (segm q 9 9)) (scF p ((lead (segm q 0 9) : Int) * (lead (segm q 9 9) : Int)) (segm q 18 9))
/-- The product's first two forms have a first number, as numbers modulo p. -/
def LeadOk (p : Int) (q : List Nat) : Prop := 1 ≤ (lead (segm q 0 9) : Int) ∧ (lead (segm q 0 9) : Int) < p ∧ 1 ≤ (lead (segm q 9 9) : Int) ∧ (lead (segm q 9 9) : Int) < p
theorem scF_bytes {p : Int} (k : Int) (f : List Nat) (hp : 0 < p) (hp5 : p ≤ 5) : Bytes 9 (scF p k f) := adF_bytes k _ f hp hp5
theorem normQ_bytes {p : Int} (q : List Nat) (hp : primeB p = true) : Bytes 27 (normQ p q) :=
  bytes3 (scF_bytes _ _ (primeB_5 hp).1 (primeB_5 hp).2) (scF_bytes _ _ (primeB_5 hp).1 (primeB_5 hp).2) (scF_bytes _ _ (primeB_5 hp).1 (primeB_5 hp).2)
end Go.Proofs.Ytmbjpnkedepijaa
