/-
  The plus move of two products: the plain function.
-/
import Derived.Test.YtbgoopmmdbhogaaMv2
import Derived.Test.YtbgoopmmdbhogaaHas
namespace Go.Proofs.Ytbgoopmmdbhogaa
open Go.RowKit
def pmI (p : Int) (q r : List Nat) : List Nat := cat3 (adF p (-1) (segm q 0 9) (segm r 0 9)) (segm q 9 9) (segm q 18 9)
def pmK (p : Int) (q r : List Nat) : List Nat := cat3 (segm r 0 9) (segm q 9 9) (adF p 1 (segm q 18 9) (segm r 18 9))
def pmL (p : Int) (q r : List Nat) : List Nat := cat3 (segm r 0 9) (adF p (-1) (segm r 9 9) (segm q 9 9)) (segm r 18 9)
def pmQs (p : Int) (qs : List (List Nat)) (i j : Nat) : List (List Nat) :=
  (((qs.set i (pmI p (qs[i]?.getD []) (qs[j]?.getD []))).set j (pmK p (qs[i]?.getD []) (qs[j]?.getD []))) ++ [pmL p (qs[i]?.getD []) (qs[j]?.getD [])]).filter nzB
theorem pmQs_eq (p : Int) {qs : List (List Nat)} {i j : Nat} (hi : i < qs.length) (hj : j < qs.length) : pmQs p qs i j = (((qs.set i (pmI p qs[i] qs[j])).set j (pmK p qs[i] qs[j])) ++ [pmL p qs[i] qs[j]]).filter nzB := by
  simp [pmQs, hi, hj]
end Go.Proofs.Ytbgoopmmdbhogaa
