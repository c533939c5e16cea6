/-
  SplitProduct: the plain functions of its answers.
-/
import Derived.Test.YtbgoopmmdbhogaaSp1
import Derived.Test.YtbgoopmmdbhogaaMv2
namespace Go.Proofs.Ytbgoopmmdbhogaa
open Go.RowKit
set_option maxRecDepth 100000
/-- The error: 1 no scheme, 2 a number or the form out of range, 5 the form zero or the factor itself, 3 full. -/
def spCode (p n m k : Int) (qs : List (List Nat)) (i f : Int) (form : List Nat) : Int :=
  if schemeB p n m k qs then
    (if inI i qs.length && (inI f 3 && formB p form (lenF n m k f.toNat)) then
      (if zeroB form || form == facQ (qs[i.toNat]?.getD []) f.toNat then 5 else if qs.length = 30 then 3 else 0)
    else 2)
  else 1
def spQs (p : Int) (qs : List (List Nat)) (i f : Nat) (form : List Nat) : List (List Nat) :=
  qs.set i (withQ (qs[i]?.getD []) f form) ++ [withQ (qs[i]?.getD []) f (adF p (-1) (facQ (qs[i]?.getD []) f) form)]
def spZ (p n m k : Int) (qs : List (List Nat)) (i f : Int) (form : List Nat) (x : Int) : Int := if spCode p n m k qs i f form = 0 then x else 0
def spR (p n m k : Int) (qs : List (List Nat)) (i f : Int) (form : List Nat) : List (List Nat) := if spCode p n m k qs i f form = 0 then spQs p qs i.toNat f.toNat form else []
theorem spQs_good {p : Int} {qs : List (List Nat)} {i f : Nat} {form : List Nat} (hp : primeB p = true) (hq : ∀ q ∈ qs, Bytes 27 q) (hi : i < qs.length) (hf : f < 3) (hform : Bytes 9 form) :
    (∀ q ∈ spQs p qs i f form, Bytes 27 q) ∧ (spQs p qs i f form).length = qs.length + 1 := by
  have h5 := primeB_5 hp
  have hbi := hq _ (List.getElem_mem hi)
  have e : qs[i]?.getD [] = qs[i] := by simp [hi]
  unfold spQs
  rw [e]
  refine ⟨fun q hm => ?_, by simp⟩
  rcases List.mem_append.1 hm with hm | hm
  · rcases List.mem_or_eq_of_mem_set hm with hm | rfl
    · exact hq q hm
    · exact withQ_bytes hbi hform hf
  · obtain rfl := List.mem_singleton.1 hm
    exact withQ_bytes hbi (adF_bytes _ _ _ h5.1 h5.2) hf
theorem spR_good {p n m k : Int} {qs : List (List Nat)} {i f : Int} {form : List Nat} (hq : ∀ q ∈ qs, Bytes 27 q) (hform : Bytes 9 form) : (∀ q ∈ spR p n m k qs i f form, Bytes 27 q) ∧ (spR p n m k qs i f form).length ≤ 31 := by
  unfold spR
  split
  · rename_i h
    unfold spCode at h
    split at h
    · rename_i hs
      split at h
      · rename_i hin
        simp only [Bool.and_eq_true] at hin
        obtain ⟨a, rfl, ha⟩ := inI_nat hin.1
        obtain ⟨b, rfl, hb⟩ := inI_nat hin.2.1
        have h1 := spQs_good (sizesB_parts (schemeB_sizes hs)).1 hq ha hb hform
        have h2 := schemeB_len hs
        rw [Int.toNat_natCast, Int.toNat_natCast]
        exact ⟨h1.1, by omega⟩
      · simp at h
    · simp at h
  · simp
end Go.Proofs.Ytbgoopmmdbhogaa
