/-
  spec.l01Standard, spec.StandardScheme.
-/
import Derived.Test.YtcmpeoijedddjaaLK1
import Derived.Test.YtcmpeoijedddjaaRight1
namespace Go.Proofs.Ytcmpeoijedddjaa
open Go.RowKit
set_option maxRecDepth 100000
section
variable {P : Program} {ops : Array Oper} {rest : List Oper} {o : Oper} {a : Act} {w : World} {Q : Exit → Act → World → Prop}
end
/-! ### The standard scheme, as lists -/
def stdQ (M K i j l : Nat) : List Nat := unitL (i * M + j) ++ unitL (j * K + l) ++ unitL (i * K + l)
def stdC (M K i j : Nat) : Nat → List (List Nat)
  | 0 => []
  | l + 1 => stdC M K i j l ++ [stdQ M K i j l]
def stdB (M K i : Nat) : Nat → List (List Nat)
  | 0 => []
  | j + 1 => stdB M K i j ++ stdC M K i j K
def stdA (M K : Nat) : Nat → List (List Nat)
  | 0 => []
  | i + 1 => stdA M K i ++ stdB M K i M
theorem stdC_len (M K i j l : Nat) : (stdC M K i j l).length = l := by
  induction l with
  | zero => rfl
  | succ l ih => simp [stdC, ih]
theorem stdB_len (M K i j : Nat) : (stdB M K i j).length = j * K := by
  induction j with
  | zero => simp [stdB]
  | succ j ih => simp [stdB, ih, stdC_len, Nat.succ_mul]
theorem stdA_len (M K i : Nat) : (stdA M K i).length = i * (M * K) := by
  induction i with
  | zero => simp [stdA]
  | succ i ih => simp [stdA, ih, stdB_len, Nat.succ_mul]
theorem unitL_bytes (j : Nat) : Bytes 9 (unitL j) := (Bytes.zeros 9).set j 1 (by omega)
theorem stdQ_bytes (M K i j l : Nat) : Bytes 27 (stdQ M K i j l) := by
  refine ⟨by simp [stdQ, unitL_len], fun n hn => ?_⟩
  simp only [stdQ, List.mem_append] at hn
  rcases hn with (hn | hn) | hn
  · exact (unitL_bytes _).2 n hn
  · exact (unitL_bytes _).2 n hn
  · exact (unitL_bytes _).2 n hn
theorem stdC_bytes (M K i j l : Nat) : ∀ q ∈ stdC M K i j l, Bytes 27 q := by
  induction l with
  | zero => simp [stdC]
  | succ l ih =>
    intro q hq
    simp only [stdC, List.mem_append, List.mem_singleton] at hq
    rcases hq with hq | rfl
    · exact ih q hq
    · exact stdQ_bytes _ _ _ _ _
theorem stdB_bytes (M K i j : Nat) : ∀ q ∈ stdB M K i j, Bytes 27 q := by
  induction j with
  | zero => simp [stdB]
  | succ j ih =>
    intro q hq
    simp only [stdB, List.mem_append] at hq
    rcases hq with hq | hq
    · exact ih q hq
    · exact stdC_bytes _ _ _ _ _ q hq
theorem stdA_bytes (M K i : Nat) : ∀ q ∈ stdA M K i, Bytes 27 q := by
  induction i with
  | zero => simp [stdA]
  | succ i ih =>
    intro q hq
    simp only [stdA, List.mem_append] at hq
    rcases hq with hq | hq
    · exact ih q hq
    · exact stdB_bytes _ _ _ _ q hq
section
variable {P : Program} {ops : Array Oper} {rest : List Oper} {o : Oper} {a : Act} {w : World} {Q : Exit → Act → World → Prop}
end
section
variable {w wr w2 w3 : World} {lo g : Nat} {p n m k : Int} {qs : List (List Nat)} {v v' : Value}
end
theorem unit3_bytes (x y z : Nat) : Bytes 27 (unitL x ++ unitL y ++ unitL z) := by
  refine ⟨by simp [unitL_len], fun n hn => ?_⟩
  simp only [List.mem_append] at hn
  rcases hn with (hn | hn) | hn
  · exact (unitL_bytes _).2 n hn
  · exact (unitL_bytes _).2 n hn
  · exact (unitL_bytes _).2 n hn
theorem set3_unit {x y z : Nat} (hx : x < 9) (hy : y < 9) (hz : z < 9) : (((List.replicate 27 0).set x 1).set (9 + y) 1).set (18 + z) 1 = unitL x ++ unitL y ++ unitL z := by
  have h : ∀ x : Fin 9, ∀ y : Fin 9, ∀ z : Fin 9, (((List.replicate 27 0).set x.1 1).set (9 + y.1) 1).set (18 + z.1) 1 = (List.replicate 9 0).set x.1 1 ++ (List.replicate 9 0).set y.1 1 ++ (List.replicate 9 0).set z.1 1 := by decide +kernel
  exact h ⟨x, hx⟩ ⟨y, hy⟩ ⟨z, hz⟩
end Go.Proofs.Ytcmpeoijedddjaa
