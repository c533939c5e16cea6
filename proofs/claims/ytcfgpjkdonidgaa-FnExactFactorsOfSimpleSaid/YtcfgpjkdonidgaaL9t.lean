/-
  spec.l09Tensor, impl.tensorOfMethod, TensorOfMethod of both sides. (Made by mkl9t.py.)
-/
import Derived.Test.YtcfgpjkdonidgaaMt2
import Derived.Test.YtcfgpjkdonidgaaTop
import Derived.Test.YtcfgpjkdonidgaaTenK
import Derived.Test.YtcfgpjkdonidgaaHeldT
namespace Go.Proofs.Ytcfgpjkdonidgaa
open Go.RowKit
set_option maxRecDepth 100000
attribute [local irreducible] wpList
theorem OwnI.ne_lt8 {w : World} {lo g : Nat} {v : Value} {xs : List Int} (h : OwnI w lo v xs) (hg : g < lo) : some g ≠ v.ownBlock := fun e => by have := (h.lt e.symm).1; omega

def tZ (code x : Int) : Int := if code = 0 then x else 0
def tL (code : Int) (l : List Int) : List Int := if code = 0 then l else []
theorem tL_len {code : Int} {l : List Int} {N : Nat} (h : code = 0 → l.length ≤ N) : (tL code l).length ≤ N := by
  unfold tL
  split
  · exact h (by assumption)
  · simp

theorem tq_wrap {c M x : Nat} (h : c / M = x) (hc : c < 1000000) : IntKind.i64.wrap ((c : Int).tdiv (M : Int)) = (x : Int) := by
  have h1 := Nat.div_le_self c M
  rw [← Int.ofNat_tdiv, h]
  exact IntWalk.i64_in _ (by omega)
theorem tm_cast {c M x : Nat} (h : c % M = x) : (c : Int).tmod (M : Int) = (x : Int) := by rw [← Int.ofNat_tmod, h]
theorem mw_cast {a b c : Nat} (h : a * b = c) (hc : c < 1000000000000) : IntKind.i64.wrap ((a : Int) * (b : Int)) = (c : Int) := by
  rw [← Int.natCast_mul, h]
  exact IntWalk.i64_in _ (by omega)
theorem aw_cast {a b c : Nat} (h : a + b = c) (hc : c < 1000000000000) : IntKind.i64.wrap ((a : Int) + (b : Int)) = (c : Int) := by
  rw [← Int.natCast_add, h]
  exact IntWalk.i64_in _ (by omega)
theorem cell_u8 {w : World} {b o x A : Nat} {q : List Nat} {t : TypeId} (h : At w b (.cells (u8s q) t (0, 0))) (hl : o + x < q.length) (hv : q[o + x]?.getD 0 = A) : w.cell? ⟨b, o + x * 1, none⟩ = some (.int .u8 (A : Int)) := by
  have h9 := h.cell (i := o + x) hl
  rw [hv] at h9
  rw [Nat.mul_one]
  exact h9
theorem cell_iar {w : World} {g c : Nat} {xs : List Int} {V : Int} (h : At w g (.cells (iar xs) 2 (0, 0))) (hv : xs[c]? = some V) : w.cell? ⟨g, c * 1, none⟩ = some (.int .i64 V) := by
  rw [Nat.mul_one, h.at_]
  simp [iar, i64s, hv]
/-- The first 'c' numbers of one list, the rest of another. -/
def mixI (new old : List Int) (c : Nat) : List Int := new.take c ++ old.drop c
theorem mixI_len {new old : List Int} {c N : Nat} (hn : new.length = N) (ho : old.length = N) (hc : c ≤ N) : (mixI new old c).length = N := by simp [mixI, hn, ho]; omega
theorem mixI_get {new old : List Int} {c N : Nat} (hn : new.length = N) (hc : c < N) : (mixI new old c)[c]? = old[c]? := by
  have hl : (new.take c).length = c := by simp [hn]; omega
  unfold mixI
  rw [List.getElem?_append_right (by omega), hl, Nat.sub_self, List.getElem?_drop, Nat.add_zero]
theorem mixI_set {new old : List Int} {c N : Nat} {X : Int} (hn : new.length = N) (ho : old.length = N) (hc : c < N) (hX : new[c]? = some X) : (mixI new old c).set c X = mixI new old (c + 1) := by
  have hl : (new.take c).length = c := by simp [hn]; omega
  unfold mixI
  rw [List.set_append_right _ _ (by omega), hl, Nat.sub_self, List.drop_eq_getElem_cons (by omega), List.set_cons_zero, List.take_add_one, hX, List.append_assoc]
  rfl
theorem mixI_zero (new old : List Int) : mixI new old 0 = old := by simp [mixI]
theorem mixI_all {new old : List Int} {N : Nat} (hn : new.length = N) (ho : old.length = N) : mixI new old N = new := by
  rw [mixI, List.take_of_length_le (by omega), List.drop_eq_nil_of_le (by omega), List.append_nil]
theorem topL_get {P N0 N1 N2 c : Nat} (qs : List (List Nat)) (hc : c < N0 * N1 * N2) : (topL P N0 N1 N2 qs)[c]? = some (((sumN qs (c / N2 / N1) (c / N2 % N1) (c % N2) % P : Nat)) : Int) := by
  unfold topL genL
  rw [List.getElem?_map, List.getElem?_range hc]
  simp [gen]
theorem topL_zero (P N0 N1 N2 : Nat) : topL P N0 N1 N2 [] = List.replicate (N0 * N1 * N2) 0 := by
  apply List.ext_getElem
  · simp [topL, genL]
  · intro t h1 h2
    simp [topL, genL, gen, sumN]
def tomCode (p i j k : Int) (qs : List (List Nat)) : Int := if methB p i j k qs = true then 0 else 1
def tomL (p i j k : Int) (qs : List (List Nat)) : List Int := topL p i.toNat j.toNat k.toNat qs
theorem tom_len {p i j k : Int} {qs : List (List Nat)} : (tL (tomCode p i j k qs) (tomL p i j k qs)).length ≤ 1048576 := tL_len fun h => by
  unfold tomCode at h
  split at h
  · next h2 =>
    obtain ⟨_, h3, h4, h5, _⟩ := methB_parts h2
    simp only [sideB, Bool.and_eq_true, decide_eq_true_eq] at h3 h4 h5
    unfold tomL
    rw [topL_len]
    have := places_729 (n0 := i.toNat) (n1 := j.toNat) (n2 := k.toNat) (by omega) (by omega) (by omega)
    omega
  · omega
theorem methB_nums {p i j k : Int} {qs : List (List Nat)} (h : methB p i j k qs = true) : ∃ P N0 N1 N2 : Nat, p = P ∧ i = N0 ∧ j = N1 ∧ k = N2 ∧ (2 ≤ P ∧ P ≤ 5) ∧ (1 ≤ N0 ∧ N0 ≤ 9) ∧ (1 ≤ N1 ∧ N1 ≤ 9) ∧ (1 ≤ N2 ∧ N2 ≤ 9) := by
  obtain ⟨h1, h3, h4, h5, _⟩ := methB_parts h
  have hp := prime_le5 h1
  simp only [sideB, Bool.and_eq_true, decide_eq_true_eq] at h3 h4 h5
  exact ⟨p.toNat, i.toNat, j.toNat, k.toNat, by omega, by omega, by omega, by omega, by omega, by omega, by omega, by omega⟩
theorem quot_bounds {c N0 N1 N2 : Nat} (h : c < N0 * N1 * N2) (l0 : N0 ≤ 9) (l1 : 1 ≤ N1 ∧ N1 ≤ 9) (l2 : 1 ≤ N2 ∧ N2 ≤ 9) : c / N2 / N1 < 9 ∧ c / N2 % N1 < 9 ∧ c % N2 < 9 := by
  have q1 : c / N2 < N0 * N1 := Nat.div_lt_of_lt_mul (by rw [Nat.mul_comm]; exact h)
  have q2 : c / N2 / N1 < N0 := Nat.div_lt_of_lt_mul (by rw [Nat.mul_comm]; exact q1)
  have q3 := Nat.mod_lt (c / N2) (show 0 < N1 by omega)
  have q4 := Nat.mod_lt c (show 0 < N2 by omega)
  omega
theorem al_impl_Tensor {o : Oper} {a : Act} {w : World} (ho : o.op = .alloc 28) : (execOp a.eval o).run Try.prog w = .ok (.value (.pointer (some ⟨w.heap.size, 0, none⟩))) (w.alloc (.cells #[.int .i64 0, .int .i64 0, .int .i64 0, .int .i64 0, .slice none 0 0] 28 (0, 0))) := by
  unfold execOp
  rw [ho]
  kernel_rfl
end Go.Proofs.Ytcfgpjkdonidgaa
