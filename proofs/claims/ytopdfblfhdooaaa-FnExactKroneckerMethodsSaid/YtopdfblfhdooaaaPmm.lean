/-
  spec.PlainMethod. (Made by mkpmm.py.)
-/
import Derived.Test.YtopdfblfhdooaaaMt3
import Derived.Test.YtopdfblfhdooaaaTen2
import Derived.Test.YtopdfblfhdooaaaHeldT
namespace Go.Proofs.Ytopdfblfhdooaaa
open Go.RowKit
set_option maxRecDepth 100000
attribute [local irreducible] wpList
theorem tqM_wrap {c M x : Nat} (h : c / M = x) (hc : c < 1000000) : IntKind.i64.wrap ((c : Int).tdiv (M : Int)) = (x : Int) := by
  have h1 := Nat.div_le_self c M
  rw [← Int.ofNat_tdiv, h]
  exact IntWalk.i64_in _ (by omega)
theorem tmM_cast {c M x : Nat} (h : c % M = x) : (c : Int).tmod (M : Int) = (x : Int) := by rw [← Int.ofNat_tmod, h]
theorem mwM_cast {a b c : Nat} (h : a * b = c) (hc : c < 1000000000000) : IntKind.i64.wrap ((a : Int) * (b : Int)) = (c : Int) := by
  rw [← Int.natCast_mul, h]
  exact IntWalk.i64_in _ (by omega)
theorem RdI.c1m {w : World} {b off : Nat} {xs : List Int} {X : Int} {i : Nat} (h : RdI w (some ⟨b, off, none⟩) xs) (hi : xs[i]? = some X) : w.cell? ⟨b, off + i * 1, none⟩ = some (.int .i64 X) := by
  have hlt : i < xs.length := by
    rcases Nat.lt_or_ge i xs.length with h9 | h9
    · exact h9
    · rw [List.getElem?_eq_none h9] at hi; cases hi
  obtain ⟨b', off', hA0, hc⟩ := h.at_ hlt
  cases hA0
  rw [List.getElem?_eq_getElem hlt] at hi
  cases hi
  rw [Nat.mul_one]
  exact hc
theorem exec_conv8m {o : Oper} {a : Act} {w : World} (x : Operand) (ho : o.op = .convert 2 5 x) (m : Int) (y : Nat) (hx : a.eval x = .int .i64 m) (hy : y < 256) (hm : m = (y : Int)) : (execOp a.eval o).run Try.prog w = .ok (.value (.int .u8 (y : Int))) w := by
  subst hm
  have hw : IntKind.u8.wrap (y : Int) = (y : Int) := by unfold IntKind.wrap; simp [IntKind.signed, IntKind.bits]; omega
  unfold execOp
  simp only [ho, hx]
  simp [go_sem, Try.underlying5, Try.underlying2, hw]
/-- The product of the plain method for a place. -/
def plP (b d : Nat) (x : Int) (t : Nat) : List Nat := (((List.replicate 27 0).set (t / (b * d)) x.toNat).set (9 + t / d % b) 1).set (18 + t % d) 1
def plL (b d : Nat) (xs : List Int) (n : Nat) : List (List Nat) := ((List.range n).filter fun t => !(xs[t]?.getD 0 == 0)).map fun t => plP b d (xs[t]?.getD 0) t
def plCode (p a b d : Int) (xs : List Int) : Int := if tenB p a b d xs = true then (if (plL b.toNat d.toNat xs xs.length).length ≤ 30 then 0 else 3) else 1
theorem plL_zero {b d t : Nat} {xs : List Int} {X : Int} (_ : xs[t]? = some X) (h : xs[t]?.getD 0 = 0) : plL b d xs (t + 1) = plL b d xs t := by
  unfold plL
  rw [List.range_succ, List.filter_append, List.map_append]
  simp [h]
theorem plL_step {b d t : Nat} {xs : List Int} {X : Int} (hX : xs[t]? = some X) (h : ¬ xs[t]?.getD 0 = 0) : plL b d xs (t + 1) = plL b d xs t ++ [plP b d X t] := by
  unfold plL
  rw [List.range_succ, List.filter_append, List.map_append]
  rw [hX, Option.getD_some] at h
  simp [hX, h]
theorem plL_mono {b d : Nat} {xs : List Int} {t n : Nat} (h : t ≤ n) : (plL b d xs t).length ≤ (plL b d xs n).length := by
  obtain ⟨k, rfl⟩ := Nat.le.dest h
  unfold plL
  rw [List.length_map, List.length_map]
  exact (List.Sublist.filter _ (by rw [List.range_add]; exact List.sublist_append_left _ _)).length_le
theorem plCode_full {p : Int} {a b d t : Nat} {xs : List Int} {X : Int} (hs : tenB p a b d xs = true) (hX : xs[t]? = some X) (h : ¬ xs[t]?.getD 0 = 0) (hl : 30 ≤ (plL b d xs t).length) (ht : t < xs.length) : plCode p a b d xs = 3 := by
  unfold plCode
  rw [hs, if_pos rfl, Int.toNat_natCast, Int.toNat_natCast]
  have h1 := plL_mono (b := b) (d := d) (xs := xs) (show t + 1 ≤ xs.length by omega)
  rw [plL_step hX h, List.length_append] at h1
  simp only [List.length_cons, List.length_nil] at h1
  rw [if_neg (by omega)]
theorem plCode_ok {p : Int} {a b d : Nat} {xs : List Int} (hs : tenB p a b d xs = true) (hl : (plL b d xs xs.length).length ≤ 30) : plCode p a b d xs = 0 := by
  unfold plCode
  rw [hs, if_pos rfl, Int.toNat_natCast, Int.toNat_natCast, if_pos hl]
theorem inB_of {p : Int} {xs : List Int} {t : Nat} {X : Int} (h : numsB p xs = true) (hX : xs[t]? = some X) : 0 ≤ X ∧ X < p := by
  unfold numsB at h
  have h9 := List.all_eq_true.1 h X (List.mem_of_getElem? hX)
  simpa [inB] using h9
theorem ten_parts {p : Int} {a b d : Nat} {xs : List Int} (h : tenB p a b d xs = true) : primeB p = true ∧ (1 ≤ a ∧ a ≤ 9) ∧ (1 ≤ b ∧ b ≤ 9) ∧ (1 ≤ d ∧ d ≤ 9) ∧ xs.length = a * b * d ∧ numsB p xs = true := by
  unfold tenB sideB at h
  simp only [Bool.and_eq_true, decide_eq_true_eq] at h
  obtain ⟨⟨⟨⟨⟨h1, h2⟩, h3⟩, h4⟩, h5⟩, h6⟩ := h
  refine ⟨h1, by omega, by omega, by omega, ?_, h6⟩
  rw [← Int.natCast_mul, ← Int.natCast_mul] at h5
  omega
theorem pl_idx {t a b d : Nat} (h : t < a * b * d) (hb : 0 < b) (hd : 0 < d) : t / (b * d) < a ∧ t / d % b < b ∧ t % d < d := by
  refine ⟨?_, Nat.mod_lt _ hb, Nat.mod_lt _ hd⟩
  exact Nat.div_lt_of_lt_mul (by rw [Nat.mul_comm, ← Nat.mul_assoc]; exact h)
end Go.Proofs.Ytopdfblfhdooaaa
