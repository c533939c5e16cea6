/-
  impl.leftSides: at each place the left side of the equation.
-/
import Derived.Test.YtcfgpjkdonidgaaLeft1
import Derived.BigRegion
namespace Go.Proofs.Ytcfgpjkdonidgaa
open Go.RowKit
set_option maxRecDepth 100000
attribute [local irreducible] wpStill
def sidesL (p : Nat) (qs : List (List Nat)) (a b : Nat) : List Nat := (List.range 9).map fun c => sumN qs a b c % p
theorem sidesL_bytes {p : Nat} (qs : List (List Nat)) (a b : Nat) (h0 : 0 < p) (h : p ≤ 256) : Bytes 9 (sidesL p qs a b) := by
  refine ⟨by simp [sidesL], fun n hn => ?_⟩
  obtain ⟨c, _, rfl⟩ := List.mem_map.1 hn
  have := Nat.mod_lt (sumN qs a b c) h0
  omega
theorem sidesL_get {p : Nat} (qs : List (List Nat)) (a b c : Nat) (hc : c < 9) : (sidesL p qs a b)[c]?.getD 0 = sumN qs a b c % p := by simp [sidesL, hc]
/-- The first 'c' elements of one list, the rest of another. -/
def mixL (new old : List Nat) (c : Nat) : List Nat := new.take c ++ old.drop c
theorem mixL_len {new old : List Nat} {c : Nat} (hn : new.length = 9) (ho : old.length = 9) (hc : c ≤ 9) : (mixL new old c).length = 9 := by simp [mixL, hn, ho]; omega
theorem mixL_get {new old : List Nat} {c : Nat} (hn : new.length = 9) (hc : c < 9) : (mixL new old c)[c]?.getD 0 = old[c]?.getD 0 := by
  unfold mixL
  rw [List.getElem?_append_right (by simp; omega)]
  simp [hn, Nat.min_eq_left (Nat.le_of_lt hc)]
theorem mixL_set {new old : List Nat} {c : Nat} (hn : new.length = 9) (ho : old.length = 9) (hc : c < 9) : (mixL new old c).set c (new[c]?.getD 0) = mixL new old (c + 1) := by
  unfold mixL
  have hl : (new.take c).length = c := by simp [hn]; omega
  rw [List.set_append_right _ _ (by omega), hl, Nat.sub_self, List.drop_eq_getElem_cons (by omega), List.set_cons_zero, List.take_succ_eq_append_getElem (by omega), List.append_assoc]
  simp [hn, hc]
theorem mixL_all {new old : List Nat} (hn : new.length = 9) (ho : old.length = 9) : mixL new old 9 = new := by
  rw [mixL, List.take_of_length_le (by omega), List.drop_eq_nil_of_le (by omega), List.append_nil]
theorem mixL_none (new old : List Nat) : mixL new old 0 = old := by simp [mixL]
end Go.Proofs.Ytcfgpjkdonidgaa
