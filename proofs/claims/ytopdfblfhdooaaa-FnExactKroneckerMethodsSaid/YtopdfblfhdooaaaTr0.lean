/-
  The transposed form of one: the plain function, place by place.
-/
import Derived.Test.YtopdfblfhdooaaaAdF
namespace Go.Proofs.Ytopdfblfhdooaaa
open Go.RowKit
set_option maxRecDepth 100000
/-- Where the number of the place 's' goes. -/
def trTo (rows cols s : Nat) : Nat := s % cols * rows + s / cols
/-- Which place the number at the place 't' comes from. -/
def trOf (rows cols t : Nat) : Nat := t % rows * cols + t / rows
/-- The transposed form, when the numbers of the first 's' places have been put in. -/
def trP (rows cols : Nat) (f : List Nat) (s : Nat) : List Nat :=
  (List.range 9).map fun t => if decide (t < rows * cols) && decide (trOf rows cols t < s) then f[trOf rows cols t]?.getD 0 else 0
def trF (rows cols : Nat) (f : List Nat) : List Nat := trP rows cols f (rows * cols)
theorem trP_len (rows cols : Nat) (f : List Nat) (s : Nat) : (trP rows cols f s).length = 9 := by simp [trP]
theorem trP_bytes (rows cols s : Nat) {f : List Nat} (hf : Bytes 9 f) : Bytes 9 (trP rows cols f s) := by
  refine ⟨trP_len _ _ _ _, fun n hn => ?_⟩
  simp only [trP, List.mem_map, List.mem_range] at hn
  obtain ⟨t, _, rfl⟩ := hn
  split
  · exact hf.lt _
  · omega
theorem trF_bytes (rows cols : Nat) {f : List Nat} (hf : Bytes 9 f) : Bytes 9 (trF rows cols f) := trP_bytes _ _ _ hf
theorem trP_zero (rows cols : Nat) (f : List Nat) : trP rows cols f 0 = List.replicate 9 0 := by
  unfold trP
  simp only [Nat.not_lt_zero, decide_false, Bool.and_false, Bool.false_eq_true, if_false]
  rfl
theorem tr_facts : ∀ rows : Fin 4, ∀ cols : Fin 4, ∀ s : Fin 9, ∀ t : Fin 9, 1 ≤ rows.val → 1 ≤ cols.val → s.val < rows.val * cols.val →
    (decide (trTo rows cols s = t.val) && !(decide (t.val < rows.val * cols.val) && decide (trOf rows cols t = s.val))) = false ∧
    (decide (trTo rows cols s ≠ t.val) && ((decide (t.val < rows.val * cols.val) && decide (trOf rows cols t < s.val + 1)) != (decide (t.val < rows.val * cols.val) && decide (trOf rows cols t < s.val)))) = false ∧ trTo rows cols s < 9 := by decide +kernel
theorem tr_facts' {rows cols s t : Nat} (hr : 1 ≤ rows) (hr3 : rows ≤ 3) (hc : 1 ≤ cols) (hc3 : cols ≤ 3) (hs : s < rows * cols) (ht : t < 9) :
    (trTo rows cols s = t → (t < rows * cols ∧ trOf rows cols t = s)) ∧
    (trTo rows cols s ≠ t → (decide (t < rows * cols) && decide (trOf rows cols t < s + 1)) = (decide (t < rows * cols) && decide (trOf rows cols t < s))) ∧ trTo rows cols s < 9 := by
  have h9 : rows * cols ≤ 9 := Nat.mul_le_mul hr3 hc3
  have h := tr_facts ⟨rows, by omega⟩ ⟨cols, by omega⟩ ⟨s, by omega⟩ ⟨t, ht⟩ hr hc hs
  refine ⟨fun e => ?_, fun e => ?_, h.2.2⟩
  · have h1 := h.1
    simp only [e, decide_true, Bool.true_and, Bool.not_eq_false', Bool.and_eq_true, decide_eq_true_eq] at h1
    exact h1
  · have h1 := h.2.1
    simp only [ne_eq, e, not_false_eq_true, decide_true, Bool.true_and, bne_eq_false_iff_eq] at h1
    exact h1
theorem trP_set {rows cols s : Nat} (f : List Nat) (hr : 1 ≤ rows) (hr3 : rows ≤ 3) (hc : 1 ≤ cols) (hc3 : cols ≤ 3) (hs : s < rows * cols) :
    (trP rows cols f s).set (trTo rows cols s) (f[s]?.getD 0) = trP rows cols f (s + 1) := by
  apply List.ext_getElem
  · simp [trP]
  intro t h1 h2
  have ht : t < 9 := by simpa [trP] using h2
  have F := tr_facts' hr hr3 hc hc3 hs ht
  rw [List.getElem_set]
  split
  · rename_i e
    obtain ⟨a, b⟩ := F.1 e
    simp [trP, a, b]
  · rename_i e
    have hb := F.2.1 e
    simp only [trP, List.getElem_map, List.getElem_range]
    rw [hb]
theorem trTo_lt {rows cols s : Nat} (hr : 1 ≤ rows) (hr3 : rows ≤ 3) (hc : 1 ≤ cols) (hc3 : cols ≤ 3) (hs : s < rows * cols) : trTo rows cols s < 9 :=
  (tr_facts' (t := 0) hr hr3 hc hc3 hs (by omega)).2.2
/-- The same place, told by its row and its column. -/
theorem trTo_ij {rows cols i j : Nat} (hj : j < cols) : trTo rows cols (i * cols + j) = rows * j + i := by
  have h1 : (i * cols + j) % cols = j := by rw [Nat.add_comm, Nat.add_mul_mod_self_right]; exact Nat.mod_eq_of_lt hj
  have h2 : (i * cols + j) / cols = i := by rw [Nat.add_comm, Nat.add_mul_div_right _ _ (by omega), Nat.div_eq_of_lt hj, Nat.zero_add]
  unfold trTo
  rw [h1, h2, Nat.mul_comm]
end Go.Proofs.Ytopdfblfhdooaaa
