/-
  A form moved into a matrix of another shape: the plain function, place by place; a form cut.
-/
import Derived.Test.YtelicajipilhjaaAdF
import Derived.Test.YtelicajipilhjaaNrm0
namespace Go.Proofs.Ytelicajipilhjaa
open Go.RowKit
set_option maxRecDepth 100000
/-- The place of the source that the place 't' of the target has its number from. -/
def mvSrc (fc tc dr dc t : Nat) : Nat := (t / tc - dr) * fc + (t % tc - dc)
/-- Whether the place 't' of the target has a number of the source. -/
def mvIn (fr fc tr tc dr dc t : Nat) : Bool := decide (t < tr * tc) && (decide (dr ≤ t / tc) && decide (t / tc - dr < fr)) && (decide (dc ≤ t % tc) && decide (t % tc - dc < fc))
def mvP (fr fc tr tc dr dc : Nat) (f : List Nat) (s : Nat) : List Nat :=
  (List.range 9).map fun t => if mvIn fr fc tr tc dr dc t && decide (mvSrc fc tc dr dc t < s) then f[mvSrc fc tc dr dc t]?.getD 0 else 0
def mvF (fr fc tr tc dr dc : Nat) (f : List Nat) : List Nat := mvP fr fc tr tc dr dc f (fr * fc)
theorem mvP_len (fr fc tr tc dr dc : Nat) (f : List Nat) (s : Nat) : (mvP fr fc tr tc dr dc f s).length = 9 := by simp [mvP]
theorem mvP_bytes (fr fc tr tc dr dc s : Nat) {f : List Nat} (hf : Bytes 9 f) : Bytes 9 (mvP fr fc tr tc dr dc f s) := by
  refine ⟨mvP_len _ _ _ _ _ _ _ _, fun n hn => ?_⟩
  simp only [mvP, List.mem_map, List.mem_range] at hn
  obtain ⟨t, _, rfl⟩ := hn
  split
  · exact hf.lt _
  · omega
theorem mvF_bytes (fr fc tr tc dr dc : Nat) {f : List Nat} (hf : Bytes 9 f) : Bytes 9 (mvF fr fc tr tc dr dc f) := mvP_bytes _ _ _ _ _ _ _ hf
theorem mvP_zero (fr fc tr tc dr dc : Nat) (f : List Nat) : mvP fr fc tr tc dr dc f 0 = List.replicate 9 0 := by
  unfold mvP
  simp only [Nat.not_lt_zero, decide_false, Bool.and_false, Bool.false_eq_true, if_false]
  rfl
theorem div_mod_at {a b c : Nat} (hb : b < c) : (a * c + b) / c = a ∧ (a * c + b) % c = b := by
  constructor
  · rw [Nat.add_comm, Nat.add_mul_div_right _ _ (by omega), Nat.div_eq_of_lt hb, Nat.zero_add]
  · rw [Nat.add_comm, Nat.add_mul_mod_self_right]; exact Nat.mod_eq_of_lt hb
theorem pair_inj {a b a' b' c : Nat} (hb : b < c) (hb' : b' < c) (h : a * c + b = a' * c + b') : a = a' ∧ b = b' := by
  have h1 := div_mod_at (a := a) hb
  have h2 := div_mod_at (a := a') hb'
  rw [h] at h1
  exact ⟨h1.1.symm.trans h2.1, h1.2.symm.trans h2.2⟩
/-- A place of the target comes from the row 'a' and the column 'b' of the source exactly if it is the one that these are moved to. -/
theorem mvIn_at {fr fc tr tc dr dc a b : Nat} (ha : a < fr) (hb : b < fc) (hin : a + dr < tr ∧ b + dc < tc) (t : Nat) :
    (mvIn fr fc tr tc dr dc t = true ∧ mvSrc fc tc dr dc t = a * fc + b) ↔ t = (a + dr) * tc + (b + dc) := by
  constructor
  · rintro ⟨h1, h2⟩
    simp only [mvIn, Bool.and_eq_true, decide_eq_true_eq] at h1
    unfold mvSrc at h2
    obtain ⟨e1, e2⟩ := pair_inj h1.2.2 hb h2
    have := Nat.div_add_mod t tc
    rw [Nat.mul_comm] at this
    rw [← this, show t / tc = a + dr by omega, show t % tc = b + dc by omega]
  · rintro rfl
    obtain ⟨e1, e2⟩ := div_mod_at (a := a + dr) hin.2
    have h9 : (a + dr) * tc + (b + dc) < tr * tc := by
      have : (a + dr + 1) * tc ≤ tr * tc := Nat.mul_le_mul_right tc (by omega)
      rw [Nat.succ_mul] at this
      omega
    simp only [mvIn, mvSrc, e1, e2, Bool.and_eq_true, decide_eq_true_eq]
    refine ⟨⟨⟨h9, by omega, by omega⟩, by omega, by omega⟩, ?_⟩
    rw [Nat.add_sub_cancel, Nat.add_sub_cancel]
theorem mvIn_out {fr fc tr tc dr dc a b : Nat} (hb : b < fc) (hout : ¬ (a + dr < tr ∧ b + dc < tc)) (t : Nat) (h1 : mvIn fr fc tr tc dr dc t = true) : mvSrc fc tc dr dc t ≠ a * fc + b := by
  intro h2
  simp only [mvIn, Bool.and_eq_true, decide_eq_true_eq] at h1
  unfold mvSrc at h2
  obtain ⟨e1, e2⟩ := pair_inj h1.2.2 hb h2
  have h3 : t / tc < tr := Nat.div_lt_of_lt_mul (by rw [Nat.mul_comm]; exact h1.1.1)
  have h4 : 0 < tc := Nat.pos_of_ne_zero (fun e => by have := h1.1.1; rw [e] at this; omega)
  have h5 := Nat.mod_lt t h4
  omega
theorem mvP_skip {fr fc tr tc dr dc a b : Nat} (f : List Nat) (hb : b < fc) (hout : ¬ (a + dr < tr ∧ b + dc < tc)) : mvP fr fc tr tc dr dc f (a * fc + b) = mvP fr fc tr tc dr dc f (a * fc + b + 1) := by
  unfold mvP
  refine List.map_congr_left fun t _ => ?_
  cases h : mvIn fr fc tr tc dr dc t with
  | false => rfl
  | true =>
    have := mvIn_out hb hout t h
    rw [show decide (mvSrc fc tc dr dc t < a * fc + b) = decide (mvSrc fc tc dr dc t < a * fc + b + 1) by rw [decide_eq_decide]; omega]
theorem mvP_set {fr fc tr tc dr dc a b : Nat} (f : List Nat) (ha : a < fr) (hb : b < fc) (hin : a + dr < tr ∧ b + dc < tc) :
    (mvP fr fc tr tc dr dc f (a * fc + b)).set ((a + dr) * tc + (b + dc)) (f[a * fc + b]?.getD 0) = mvP fr fc tr tc dr dc f (a * fc + b + 1) := by
  apply List.ext_getElem
  · simp [mvP]
  intro t h1 h2
  have M := mvIn_at ha hb hin t
  rw [List.getElem_set]
  simp only [mvP, List.getElem_map, List.getElem_range]
  by_cases e : (a + dr) * tc + (b + dc) = t
  · obtain ⟨m1, m2⟩ := M.2 e.symm
    rw [if_pos e, m1, m2]
    simp
  · rw [if_neg e]
    cases h : mvIn fr fc tr tc dr dc t with
    | false => rfl
    | true =>
      have hne : mvSrc fc tc dr dc t ≠ a * fc + b := fun e' => e (M.1 ⟨h, e'⟩).symm
      rw [show decide (mvSrc fc tc dr dc t < a * fc + b) = decide (mvSrc fc tc dr dc t < a * fc + b + 1) by rw [decide_eq_decide]; omega]
theorem mv_to_lt {tr tc r c : Nat} (htr : tr ≤ 3) (htc : tc ≤ 3) (h : r < tr ∧ c < tc) : r * tc + c < 9 := by
  have : (r + 1) * tc ≤ 3 * 3 := Nat.mul_le_mul (by omega) htc
  rw [Nat.succ_mul] at this
  omega
/-- The numbers of the first rows and columns, the first 's' places of them. -/
def ctP (fc wide : Nat) (f : List Nat) (s : Nat) : List Nat := (List.range 9).map fun t => if t < s then f[t / wide * fc + t % wide]?.getD 0 else 0
theorem ctP_len (fc wide : Nat) (f : List Nat) (s : Nat) : (ctP fc wide f s).length = 9 := by simp [ctP]
theorem ctP_zero (fc wide : Nat) (f : List Nat) : ctP fc wide f 0 = List.replicate 9 0 := by
  unfold ctP
  simp only [Nat.not_lt_zero, if_false]
  rfl
theorem ctP_set {fc wide i j : Nat} (f : List Nat) (hj : j < wide) : (ctP fc wide f (i * wide + j)).set (i * wide + j) (f[i * fc + j]?.getD 0) = ctP fc wide f (i * wide + j + 1) := by
  apply List.ext_getElem
  · simp [ctP]
  intro t h1 h2
  have D := div_mod_at (a := i) hj
  rw [List.getElem_set]
  simp only [ctP, List.getElem_map, List.getElem_range]
  by_cases e : i * wide + j = t
  · subst e
    rw [if_pos rfl, if_pos (by omega), D.1, D.2]
  · rw [if_neg e]
    by_cases h : t < i * wide + j
    · rw [if_pos h, if_pos (by omega)]
    · rw [if_neg h, if_neg (by omega)]
theorem ct_mv {fr fc tr tc : Nat} (f : List Nat) (hr : tr ≤ fr) (hc : tc ≤ fc) : ctP fc tc f (tr * tc) = mvF fr fc tr tc 0 0 f := by
  unfold ctP mvF mvP
  refine List.map_congr_left fun t _ => ?_
  by_cases h : t < tr * tc
  · have h4 : 0 < tc := Nat.pos_of_ne_zero (fun e => by rw [e] at h; omega)
    have h5 := Nat.mod_lt t h4
    have h3 : t / tc < tr := Nat.div_lt_of_lt_mul (by rw [Nat.mul_comm]; exact h)
    have h6 : t / tc * fc + t % tc < fr * fc := by
      have : (t / tc + 1) * fc ≤ fr * fc := Nat.mul_le_mul_right fc (by omega)
      rw [Nat.succ_mul] at this
      omega
    rw [if_pos h, if_pos]
    · simp [mvSrc]
    · simp only [mvIn, mvSrc, Nat.sub_zero, Nat.zero_le, decide_true, Bool.true_and, Bool.and_eq_true, decide_eq_true_eq]
      exact ⟨⟨⟨h, by omega⟩, by omega⟩, decide_eq_true h6⟩
  · rw [if_neg h, if_neg]
    simp only [mvIn, Bool.and_eq_true, decide_eq_true_eq]
    exact fun h' => h h'.1.1.1
end Go.Proofs.Ytelicajipilhjaa
