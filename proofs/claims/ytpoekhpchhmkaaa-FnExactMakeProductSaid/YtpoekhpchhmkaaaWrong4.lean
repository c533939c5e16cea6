/-
  impl.CountWrong: what it counts is what spec counts.
-/
import Derived.Test.YtpoekhpchhmkaaaWrong3
namespace Go.Proofs.Ytpoekhpchhmkaaa
open Go.RowKit
set_option maxRecDepth 100000
theorem runC_diff (W : Nat → Nat → Nat → Bool) (s : Wst) (a b : Nat) (f g : List Nat) (N : Nat) (h : ∀ c, c < N → W a b c = !decide (f[c]?.getD 0 = g[c]?.getD 0)) :
    ∀ c, c ≤ N → (runC W s a b c).1 = s.1 + diffN f g c := by
  intro c
  induction c with
  | zero => intro _; simp [runC, diffN]
  | succ c ih =>
    intro hc
    have hi := ih (by omega)
    simp only [runC, diffN, h c (by omega)]
    by_cases e : f[c]?.getD 0 = g[c]?.getD 0
    · simp [stp, e, hi]
    · simp [stp, e, hi]; omega
theorem diffN_zero (f g : List Nat) (M : Nat) (h : ∀ c, M ≤ c → f[c]?.getD 0 = g[c]?.getD 0) : ∀ d, diffN f g (M + d) = diffN f g M := by
  intro d
  induction d with
  | zero => rfl
  | succ d ih => rw [← Nat.add_assoc, diffN, if_pos (h _ (by omega)), ih, Nat.add_zero]
theorem segm_at (l : List Nat) (off n i : Nat) (hi : i < n) : (segm l off n)[i]?.getD 0 = l[off + i]?.getD 0 := by
  unfold segm
  rw [List.getElem?_take, if_pos hi, List.getElem?_drop]
theorem prodB_out {p n m k : Int} {q : List Nat} (h : prodB p n m k q = true) {c : Nat} (hc : n * k ≤ (c : Int)) (hc9 : c < 9) : q[18 + c]?.getD 0 = 0 := by
  unfold prodB formB at h
  simp only [Bool.and_eq_true, List.all_eq_true] at h
  have h3 := h.1.1.1.2 c (by simp; exact hc9)
  simp only [okAt, Bool.and_eq_true, Bool.or_eq_true, decide_eq_true_eq, beq_iff_eq] at h3
  rw [segm_at _ _ _ _ hc9] at h3
  omega
theorem sumN_zero {qs : List (List Nat)} {a b c : Nat} (h : ∀ q ∈ qs, q[18 + c]?.getD 0 = 0) : sumN qs a b c = 0 := by
  induction qs with
  | nil => rfl
  | cons q qs ih => rw [sumN, ih (fun x hx => h x (by simp [hx])), termN, h q (by simp)]; simp
theorem schemeB_prods {p n m k : Int} {qs : List (List Nat)} (h : schemeB p n m k qs = true) : ∀ q ∈ qs, prodB p n m k q = true := by
  simp only [schemeB, Bool.and_eq_true, List.all_eq_true] at h
  exact h.2
theorem rightL_out {n m k a b : Int} {c : Nat} (hn : 1 ≤ n ∧ n ≤ 3) (hm : 1 ≤ m ∧ m ≤ 3) (hk : 1 ≤ k ∧ k ≤ 3) (ha : 0 ≤ a ∧ a < n * m) (hc : n * k ≤ (c : Int)) (hc9 : c < 9) : (rightL m k a b)[c]?.getD 0 = 0 := by
  unfold rightL
  split
  · rw [unitL_get hc9, if_neg]
    have hn' : n = 1 ∨ n = 2 ∨ n = 3 := by omega
    have hm' : m = 1 ∨ m = 2 ∨ m = 3 := by omega
    have hk' : k = 1 ∨ k = 2 ∨ k = 3 := by omega
    rcases hn' with rfl | rfl | rfl <;> rcases hm' with rfl | rfl | rfl <;> rcases hk' with rfl | rfl | rfl <;> omega
  · exact zeros_get _ _
theorem row_eq {p n m k : Int} {qs : List (List Nat)} (h : schemeB p n m k qs = true) (s : Wst) (a b : Nat) (ha : (a : Int) < n * m) (hb : (b : Int) < m * k) :
    (runC (wrongB p m k qs) s a b (n * k).toNat).1 = s.1 + diffN (sidesL p.toNat qs a b) (rightL m k a b) 9 := by
  have hbd := sizes_bounds (schemeB_sizes h)
  obtain ⟨_, _, z1, z2⟩ := sizesB_mul (schemeB_sizes h)
  have hpb := primeB_bounds (sizesB_parts (schemeB_sizes h)).1
  have hpn : (p.toNat : Int) = p := by omega
  rw [runC_diff _ s a b (sidesL p.toNat qs a b) (rightL m k a b) (n * k).toNat ?_ _ (Nat.le_refl _)]
  · have := diffN_zero (sidesL p.toNat qs a b) (rightL m k a b) (n * k).toNat ?_ (9 - (n * k).toNat)
    · rw [show (n * k).toNat + (9 - (n * k).toNat) = 9 by omega] at this
      rw [this]
    · intro c hc
      by_cases hc9 : c < 9
      · rw [rightL_out hbd.1 hbd.2.1 hbd.2.2 ⟨by omega, ha⟩ (by omega) hc9, sidesL_get _ _ _ _ hc9, sumN_zero (fun q hq => prodB_out (schemeB_prods h q hq) (by omega) hc9), Nat.zero_mod]
      · rw [List.getElem?_eq_none (by rw [(sidesL_bytes qs a b (by omega) (by omega)).len]; omega), List.getElem?_eq_none (by rw [(rightL_bytes m k a b).len]; omega)]
  · intro c hc
    have hR := right_at (a := a) (b := b) (c := c) hbd.1 hbd.2.1 hbd.2.2 ⟨by omega, ha⟩ ⟨by omega, hb⟩ (by omega)
    unfold wrongB
    congr 1
    rw [← hR, sidesL_get _ _ _ _ (by omega), ← hpn, ← Int.natCast_emod]
    rw [Bool.eq_iff_iff]
    simp only [beq_iff_eq, decide_eq_true_eq, Int.toNat_natCast]
    omega
theorem runB_cnt {p n m k : Int} {qs : List (List Nat)} (h : schemeB p n m k qs = true) (s : Wst) (a : Nat) (ha : (a : Int) < n * m) :
    ∀ b : Nat, (b : Int) ≤ m * k → (runB (wrongB p m k qs) (n * k).toNat s a b).1 = s.1 + cntB p m k qs a b := by
  intro b
  induction b with
  | zero => intro _; simp [runB, cntB]
  | succ b ih =>
    intro hb
    have hi := ih (by omega)
    simp only [runB, cntB]
    rw [row_eq h _ a b ha (by omega), hi, Nat.add_assoc]
theorem runA_cnt {p n m k : Int} {qs : List (List Nat)} (h : schemeB p n m k qs = true) :
    ∀ a : Nat, (a : Int) ≤ n * m → (runA (wrongB p m k qs) (m * k).toNat (n * k).toNat a).1 = cntA p m k qs (m * k).toNat a := by
  obtain ⟨_, ⟨y1, y2⟩, _⟩ := sizesB_mul (schemeB_sizes h)
  intro a
  induction a with
  | zero => intro _; rfl
  | succ a ih =>
    intro ha
    have hi := ih (by omega)
    simp only [runA, cntA]
    rw [runB_cnt h _ a (by omega) _ (by omega), hi]
theorem wrS_cnt {p n m k : Int} {qs : List (List Nat)} (h : schemeB p n m k qs = true) : (wrS p n m k qs).1 = cntA p m k qs (m * k).toNat (n * m).toNat := by
  obtain ⟨⟨x1, x2⟩, _⟩ := sizesB_mul (schemeB_sizes h)
  exact runA_cnt h _ (by omega)
end Go.Proofs.Ytpoekhpchhmkaaa
