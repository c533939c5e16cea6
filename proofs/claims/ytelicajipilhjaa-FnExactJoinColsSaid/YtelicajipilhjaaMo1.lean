/-
  Products moved into other sizes: plain functions, and what stays true of them.
-/
import Derived.Test.YtelicajipilhjaaMo0
import Derived.Test.YtelicajipilhjaaTold
import Derived.Test.YtelicajipilhjaaImplIs
namespace Go.Proofs.Ytelicajipilhjaa
open Go.RowKit
set_option maxRecDepth 100000
def mvQ (n m k n' m' k' dn dm dk : Nat) (q : List Nat) : List Nat :=
  cat3 (mvF n m n' m' dn dm (segm q 0 9)) (mvF m k m' k' dm dk (segm q 9 9)) (mvF n k n' k' dn dk (segm q 18 9))
theorem mvQ_bytes {n m k n' m' k' dn dm dk : Nat} {q : List Nat} (hq : Bytes 27 q) : Bytes 27 (mvQ n m k n' m' k' dn dm dk q) :=
  bytes3 (mvF_bytes _ _ _ _ _ _ (segm_bytes hq (by omega))) (mvF_bytes _ _ _ _ _ _ (segm_bytes hq (by omega))) (mvF_bytes _ _ _ _ _ _ (segm_bytes hq (by omega)))
theorem mvF_get (fr fc tr tc dr dc : Nat) (f : List Nat) {t : Nat} (ht : t < 9) : (mvF fr fc tr tc dr dc f)[t]?.getD 0 = if mvIn fr fc tr tc dr dc t && decide (mvSrc fc tc dr dc t < fr * fc) then f[mvSrc fc tc dr dc t]?.getD 0 else 0 := by
  simp [mvF, mvP, ht]
theorem formB_lt {p n : Int} {f : List Nat} (h : formB p f n = true) {i : Nat} (hi : i < 9) : ((f[i]?.getD 0 : Nat) : Int) < p ∧ ((i : Int) < n ∨ f[i]?.getD 0 = 0) := by
  unfold formB at h
  rw [List.all_eq_true] at h
  have := h i (List.mem_range.2 hi)
  simp only [okAt, Bool.and_eq_true, Bool.or_eq_true, decide_eq_true_eq, beq_iff_eq] at this
  exact this
theorem mv_form {p N : Int} (fr fc tr tc dr dc : Nat) {f : List Nat} (hp : 0 < p) (h9 : fr * fc ≤ 9) (h : formB p f N = true) : formB p (mvF fr fc tr tc dr dc f) ((tr * tc : Nat) : Int) = true := by
  refine formB_of fun t ht => ?_
  simp only [okAt, mvF_get _ _ _ _ _ _ _ ht, Bool.and_eq_true, Bool.or_eq_true, decide_eq_true_eq, beq_iff_eq]
  split
  · rename_i hc
    refine ⟨(formB_lt h (by omega)).1, .inl ?_⟩
    have h1 := hc.1
    simp only [mvIn, Bool.and_eq_true, decide_eq_true_eq] at h1
    exact_mod_cast h1.1.1
  · exact ⟨by simpa using hp, .inr rfl⟩
theorem zeroB_get {f : List Nat} (h : zeroB f = true) (i : Nat) : f[i]?.getD 0 = 0 := by
  unfold zeroB at h
  rw [beq_iff_eq] at h
  rw [h]
  simp only [List.getElem?_replicate]
  split <;> rfl
theorem zeroB_of {f : List Nat} (hl : f.length = 9) (h : ∀ i, i < 9 → f[i]?.getD 0 = 0) : zeroB f = true := by
  unfold zeroB
  rw [beq_iff_eq]
  apply List.ext_getElem (by simp [hl])
  intro i h1 h2
  have := h i (by omega)
  rw [List.getElem?_eq_getElem h1, Option.getD_some] at this
  rw [this, List.getElem_replicate]
theorem mv_nonzero {p : Int} {fr fc tr tc dr dc : Nat} {f : List Nat} (hl : f.length = 9) (hr : fr + dr ≤ tr) (hc : fc + dc ≤ tc) (htr : tr ≤ 3) (htc : tc ≤ 3) (h : formB p f ((fr * fc : Nat) : Int) = true) (hz : zeroB f = false) : zeroB (mvF fr fc tr tc dr dc f) = false := by
  rw [Bool.eq_false_iff]
  intro h0
  rw [Bool.eq_false_iff] at hz
  refine hz (zeroB_of hl fun s hs => ?_)
  rcases (formB_lt h hs).2 with hlt | h'
  · have hlt' : s < fr * fc := by exact_mod_cast hlt
    have hfc : 0 < fc := Nat.pos_of_ne_zero (fun e => by rw [e] at hlt'; omega)
    have hb := Nat.mod_lt s hfc
    have ha : s / fc < fr := Nat.div_lt_of_lt_mul (by rw [Nat.mul_comm]; exact hlt')
    have hin : s / fc + dr < tr ∧ s % fc + dc < tc := by omega
    have he : s / fc * fc + s % fc = s := by have := Nat.div_add_mod s fc; rw [Nat.mul_comm] at this; exact this
    obtain ⟨m1, m2⟩ := (mvIn_at (dr := dr) (dc := dc) ha hb hin _).2 rfl
    have h9 := mv_to_lt htr htc hin
    have := zeroB_get h0 ((s / fc + dr) * tc + (s % fc + dc))
    rw [mvF_get _ _ _ _ _ _ _ h9, m1, m2, he] at this
    simpa [hlt'] using this
  · exact h'
theorem cat3_segs {A B C : List Nat} (hA : A.length = 9) (hB : B.length = 9) (hC : C.length = 9) : segm (cat3 A B C) 0 9 = A ∧ segm (cat3 A B C) 9 9 = B ∧ segm (cat3 A B C) 18 9 = C := ⟨segm_a hA, segm_b hA hB, segm_c hA hB hC⟩
/-- A moved product is a product exactly if no form of it is 0. -/
theorem mvQ_prod {p N M K : Int} {n m k n' m' k' dn dm dk : Nat} {q : List Nat} (hp : 0 < p) (hn : n ≤ 3) (hm : m ≤ 3) (hk : k ≤ 3) (hq : Bytes 27 q) (h : prodB p N M K q = true) : prodB p n' m' k' (mvQ n m k n' m' k' dn dm dk q) = nzB (mvQ n m k n' m' k' dn dm dk q) := by
  simp only [prodB, Bool.and_eq_true] at h
  obtain ⟨⟨⟨⟨⟨f0, f1⟩, f2⟩, _⟩, _⟩, _⟩ := h
  obtain ⟨s0, s1, s2⟩ := cat3_segs (mvF_bytes n m n' m' dn dm (segm_bytes hq (a := 0) (n := 9) (by omega))).len (mvF_bytes m k m' k' dm dk (segm_bytes hq (a := 9) (n := 9) (by omega))).len (mvF_bytes n k n' k' dn dk (segm_bytes hq (a := 18) (n := 9) (by omega))).len
  have g0 := mv_form n m n' m' dn dm hp (Nat.mul_le_mul hn hm) f0
  have g1 := mv_form m k m' k' dm dk hp (Nat.mul_le_mul hm hk) f1
  have g2 := mv_form n k n' k' dn dk hp (Nat.mul_le_mul hn hk) f2
  rw [Int.natCast_mul] at g0 g1 g2
  unfold prodB nzB mvQ
  rw [s0, s1, s2, g0, g1, g2]
  simp
/-- Where the other sizes have room, a moved product has no form 0. -/
theorem mvQ_nz {p : Int} {n m k n' m' k' dn dm dk : Nat} {q : List Nat} (hq : Bytes 27 q) (h : prodB p n m k q = true) (h1 : n + dn ≤ n') (h2 : m + dm ≤ m') (h3 : k + dk ≤ k') (n3 : n' ≤ 3) (m3 : m' ≤ 3) (k3 : k' ≤ 3) : nzB (mvQ n m k n' m' k' dn dm dk q) = true := by
  simp only [prodB, Bool.and_eq_true, Bool.not_eq_true', ← Int.natCast_mul] at h
  obtain ⟨⟨⟨⟨⟨f0, f1⟩, f2⟩, z0⟩, z1⟩, z2⟩ := h
  obtain ⟨s0, s1, s2⟩ := cat3_segs (mvF_bytes n m n' m' dn dm (segm_bytes hq (a := 0) (n := 9) (by omega))).len (mvF_bytes m k m' k' dm dk (segm_bytes hq (a := 9) (n := 9) (by omega))).len (mvF_bytes n k n' k' dn dk (segm_bytes hq (a := 18) (n := 9) (by omega))).len
  unfold nzB mvQ
  rw [s0, s1, s2, mv_nonzero (segm_bytes hq (by omega)).len h1 h2 n3 m3 f0 z0, mv_nonzero (segm_bytes hq (by omega)).len h2 h3 m3 k3 f1 z1, mv_nonzero (segm_bytes hq (by omega)).len h1 h3 n3 k3 f2 z2]
  rfl
end Go.Proofs.Ytelicajipilhjaa
