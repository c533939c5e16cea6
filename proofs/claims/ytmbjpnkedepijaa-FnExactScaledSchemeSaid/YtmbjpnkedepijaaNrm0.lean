/-
  Products that are read, one at a time; a scheme in a box that grows by one product; first numbers of a scheme's products.
-/
import Derived.Test.YtmbjpnkedepijaaAdd1
import Derived.Test.YtmbjpnkedepijaaNrm2
namespace Go.Proofs.Ytmbjpnkedepijaa
open Go.RowKit
set_option maxRecDepth 100000
theorem Rd.cells27 {w : World} {b off : Nat} {qs : List (List Nat)} (h : Rd w (some ⟨b, off, none⟩) qs) {i : Nat} (hi : i < qs.length) : ∀ j, j < 27 → w.cell? ⟨b, off + i * 27 + j, none⟩ = some (.int .u8 ((qs[i][j]?.getD 0 : Nat) : Int)) := by
  obtain ⟨b', off', e, hc⟩ := h.at_ hi
  simp only [Option.some.injEq, Addr.mk.injEq] at e
  obtain ⟨rfl, rfl, _⟩ := e
  exact hc
theorem KB.grow2 {w wr w3 : World} {lo g : Nat} {p n m k : Int} {qs rs : List (List Nat)} {v v' : Value} (h : KB w lo g p n m k qs v wr) (gr : wr.grownBy w3 v.ownBlock) (ow : Own w3 lo v' (qs ++ rs)) :
    Below w.heap.size w w3 ∧ Own w3 lo v' (qs ++ rs) ∧ At w3 g (.cells #[.int .i64 p, .int .i64 n, .int .i64 m, .int .i64 k, v] 28 (0, 0)) :=
  ⟨below_grown h.below gr h.own h.lo_le, ow, h.box.grown gr (h.own.off h.box (by decide))⟩
theorem Rd.one {w w' : World} {q : List Nat} {t : TypeId} (h : New w w' (.cells (u8s q) t (0, 0))) (hq : Bytes 27 q) : Rd w' (some ⟨w.heap.size, 0, none⟩) [q] :=
  Rd.of_at (qs := [q]) (t := t) (by simpa using h.at_) (by simpa using hq)
theorem leadAt_of {f : List Nat} : ∀ n k, (∃ i, k ≤ i ∧ i < k + n ∧ f[i]?.getD 0 ≠ 0) → ∃ i, k ≤ i ∧ i < k + n ∧ leadAt f k n = f[i]?.getD 0 ∧ f[i]?.getD 0 ≠ 0
  | 0, k, ⟨i, h1, h2, _⟩ => by omega
  | n + 1, k, ⟨i, h1, h2, h3⟩ => by
    simp only [leadAt]
    split
    · rename_i hz
      have hik : i ≠ k := fun e => h3 (by rw [e]; exact hz)
      obtain ⟨i', a, b, c⟩ := leadAt_of n (k + 1) ⟨i, by omega, by omega, h3⟩
      exact ⟨i', by omega, by omega, c⟩
    · rename_i hz
      exact ⟨k, Nat.le_refl _, by omega, rfl, hz⟩
theorem form_lead {p n : Int} {f : List Nat} (hf : Bytes 9 f) (h : formB p f n = true) (hz : zeroB f = false) : 1 ≤ (lead f : Int) ∧ (lead f : Int) < p := by
  unfold formB at h
  rw [List.all_eq_true] at h
  have hlt : ∀ i, i < 9 → ((f[i]?.getD 0 : Nat) : Int) < p := fun i hi => by
    have := h i (List.mem_range.2 hi)
    simp only [okAt, Bool.and_eq_true, decide_eq_true_eq] at this
    exact this.1
  have hne : ∃ i, 0 ≤ i ∧ i < 0 + 9 ∧ f[i]?.getD 0 ≠ 0 := by
    apply Classical.byContradiction
    intro hno
    have hall : f = List.replicate 9 0 := by
      apply List.ext_getElem?
      intro i
      by_cases hi : i < 9
      · have h1 : f[i]?.getD 0 = 0 := Classical.byContradiction fun hc => hno ⟨i, by omega, by omega, hc⟩
        rw [List.getElem?_eq_getElem (by rw [hf.len]; exact hi)] at h1 ⊢
        simp only [Option.getD_some] at h1
        rw [h1, List.getElem?_replicate, if_pos hi]
      · rw [List.getElem?_eq_none (by rw [hf.len]; omega), List.getElem?_replicate, if_neg hi]
    unfold zeroB at hz
    rw [hall] at hz
    simp at hz
  obtain ⟨i, _, h2, h3, h4⟩ := leadAt_of 9 0 hne
  have := hlt i (by omega)
  unfold lead
  rw [h3]
  omega
theorem prod_lead {p n m k : Int} {q : List Nat} (hq : Bytes 27 q) (h : prodB p n m k q = true) : LeadOk p q := by
  simp only [prodB, Bool.and_eq_true, Bool.not_eq_true'] at h
  obtain ⟨⟨⟨⟨⟨f0, f1⟩, f2⟩, z0⟩, z1⟩, z2⟩ := h
  have a := form_lead (hq.part (a := 0) (n := 9) (by omega)) f0 z0
  have b := form_lead (hq.part (a := 9) (n := 9) (by omega)) f1 z1
  exact ⟨a.1, a.2, b.1, b.2⟩
theorem scheme_lead {p n m k : Int} {qs : List (List Nat)} (hq : ∀ q ∈ qs, Bytes 27 q) (h : schemeB p n m k qs = true) : ∀ q ∈ qs, LeadOk p q := by
  intro q hm
  simp only [schemeB, Bool.and_eq_true, List.all_eq_true] at h
  exact prod_lead (hq q hm) (h.2 q hm)
end Go.Proofs.Ytmbjpnkedepijaa
