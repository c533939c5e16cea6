/-
  slices.Grow of nil, slices.Concat, at []impl.Product; impl.withProducts.
-/
import Derived.Test.YtmbjpnkedepijaaLK1
import Derived.Test.YtmbjpnkedepijaaHeld
import Derived.Lib.AppendZeros
import Derived.Laws.AppendOwnNone
namespace Go.Proofs.Ytmbjpnkedepijaa
open Go.RowKit
set_option maxRecDepth 100000
/-- A part: the slice's address, its capacity, its products. -/
abbrev Part := Option Addr × Nat × List (List Nat)
def Part.len (P : Part) : Nat := P.2.2.length
def PartOk (w : World) (P : Part) : Prop := Rd w P.1 P.2.2 ∧ (P.1 = none → P.2.1 = 0)
theorem PartOk.after {w w' : World} {P : Part} (h : PartOk w P) (hb : Below w.heap.size w w') : PartOk w' P := ⟨h.1.keep hb, h.2⟩
/-- The slice value over 'A' holds these parts. -/
def RdS (w : World) (A : Option Addr) (ps : List Part) : Prop :=
  ps = [] ∨ ∃ b off, A = some ⟨b, off, none⟩ ∧ ∀ (i : Nat) (P : Part), ps[i]? = some P → w.cell? ⟨b, off + i, none⟩ = some (.slice P.1 P.2.2.length P.2.1)
theorem RdS.at_ {w : World} {A : Option Addr} {ps : List Part} (h : RdS w A ps) {i : Nat} (hi : i < ps.length) : ∃ b off, A = some ⟨b, off, none⟩ ∧ w.cell? ⟨b, off + i, none⟩ = some (.slice ps[i].1 ps[i].2.2.length ps[i].2.1) := by
  rcases h with rfl | ⟨b, off, hA, hc⟩
  · simp at hi
  · exact ⟨b, off, hA, hc i ps[i] (List.getElem?_eq_getElem hi)⟩
theorem RdS.keep {w w' : World} {A : Option Addr} {ps : List Part} (h : RdS w A ps) (hb : Below w.heap.size w w') : RdS w' A ps := by
  rcases h with h0 | ⟨b, off, hA, hc⟩
  · exact .inl h0
  · refine .inr ⟨b, off, hA, fun i x hi => ?_⟩
    have := hc i x hi
    rw [hb.cell (p := ⟨b, off + i, none⟩) (block_lt_of_cell this)]
    exact this
def sumP (ps : List Part) (k : Nat) : Nat := ((ps.take k).map Part.len).sum
def catP (ps : List Part) (k : Nat) : List (List Nat) := (ps.take k).flatMap (fun P => P.2.2)
theorem sumP_step {ps : List Part} {k : Nat} (h : k < ps.length) : sumP ps (k + 1) = sumP ps k + ps[k].2.2.length := by
  unfold sumP
  rw [List.take_succ_eq_append_getElem h, List.map_append, List.sum_append]
  simp only [List.map_cons, List.map_nil, List.sum_cons, List.sum_nil, Nat.add_zero]
  rfl
theorem catP_step {ps : List Part} {k : Nat} (h : k < ps.length) : catP ps (k + 1) = catP ps k ++ ps[k].2.2 := by
  unfold catP
  rw [List.take_succ_eq_append_getElem h, List.flatMap_append]
  simp only [List.flatMap_cons, List.flatMap_nil, List.append_nil]
theorem catP_len (ps : List Part) (k : Nat) : (catP ps k).length = sumP ps k := by
  simp [catP, sumP, List.length_flatMap]
  rfl
theorem sumP_le (ps : List Part) (k : Nat) : sumP ps k ≤ sumP ps ps.length := by
  unfold sumP
  rw [List.take_length]
  have h := congrArg (fun l => (l.map Part.len).sum) (List.take_append_drop k ps)
  simp only [List.map_append, List.sum_append] at h
  omega
theorem u8s_append (qs rs : List (List Nat)) : (u8s (qs ++ rs).flatten).toList = (u8s qs.flatten).toList ++ (u8s rs.flatten).toList := by simp [u8s]
theorem Own.append {w : World} {lo : Nat} {v : Value} {qs rs : List (List Nat)} (ow : w.ownsRow lo 45 27 v (qs.length + rs.length) ((u8s qs.flatten).toList ++ (u8s rs.flatten).toList)) : Own w lo v (qs ++ rs) := by
  unfold Own
  rw [u8s_append, List.length_append]
  exact ow
/-- The cells of a list of products that is read. -/
theorem Rd.cells {w : World} {b off : Nat} {qs : List (List Nat)} (h : Rd w (some ⟨b, off, none⟩) qs) : ∀ j u, (u8s qs.flatten).toList[j]? = some u → w.cell? ((⟨b, off, none⟩ : Addr).add j) = some u := by
  intro j u hu
  have hl : ∀ q ∈ qs, q.length = 27 := h.len
  have hj : j < qs.flatten.length := by have := (List.getElem?_eq_some_iff.1 hu).1; rwa [Array.length_toList, u8s_size] at this
  rw [flat_len hl] at hj
  rcases h.2 with rfl | ⟨b', off', e, hc⟩
  · simp at hj
  · simp only [Option.some.injEq, Addr.mk.injEq] at e
    obtain ⟨rfl, rfl, _⟩ := e
    have hi : j / 27 < qs.length := Nat.div_lt_of_lt_mul (by omega)
    have hm : j % 27 < 27 := Nat.mod_lt _ (by omega)
    have hc2 := hc (j / 27) qs[j / 27] (List.getElem?_eq_getElem hi) (j % 27) hm
    have e1 : off + j / 27 * 27 + j % 27 = off + j := by have := Nat.div_add_mod j 27; omega
    rw [e1] at hc2
    rw [add_none, hc2]
    have hf := flat_get hl (List.getElem?_eq_getElem hi) hm
    have e2 : j / 27 * 27 + j % 27 = j := by have := Nat.div_add_mod j 27; omega
    rw [e2] at hf
    rw [Array.getElem?_toList, u8s_get (by rw [flat_len hl]; exact hj), hf] at hu
    exact hu
end Go.Proofs.Ytmbjpnkedepijaa
