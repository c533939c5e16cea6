/-
  spec.l10Forms, l10Product, l10Drop. (Made by mkws1.py.)
-/
import Derived.Test.YtemkhlokpinecaaFp
namespace Go.Proofs.Ytemkhlokpinecaa
open Go.RowKit
set_option maxRecDepth 100000
theorem wp_appP {o : Oper} {a : Act} {w : World} {K : Act → World → Prop} {Q : Exit → Act → World → Prop} (d : Option Tmp) (hd : o.dst = d) (s x : Operand) (ho : o.op = .call { callee := .builtin .append, args := #[s, x], argTypes := #[26, 26] })
    {lo : Nat} (sl : Value) (qs : List (List Nat)) (q : List Nat) (hs : a.eval s = sl) (hown : Own w lo sl qs) (g : Nat) (hx : a.eval x = .slice (some ⟨g, 0, none⟩) 1 1) (hg : At w g (.cells (u8s q) 53 (0, 0))) (hq : q.length = 27) (hle : qs.length ≤ 1000000) (hlo : lo ≤ w.heap.size)
    (h : ∀ v' w', Own w' lo v' (qs ++ [q]) → w.grownBy w' sl.ownBlock → K (a.put d v') w') : Oper.wp Try.prog o a w K Q := by
  obtain ⟨i0, hi, hz0, hz1, hz2⟩ := info_parts infoProd
  refine wp_append' d hd s x 26 ho lo 53 i0 (.agg (u8s (List.replicate 27 0))) 27 27 Try.underlying26 hi hz0 hz1 hz2 rfl (by decide) sl _ _ hs hown ⟨g, 0, none⟩ 1 1 (u8s q).toList hx (by rw [Array.length_toList, u8s_size, hq]) ?_ (u8s_one q) (by unfold maxLen; omega) (by omega) hlo ?_
  · intro j u hu
    rw [add_none, Nat.zero_add, hg.at_ j, ← Array.getElem?_toList]
    exact hu
  · intro v1 w8 own8 gr8 _
    refine h v1 w8 ?_ gr8
    unfold Own
    rw [u8s_snoc, List.length_append]
    exact own8
attribute [local irreducible] wpList
theorem drop_no {qs : List (List Nat)} {i : Nat} (h : i < qs.length) (hn : nzB qs[i] = false) : (qs.take i).filter nzB = (qs.take (i + 1)).filter nzB := by
  rw [List.take_succ_eq_append_getElem h, List.filter_append]
  simp [hn]
theorem drop_yes {qs : List (List Nat)} {i : Nat} (h : i < qs.length) (hn : nzB qs[i] = true) : (qs.take i).filter nzB ++ [qs[i]] = (qs.take (i + 1)).filter nzB := by
  rw [List.take_succ_eq_append_getElem h, List.filter_append]
  simp [hn]
theorem Rd.cD27 {w : World} {b off : Nat} {ts : List (List Nat)} (h : Rd w (some ⟨b, off, none⟩) ts) {i : Nat} (hi : i < ts.length) : ∀ j, j < 27 → w.cell? ⟨b, off + i * 27 + j, none⟩ = some (.int .u8 ((ts[i][j]?.getD 0 : Nat) : Int)) := h.cFl (List.getElem?_eq_getElem hi)
theorem Rd.cDf {w : World} {b off : Nat} {ts : List (List Nat)} (h : Rd w (some ⟨b, off, none⟩) ts) {i : Nat} (hi : i < ts.length) {o : Nat} (ho : o + 9 ≤ 27) : ∀ j, j < 9 → w.cell? ⟨b, off + i * 27 + o + j, none⟩ = some (.int .u8 (((segm ts[i] o 9)[j]?.getD 0 : Nat) : Int)) := fun j hj => by
  have h9 := h.cD27 hi (o + j) (by omega)
  rw [show off + i * 27 + o + j = off + i * 27 + (o + j) by omega, h9]
  unfold segm
  rw [List.getElem?_take, if_pos hj, List.getElem?_drop]
theorem Rd.cDf0 {w : World} {b off : Nat} {ts : List (List Nat)} (h : Rd w (some ⟨b, off, none⟩) ts) {i : Nat} (hi : i < ts.length) : ∀ j, j < 9 → w.cell? ⟨b, off + i * 27 + j, none⟩ = some (.int .u8 (((segm ts[i] 0 9)[j]?.getD 0 : Nat) : Int)) := h.cDf hi (o := 0) (by omega)
theorem Rd.cDf9 {w : World} {b off : Nat} {ts : List (List Nat)} (h : Rd w (some ⟨b, off, none⟩) ts) {i : Nat} (hi : i < ts.length) : ∀ j, j < 9 → w.cell? ⟨b, off + i * 27 + 9 + j, none⟩ = some (.int .u8 (((segm ts[i] 9 9)[j]?.getD 0 : Nat) : Int)) := h.cDf hi (o := 9) (by omega)
theorem Rd.cDf18 {w : World} {b off : Nat} {ts : List (List Nat)} (h : Rd w (some ⟨b, off, none⟩) ts) {i : Nat} (hi : i < ts.length) : ∀ j, j < 9 → w.cell? ⟨b, off + i * 27 + 18 + j, none⟩ = some (.int .u8 (((segm ts[i] 18 9)[j]?.getD 0 : Nat) : Int)) := h.cDf hi (o := 18) (by omega)
end Go.Proofs.Ytemkhlokpinecaa
