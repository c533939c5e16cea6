/-
  slices.IndexFunc and slices.DeleteFunc at []impl.Product with impl.hasZero.
-/
import Derived.Test.YtemkhlokpinecaaDel1
namespace Go.Proofs.Ytemkhlokpinecaa
open Go.RowKit
set_option maxRecDepth 100000
def IdxPost (qs : List (List Nat)) (w : World) (e : Ending) (w' : World) : Prop :=
  ∃ r : Int, e = .returned (.int .i64 r) ∧ ((r = -1 ∧ qs.filter nzB = qs) ∨ ∃ i : Nat, r = i ∧ i < qs.length ∧ (qs.take i).filter nzB = qs.take i ∧ (qs.take (i + 1)).filter nzB = qs.take i) ∧ Below w.heap.size w w'
set_option maxHeartbeats 1600000 in
theorem indexDel_c (A : Option Addr) (c : Nat) (qs : List (List Nat)) (w : World) (hr : Rd w A qs) (hlen : qs.length ≤ 1000) :
    Calls Try.prog 94 #[.slice A qs.length c, .func (.func 63) #[] #[]] w (IdxPost qs w) := by
  go_enter Try.func94, Try.ntmps94
  go_wp2_with fail
  go_loopw [8] (fun i wr => ∃ j : Nat, j ≤ qs.length ∧ i = .int .i64 j ∧ (qs.take j).filter nzB = qs.take j ∧ Below w.heap.size w wr) (fun i _ => qs.length - (intOf i).toNat)
  case atStart => exact ⟨0, by omega, rfl, by simp, Below.refl _ _⟩
  case round =>
    obtain ⟨j, hj, rfl, hf, hB⟩ := hrel
    have Hf := Lib.hid hf
    clear hf
    by_cases hlt : j < qs.length
    · have e0 : IntKind.i64.wrap ((j : Int) + 1) = (j : Int) + 1 := IntWalk.i64_in _ (by omega)
      have hj' : (j : Int) < (qs.length : Int) := by omega
      obtain ⟨b, off, rfl, _⟩ := hr.at_ hlt
      have hqj := hr.good _ (List.getElem_mem hlt)
      have Hc := Lib.hid (Rd.cells27 (hr.keep hB) hlt)
      have HF := Lib.hid (filter_snoc qs hlt)
      have HT := Lib.hid (List.take_succ_eq_append_getElem hlt)
      have HZ := Lib.hid (fun w => hasZero_c _ hqj w)
      generalize qs[j] = q at *
      cases hz : nzB q with
      | true =>
        have HN : Hid ((qs.take (j + 1)).filter nzB = qs.take (j + 1)) := Lib.hid (by rw [HF.out, HT.out, Hf.out, hz]; rfl)
        have Hz := Lib.hid hz
        clear hz
        go_wp2_with (refine wpList_load_cells rfl 53 _ rfl b (off + j * 27) rfl q _ 27 Hc.out Try.underlying53 rfl (by kernel_rfl) hqj.len ?_)
        refine (HZ.out _).mono ?_
        rintro e w1 ⟨rfl, b1⟩
        rw [Hz.out]
        go_wp2_with fail
        go_roundw
        case rel => exact ⟨j + 1, by omega, by go_num, HN.out, below_after hB b1⟩
        case measure => simp [intOf]; omega
      | false =>
        have HN : Hid ((qs.take (j + 1)).filter nzB = qs.take j) := Lib.hid (by rw [HF.out, Hf.out, hz]; simp)
        have Hz := Lib.hid hz
        clear hz
        go_wp2_with (refine wpList_load_cells rfl 53 _ rfl b (off + j * 27) rfl q _ 27 Hc.out Try.underlying53 rfl (by kernel_rfl) hqj.len ?_)
        refine (HZ.out _).mono ?_
        rintro e w1 ⟨rfl, b1⟩
        rw [Hz.out]
        go_wp2_with fail
        go_ret
        exact ⟨_, rfl, .inr ⟨j, rfl, hlt, Hf.out, HN.out⟩, below_after hB b1⟩
    · obtain rfl : j = qs.length := by omega
      go_wp2_with fail
      go_ret
      exact ⟨_, rfl, .inl ⟨rfl, by have := Hf.out; rwa [List.take_length] at this⟩, hB⟩
/-- The first part of such a slice. -/
theorem Own.shrink {w : World} {lo c n : Nat} {A : Option Addr} {L : List (List Nat)} (h : Own w lo (.slice A n c) L) (hq : ∀ q ∈ L, q.length = 27) {i : Nat} (hi : i ≤ L.length) (hp : 0 < L.length) : Own w lo (.slice A i c) (L.take i) := by
  have hl : (L.take i).length = i := by simp; omega
  have hq' : ∀ q ∈ L.take i, q.length = 27 := fun q hm => hq q (List.mem_of_mem_take hm)
  refine ⟨by rw [Array.length_toList, u8s_size, flat_len hq'], ?_⟩
  rcases h.2 with ⟨e, h0⟩ | ⟨g, cap, cur, e, hb, hgg, hle, hcap, hsz, ht⟩
  · omega
  · simp only [Value.slice.injEq] at e
    obtain ⟨rfl, rfl, rfl⟩ := e
    refine .inr ⟨g, c, cur, by rw [hl], hb, hgg, by omega, hcap, hsz, ?_⟩
    have h27 : i * 27 ≤ L.length * 27 := Nat.mul_le_mul_right _ hi
    have e1 : cur.toList.take (i * 27) = (cur.toList.take (L.length * 27)).take (i * 27) := by rw [List.take_take, Nat.min_eq_left h27]
    rw [hl, e1, ht, u8s_toList, u8s_toList, ← List.map_take]
    congr 1
    have e2 : L.flatten = (L.take i).flatten ++ (L.drop i).flatten := by rw [← List.flatten_append, List.take_append_drop]
    have e3 : (L.take i).flatten.length = i * 27 := by rw [flat_len hq', hl]
    rw [e2, ← e3, List.take_left]
theorem wpList_clear_own {ops : Array Oper} {rest : List Oper} {o : Oper} {a : Act} {w : World} {Q : Exit → Act → World → Prop} (hgd : o.guard = none) (hd : o.dst = none) (x : Operand) (ho : o.op = .call { callee := .builtin .clear, args := #[x], argTypes := #[26] })
    {lo g c n : Nat} {L : List (List Nat)} (h : Own w lo (.slice (some ⟨g, 0, none⟩) n c) L) (hq : ∀ q ∈ L, q.length = 27) (i m cc : Nat) (hi : i + m = L.length) (hm : 0 < m) (hx : a.eval x = .slice (some ⟨g, i * 27, none⟩) m cc)
    (hk : ∀ w', Own w' lo (.slice (some ⟨g, 0, none⟩) i c) (L.take i) → w.grownBy w' (some g) → wpList Try.prog ops Q rest a w') : wpList Try.prog ops Q (o :: rest) a w := by
  have hs := h.shrink hq (i := i) (by omega) (by omega)
  rcases h.2 with ⟨e, _⟩ | ⟨g', cap, cur, e, hb, hgg, hle, hcap, hsz, ht⟩
  · simp at e
  · simp only [Value.slice.injEq, Option.some.injEq, Addr.mk.injEq] at e
    obtain ⟨⟨rfl, _, _⟩, rfl, rfl⟩ := e
    have hl27 : L.length * 27 ≤ c * 27 := Nat.mul_le_mul_right _ hle
    have him : i * 27 + m * 27 = L.length * 27 := by rw [← Nat.add_mul, hi]
    obtain ⟨vs, hvs, hrun⟩ := run_clear_prod w g (i * 27) m cc o.type 53 cur hgg hm (by rw [hsz]; omega)
    refine wpList_plain hgd fun K hK => ?_
    unfold Oper.wp execOp
    simp only [ho, resolve, invoke, builtin, Sem.run_bind, Sem.run_pure, Result.andThen_ok, List.map_toArray, List.map_cons, List.map_nil, hx, hrun]
    simp only [Oper.upon, hd, Act.put]
    refine hK _ _ (hk _ ?_ ⟨rfl, rfl, rfl, by rw [setRow_size]; exact Nat.le_refl _, fun k _ hne => setRow_other _ _ _ _ (fun e => hne (by rw [e]))⟩)
    have hl : (L.take i).length = i := by simp; omega
    refine ⟨hs.1, .inr ⟨g, c, _, by rw [hl], hb, setRow_heap _ _ _ _ _ _ hgg, by rw [hl]; omega, hcap, ?_, ?_⟩⟩
    · rw [splice_size (by rw [hvs, hsz]; omega)]; exact hsz
    · rcases hs.2 with ⟨e, _⟩ | ⟨g2, cap2, cur2, e, _, hgg2, _, _, _, ht2⟩
      · simp at e
      · simp only [Value.slice.injEq, Option.some.injEq, Addr.mk.injEq] at e
        obtain ⟨⟨rfl, _, _⟩, _, rfl⟩ := e
        have e3 : some (Obj.cells cur 53 (0, 0)) = some (Obj.cells cur2 53 (0, 0)) := hgg.symm.trans hgg2
        simp only [Option.some.injEq, Obj.cells.injEq, true_and, and_true] at e3
        subst e3
        rw [← ht2, hl]
        simp only [splice]
        rw [List.append_assoc, List.take_append_of_le_length (by simp; rw [hsz]; omega), List.take_take, Nat.min_self]
end Go.Proofs.Ytemkhlokpinecaa
