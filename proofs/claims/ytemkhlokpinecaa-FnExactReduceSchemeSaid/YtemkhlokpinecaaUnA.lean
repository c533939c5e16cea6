/-
  Lists of products in which two are united: plain functions; slices.Delete at []impl.Product. (Made by mkuna.py.)
-/
import Derived.Test.YtemkhlokpinecaaDel3
import Derived.Test.YtemkhlokpinecaaOwnSet
import Derived.Test.YtemkhlokpinecaaHeldT
import Derived.Test.YtemkhlokpinecaaSx
import Derived.Deep.DeepAppendRoom
namespace Go.Proofs.Ytemkhlokpinecaa
open Go.RowKit
set_option maxRecDepth 100000
/-- The list behind a union of two. -/
def stepL (qs : List (List Nat)) (i k : Nat) (one : List Nat) : List (List Nat) := ((qs.set i one).eraseIdx k).filter nzB
/-- The first union of the i-th product with one of the last d. -/
def unK (un : List Nat → List Nat → Option (List Nat)) (qs : List (List Nat)) (i : Nat) : Nat → Option (List (List Nat))
  | 0 => none
  | d + 1 => match un (qs[i]?.getD []) (qs[qs.length - (d + 1)]?.getD []) with
    | some one => some (stepL qs i (qs.length - (d + 1)) one)
    | none => unK un qs i d
def unI (un : List Nat → List Nat → Option (List Nat)) (qs : List (List Nat)) : Nat → Option (List (List Nat))
  | 0 => none
  | d + 1 => (unK un qs (qs.length - (d + 1)) d).or (unI un qs d)
def unN (un : List Nat → List Nat → Option (List Nat)) (qs : List (List Nat)) : Option (List (List Nat)) := unI un qs qs.length
def unA (un : List Nat → List Nat → Option (List Nat)) : Nat → List (List Nat) → List (List Nat)
  | 0, qs => qs
  | d + 1, qs => match unN un qs with
    | none => qs
    | some x => unA un d x
section
variable {un : List Nat → List Nat → Option (List Nat)} {qs : List (List Nat)} {i k : Nat} {q r one : List Nat}
theorem unK_some (hi : qs[i]? = some q) (hk : qs[k]? = some r) (h : un q r = some one) : unK un qs i (qs.length - k) = some (stepL qs i k one) := by
  have hl := (List.getElem?_eq_some_iff.1 hk).1
  rw [show qs.length - k = (qs.length - (k + 1)) + 1 by omega]
  simp only [unK]
  rw [show qs.length - (qs.length - (k + 1) + 1) = k by omega, hi, hk]
  simp only [Option.getD_some, h]
theorem unK_none (hi : qs[i]? = some q) (hk : qs[k]? = some r) (h : un q r = none) : unK un qs i (qs.length - k) = unK un qs i (qs.length - (k + 1)) := by
  have hl := (List.getElem?_eq_some_iff.1 hk).1
  rw [show qs.length - k = (qs.length - (k + 1)) + 1 by omega]
  simp only [unK]
  rw [show qs.length - (qs.length - (k + 1) + 1) = k by omega, hi, hk]
  simp only [Option.getD_some, h]
theorem unI_step (hi : i < qs.length) : unI un qs (qs.length - i) = (unK un qs i (qs.length - (i + 1))).or (unI un qs (qs.length - (i + 1))) := by
  rw [show qs.length - i = (qs.length - (i + 1)) + 1 by omega]
  simp only [unI]
  rw [show qs.length - (qs.length - (i + 1) + 1) = i by omega]
theorem stepL_len (hk : k < qs.length) : (stepL qs i k one).length + 1 ≤ qs.length := by
  have h1 := List.length_filter_le nzB ((qs.set i one).eraseIdx k)
  have h2 : ((qs.set i one).eraseIdx k).length = qs.length - 1 := by rw [List.length_eraseIdx, List.length_set, if_pos hk]
  unfold stepL
  omega
theorem stepL_mem {x : List Nat} (h : x ∈ stepL qs i k one) : nzB x = true ∧ (x ∈ qs ∨ x = one) := by
  obtain ⟨h1, h2⟩ := List.mem_filter.1 h
  exact ⟨h2, List.mem_or_eq_of_mem_set (List.mem_of_mem_eraseIdx h1)⟩
theorem unA_none {d : Nat} (h : unN un qs = none) : unA un d qs = qs := by
  cases d with
  | zero => rfl
  | succ d => simp only [unA, h]
theorem unA_some {d : Nat} {x : List (List Nat)} (h : unN un qs = some x) (hx : x.length + 1 ≤ qs.length) (hd : qs.length ≤ d) : ∃ d', d' + 1 = d ∧ unA un d qs = unA un d' x ∧ x.length ≤ d' := by
  obtain ⟨d', rfl⟩ : ∃ d', d = d' + 1 := ⟨d - 1, by omega⟩
  exact ⟨d', rfl, by simp only [unA, h], by omega⟩
end
theorem exec_sl3 {o : Oper} {a : Act} {w : World} (x y z u : Operand) (ho : o.op = .slice 26 x (some y) (some z) (some u)) (g N C l : Nat) (hl : l + 1 ≤ N) (hC : N ≤ C) (hx : a.eval x = .slice (some ⟨g, 0, none⟩) N C) (hy : a.eval y = .int .i64 (l : Int)) (hz : a.eval z = .int .i64 ((l + 1 : Nat) : Int)) (hu : a.eval u = .int .i64 (N : Int)) :
    (execOp a.eval o).run Try.prog w = .ok (.value (.slice (some ⟨g, l * 27, none⟩) 1 (N - l))) w := by
  have h := run_slice_lhm (P := Try.prog) (w := w) 26 (some ⟨g, 0, none⟩) N C elemPs .i64 .i64 .i64 (l : Int) ((l + 1 : Nat) : Int) (N : Int) (by omega) (by omega) (by omega) (by omega)
  rw [sizePs] at h
  unfold execOp
  simp only [ho, Option.map_some, hx, hy, hz, hu, Instr.sliceAt, Sem.run_bind, run_underlying elemPs, Result.andThen_ok, h]
  have e : ¬ N = l := by omega
  have e2 : l + 1 - l = 1 := by omega
  simp [sliced, e, e2, add_none]
theorem exec_sl2 {o : Oper} {a : Act} {w : World} (x y z : Operand) (ho : o.op = .slice 26 x (some y) (some z) none) (g N C l M : Nat) (hM : M = l + 1) (hC : l + 1 ≤ C) (hx : a.eval x = .slice (some ⟨g, 0, none⟩) N C) (hy : a.eval y = .int .i64 (l : Int)) (hz : a.eval z = .int .i64 (M : Int)) :
    (execOp a.eval o).run Try.prog w = .ok (.value (.slice (some ⟨g, l * 27, none⟩) 1 (C - l))) w := by
  subst hM
  have h := run_slice_lh (P := Try.prog) (w := w) 26 (some ⟨g, 0, none⟩) N C elemPs .i64 .i64 (l : Int) ((l + 1 : Nat) : Int) (by omega) (by omega) (by omega)
  rw [sizePs] at h
  unfold execOp
  simp only [ho, Option.map_some, Option.map_none, hx, hy, hz, Instr.sliceAt, Sem.run_bind, run_underlying elemPs, Result.andThen_ok, h]
  have e : ¬ C = l := by omega
  have e2 : l + 1 - l = 1 := by omega
  simp [sliced, e, e2, add_none]
theorem exec_sl_loE {o : Oper} {a : Act} {w : World} (x y : Operand) (ho : o.op = .slice 26 x (some y) none none) (g N C l : Nat) (hl : l ≤ N) (hx : a.eval x = .slice (some ⟨g, 0, none⟩) N C) (hy : a.eval y = .int .i64 (l : Int)) {OE : Nat} (hO : (if C = l then 0 else l * 27) = OE) :
    (execOp a.eval o).run Try.prog w = .ok (.value (.slice (some ⟨g, OE, none⟩) (N - l) (C - l))) w := by
  have h := run_slice_l (P := Try.prog) (w := w) 26 (some ⟨g, 0, none⟩) N C elemPs .i64 (l : Int) (by omega) (by omega)
  rw [sizePs] at h
  unfold execOp
  simp only [ho, Option.map_some, Option.map_none, hx, hy, Instr.sliceAt, Sem.run_bind, run_underlying elemPs, Result.andThen_ok, h]
  subst hO
  by_cases e : C = l
  · simp [sliced, e]
  · simp [sliced, e, add_none]
/-- The rest of a slice behind one that is struck out, laid over it. -/
theorem wp_app_del {o : Oper} {a : Act} {w : World} {K : Act → World → Prop} {Q : Exit → Act → World → Prop} (d : Option Tmp) (hd : o.dst = d) (s x : Operand) (ho : o.op = .call { callee := .builtin .append, args := #[s, x], argTypes := #[26, 26] })
    {lo g N n c k OE : Nat} {qs : List (List Nat)} (h : Own w lo (.slice (some ⟨g, 0, none⟩) n c) qs) (hq : ∀ q ∈ qs, Bytes 27 q) (hN : n = N + 1) (hk : k < N + 1) (hs : a.eval s = .slice (some ⟨g, 0, none⟩) k c) (hO : N = k ∨ OE = (k + 1) * 27) (hx : a.eval x = .slice (some ⟨g, OE, none⟩) (n - (k + 1)) (c - (k + 1)))
    (hK : ∀ w', Own w' lo (.slice (some ⟨g, 0, none⟩) N c) (qs.eraseIdx k) → w.grownBy w' (some g) → K (a.put d (.slice (some ⟨g, 0, none⟩) N c)) w') : Oper.wp Try.prog o a w K Q := by
  subst hN
  have hlen := h.len
  have hcap := h.cap
  have hq27 : ∀ q ∈ qs, q.length = 27 := fun q hm => (hq q hm).len
  have hs2 := h.shrink hq27 (i := k) (by omega) (by omega)
  have htl : (qs.take k).length = k := by rw [List.length_take]; omega
  have hdl : (qs.drop (k + 1)).length = N + 1 - (k + 1) := by rw [List.length_drop]; omega
  have hd27 : ∀ q ∈ qs.drop (k + 1), q.length = 27 := fun q hm => hq27 q (List.mem_of_mem_drop hm)
  have ht27 : ∀ q ∈ qs.take (k + 1), q.length = 27 := fun q hm => hq27 q (List.mem_of_mem_take hm)
  have ht1 : (qs.take (k + 1)).length = k + 1 := by rw [List.length_take]; omega
  obtain ⟨i0, hi, hz0, hz1, hz2⟩ := info_parts infoProd
  have hs3 : w.ownsRow lo 53 27 (.slice (some ⟨g, 0, none⟩) k c) k (u8s (qs.take k).flatten).toList := by
    have h9 := hs2
    unfold Own at h9
    rwa [htl] at h9
  have hcells : ∀ j u, (u8s qs.flatten).toList[j]? = some u → w.cell? ((⟨g, 0, none⟩ : Addr).add j) = some u := fun j u hu => World.ownsRow.cells (g := g) h rfl j u hu
  have hnl : (u8s (qs.drop (k + 1)).flatten).toList.length = (N + 1 - (k + 1)) * 27 := by rw [Array.length_toList, u8s_size, flat_len hd27, hdl]
  subst hd
  refine wp_append_own_spare w s x 26 ho lo 53 i0 27 Try.underlying26 hi hz1 g k c _ hs hs3 ⟨g, OE, none⟩ (N + 1 - (k + 1)) (c - (k + 1)) (u8s (qs.drop (k + 1)).flatten).toList hx hnl ?_ (u8s_one _) (by omega) ?_
  · intro j u hu
    rcases hO with rfl | rfl
    · have : (u8s (qs.drop (N + 1)).flatten).toList = [] := List.eq_nil_of_length_eq_zero (by rw [hnl]; simp)
      rw [this] at hu
      cases hu
    · have e1 : (u8s qs.flatten).toList = (u8s (qs.take (k + 1)).flatten).toList ++ (u8s (qs.drop (k + 1)).flatten).toList := by
        rw [u8s_toList, u8s_toList, u8s_toList, ← List.map_append, ← List.flatten_append, List.take_append_drop]
      have e2 : (u8s (qs.take (k + 1)).flatten).toList.length = (k + 1) * 27 := by rw [Array.length_toList, u8s_size, flat_len ht27, ht1]
      have h9 := hcells ((k + 1) * 27 + j) u (by rw [e1, List.getElem?_append_right (by omega), e2, Nat.add_sub_cancel_left]; exact hu)
      rw [add_none] at h9 ⊢
      rwa [Nat.zero_add] at h9
  · intro w' own' gr'
    have hN : k + (N + 1 - (k + 1)) = N := by omega
    rw [hN] at own' ⊢
    refine hK w' ?_ gr'
    have hel : (qs.eraseIdx k).length = N := by rw [List.length_eraseIdx, if_pos (by omega)]; omega
    unfold Own
    rw [hel, List.eraseIdx_eq_take_drop_succ, List.flatten_append]
    rw [u8s_toList, u8s_toList, ← List.map_append, ← u8s_toList] at own'
    exact own'
/-- The zeros behind an own slice. -/
theorem wp_clear_tail {o : Oper} {a : Act} {w : World} {K : Act → World → Prop} {Q : Exit → Act → World → Prop} (hd : o.dst = none) (x : Operand) (ho : o.op = .call { callee := .builtin .clear, args := #[x], argTypes := #[26] })
    {lo g c n : Nat} {L : List (List Nat)} (h : Own w lo (.slice (some ⟨g, 0, none⟩) n c) L) (hq : ∀ q ∈ L, q.length = 27) (i m cc : Nat) (hi : i = L.length) (him : i + m ≤ c) (hm : 0 < m) (hx : a.eval x = .slice (some ⟨g, i * 27, none⟩) m cc)
    (hk : ∀ w', Own w' lo (.slice (some ⟨g, 0, none⟩) n c) L → w.grownBy w' (some g) → K a w') : Oper.wp Try.prog o a w K Q := by
  have hl27 : (u8s L.flatten).toList.length = L.length * 27 := by rw [Array.length_toList, u8s_size, flat_len hq]
  rcases h.2 with ⟨e, _⟩ | ⟨g', cap, cur, e, hb, hgg, hle, hcap, hsz, ht⟩
  · simp at e
  · simp only [Value.slice.injEq, Option.some.injEq, Addr.mk.injEq] at e
    obtain ⟨⟨rfl, _, _⟩, rfl, rfl⟩ := e
    have hc27 : (i + m) * 27 ≤ c * 27 := Nat.mul_le_mul_right _ him
    rw [Nat.add_mul] at hc27
    obtain ⟨vs, hvs, hrun⟩ := run_clear_prod w g (i * 27) m cc o.type 53 cur hgg hm (by rw [hsz]; omega)
    unfold Oper.wp execOp
    simp only [ho, resolve, invoke, builtin, Sem.run_bind, Sem.run_pure, Result.andThen_ok, List.map_toArray, List.map_cons, List.map_nil, hx, hrun]
    simp only [Oper.upon, hd, Act.put]
    refine hk _ ?_ ⟨rfl, rfl, rfl, by rw [setRow_size]; exact Nat.le_refl _, fun k _ hne => setRow_other _ _ _ _ (fun e => hne (by rw [e]))⟩
    refine ⟨h.1, .inr ⟨g, c, _, rfl, hb, setRow_heap _ _ _ _ _ _ hgg, hle, hcap, ?_, ?_⟩⟩
    · rw [splice_size (by rw [hvs, hsz]; omega)]; exact hsz
    · rw [← ht]
      simp only [splice]
      rw [List.append_assoc, List.take_append_of_le_length (by simp; rw [hsz]; omega), List.take_take, hi, Nat.min_self]
set_option maxHeartbeats 6400000 in
theorem deleteOne_c {lo N n c g k : Nat} {qs : List (List Nat)} (w : World) (hN : n = N + 1) (ho : Own w lo (.slice (some ⟨g, 0, none⟩) n c) qs) (hb : ∀ q ∈ qs, Bytes 27 q) (hk : k < N + 1) (hn : N ≤ 1000) :
    Calls Try.prog 62 #[.slice (some ⟨g, 0, none⟩) n c, .int .i64 k, .int .i64 ((k + 1 : Nat) : Int)] w (fun e w' => e = .returned (.slice (some ⟨g, 0, none⟩) N c) ∧ Own w' lo (.slice (some ⟨g, 0, none⟩) N c) (qs.eraseIdx k) ∧ w.grownBy w' (some g)) := by
  have hB := Below.refl w.heap.size w
  have hG := grown_refl w (some g)
  have hcap := ho.cap
  have hlen := ho.len
  have Hb := Lib.hid hb
  have HN := Lib.hid hN
  have hN1 : n ≤ N + 1 := by omega
  have hN2 : N + 1 ≤ n := by omega
  obtain ⟨OE, hOE⟩ : ∃ z9, (if c = k + 1 then 0 else (k + 1) * 27) = z9 := ⟨_, rfl⟩
  have HOE := Lib.hid hOE
  have HOE2 : Hid (N = k ∨ OE = (k + 1) * 27) := Lib.hid (by rw [← hOE]; split <;> omega)
  have HEl : Hid ((qs.eraseIdx k).length = N) := Lib.hid (by rw [List.length_eraseIdx, if_pos (by omega)]; omega)
  have HE27 : Hid (∀ q ∈ qs.eraseIdx k, q.length = 27) := Lib.hid (fun q hq => (hb q (List.mem_of_mem_eraseIdx hq)).len)
  clear hb hlen hB hOE hN
  go_enter Try.func62, Try.ntmps62
  go_upto_region 0 with (fail)
  refine wp_region_lit ?_
  refine ls_ex (some 6) (.slice none 0 0) rfl rfl (exec_assign _ rfl (.slice none 0 0) rfl) ?_
  go_frame
  refine wpList_nil ?_
  go_upto_region 1 with (fail)
  refine wp_region_lit ?_
  refine ls_ex (some 8) (.slice (some ⟨g, 0, none⟩) n c) rfl rfl (exec_move _ rfl (.slice (some ⟨g, 0, none⟩) n c) rfl) ?_
  go_frame
  refine ls_ex (some 9) (.int .i64 k) rfl rfl (exec_move _ rfl (.int .i64 k) rfl) ?_
  go_frame
  refine ls_ex (some 10) (.int .i64 ((k + 1 : Nat) : Int)) rfl rfl (exec_move _ rfl (.int .i64 ((k + 1 : Nat) : Int)) rfl) ?_
  go_frame
  refine ls_ex (some 11) (.slice (some ⟨g, 0, none⟩) n c) rfl rfl (exec_move _ rfl (.slice (some ⟨g, 0, none⟩) n c) rfl) ?_
  go_frame
  refine ls_ex (some 12) (.int .i64 n) rfl rfl (exec_len _ 26 53 rfl ((some ⟨g, 0, none⟩)) n c rfl Try.underlying26) ?_
  go_frame
  refine ls_ex (some 13) (.slice (some ⟨g, k * 27, none⟩) 1 (n - k)) rfl rfl (exec_sl3 _ _ _ _ rfl g n c k (by omega) hcap rfl rfl rfl rfl) ?_
  go_frame
  refine wpList_nil ?_
  go_upto_region 2 with (fail)
  refine wp_region_lit ?_
  refine ls_ex (some 14) (.int .i64 k) rfl rfl (exec_move _ rfl (.int .i64 k) rfl) ?_
  go_frame
  refine ls_ex (some 15) (.int .i64 ((k + 1 : Nat) : Int)) rfl rfl (exec_move _ rfl (.int .i64 ((k + 1 : Nat) : Int)) rfl) ?_
  go_frame
  refine ls_ex (some 16) (.bool false) rfl rfl (exec_eql _ _ _ _ rfl k (((k + 1 : Nat) : Int)) rfl rfl false (by rw [beq_eq_false_iff_ne]; omega)) ?_
  go_frame
  refine wpList_nil ?_
  go_upto_region 4 with (fail)
  refine wp_region_lit ?_
  refine ls_ex (some 18) (.slice (some ⟨g, 0, none⟩) n c) rfl rfl (exec_move _ rfl (.slice (some ⟨g, 0, none⟩) n c) rfl) ?_
  go_frame
  refine ls_ex (some 19) (.int .i64 n) rfl rfl (exec_len _ 26 53 rfl ((some ⟨g, 0, none⟩)) n c rfl Try.underlying26) ?_
  go_frame
  refine ls_ex (some 7) (.int .i64 n) rfl rfl (exec_assign _ rfl (.int .i64 n) rfl) ?_
  go_frame
  refine wpList_nil ?_
  go_upto_region 5 with (fail)
  refine wp_region_y (zs := [6]) (S := fun w' => True) (S2 := fun w' => True) (by kernel_rfl) ?_
  change wpAnyY _ _ _ _ _ _ _ _ _ _ (World.drew _)
  generalize hwdz1 : World.drew _ = wdz1
  replace ho : Own wdz1 lo (.slice (some ⟨g, 0, none⟩) n c) qs := by rw [← hwdz1]; exact ho.drew
  replace hG : w.grownBy wdz1 (some g) := by rw [← hwdz1]; exact (grown_drew hG)
  clear hwdz1
  refine y_yield 0 (some 20) (.slice (some ⟨g, 0, none⟩) n c) rfl (by kernel_rfl) (by kernel_rfl) (by kernel_rfl) (fun _ _ _ h => h) rfl rfl trivial (fun w' h' => exec_move _ rfl (.slice (some ⟨g, 0, none⟩) n c) rfl) ?_
  go_frame
  refine y_yield 1 (some 21) (.int .i64 k) rfl (by kernel_rfl) (by kernel_rfl) (by kernel_rfl) (fun _ _ _ h => h) rfl rfl trivial (fun w' h' => exec_move _ rfl (.int .i64 k) rfl) ?_
  go_frame
  refine y_yield 2 (some 22) (.slice (some ⟨g, 0, none⟩) k c) rfl (by kernel_rfl) (by kernel_rfl) (by kernel_rfl) (fun _ _ _ h => h) rfl rfl trivial (fun w' h' => exec_sl_hi _ _ rfl g n c k (by omega) rfl rfl) ?_
  go_frame
  refine y_yield 3 (some 23) (.slice (some ⟨g, 0, none⟩) n c) rfl (by kernel_rfl) (by kernel_rfl) (by kernel_rfl) (fun _ _ _ h => h) rfl rfl trivial (fun w' h' => exec_move _ rfl (.slice (some ⟨g, 0, none⟩) n c) rfl) ?_
  go_frame
  refine y_yield 4 (some 24) (.int .i64 ((k + 1 : Nat) : Int)) rfl (by kernel_rfl) (by kernel_rfl) (by kernel_rfl) (fun _ _ _ h => h) rfl rfl trivial (fun w' h' => exec_move _ rfl (.int .i64 ((k + 1 : Nat) : Int)) rfl) ?_
  go_frame
  refine y_yield 5 (some 25) (.slice (some ⟨g, OE, none⟩) (n - (k + 1)) (c - (k + 1))) rfl (by kernel_rfl) (by kernel_rfl) (by kernel_rfl) (fun _ _ _ h => h) rfl rfl trivial (fun w' h' => exec_sl_loE _ _ rfl g n c (k + 1) (by omega) rfl rfl HOE.out) ?_
  go_frame
  refine y_oper 6 (by kernel_rfl) rfl rfl (fun K' hK' => ?_)
  have lz5 := hG.size
  refine wp_app_del (some 26) rfl _ _ rfl ho Hb.out HN.out hk rfl HOE2.out rfl (fun Wz2 noz4 grz3 => ?_)
  replace hG := grown_trans hG grz3
  replace ho := noz4
  refine hK' _ _ trivial (fun h => absurd (by decide) h) ?_
  clear hK' K' grz3
  go_frame
  refine y_oper 7 (by kernel_rfl) rfl rfl (fun K' hK' => ?_)
  refine wp_exec (some 0) rfl (.slice (some ⟨g, 0, none⟩) N c) (exec_assign _ rfl (.slice (some ⟨g, 0, none⟩) N c) rfl) ?_
  refine hK' _ _ trivial (fun _ => trivial) ?_
  clear hK' K'
  go_frame
  refine y_done (by kernel_rfl) ?_ _
  go_upto_region 6 with (fail)
  refine wp_region_lit ?_
  refine ls_ex (some 27) (.slice (some ⟨g, 0, none⟩) N c) rfl rfl (exec_move _ rfl (.slice (some ⟨g, 0, none⟩) N c) rfl) ?_
  go_frame
  refine ls_ex (some 28) (.slice (some ⟨g, 0, none⟩) N c) rfl rfl (exec_move _ rfl (.slice (some ⟨g, 0, none⟩) N c) rfl) ?_
  go_frame
  refine ls_ex (some 29) (.int .i64 N) rfl rfl (exec_len _ 26 53 rfl ((some ⟨g, 0, none⟩)) N c rfl Try.underlying26) ?_
  go_frame
  refine ls_ex (some 30) (.int .i64 n) rfl rfl (exec_move _ rfl (.int .i64 n) rfl) ?_
  go_frame
  refine ls_ex (some 31) (.slice (some ⟨g, N * 27, none⟩) 1 (c - N)) rfl rfl (exec_sl2 _ _ _ rfl g N c N n HN.out (by omega) rfl rfl rfl) ?_
  go_frame
  refine ls_op rfl (fun K' hK' => ?_)
  have lz9 := hG.size
  refine wp_clear_tail rfl _ rfl ho HE27.out N 1 (c - N) HEl.out.symm (by omega) (by omega) rfl (fun Wz6 noz8 grz7 => ?_)
  replace hG := grown_trans hG grz7
  replace ho := noz8
  refine hK' _ _ ?_
  clear hK' K' grz7
  refine wpList_nil ?_
  go_upto_region 7 with (fail)
  refine wp_region_lit ?_
  refine ls_ex (some 32) (.slice (some ⟨g, 0, none⟩) N c) rfl rfl (exec_move _ rfl (.slice (some ⟨g, 0, none⟩) N c) rfl) ?_
  go_frame
  refine ls_ex (some 6) (.slice (some ⟨g, 0, none⟩) N c) rfl rfl (exec_assign _ rfl (.slice (some ⟨g, 0, none⟩) N c) rfl) ?_
  go_frame
  refine wpList_nil ?_
  go_wp2_with fail
  go_ret
  exact ⟨rfl, ho, hG⟩
end Go.Proofs.Ytemkhlokpinecaa
