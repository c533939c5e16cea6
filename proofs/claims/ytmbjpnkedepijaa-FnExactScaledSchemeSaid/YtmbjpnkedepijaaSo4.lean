/-
  spec.l01Sorted. (Made by mkso3.py.)
-/
import Derived.Test.YtmbjpnkedepijaaSo3
import Derived.Test.YtmbjpnkedepijaaMt3
import Derived.Test.YtmbjpnkedepijaaOwnSet
namespace Go.Proofs.Ytmbjpnkedepijaa
open Go.RowKit
set_option maxRecDepth 100000
theorem elemPs : Try.prog.underlying 26 = some (.slice (Try.prog.elem 26)) := by kernel_rfl
theorem sizePs (w : World) : (sizeOf (Try.prog.elem 26)).run Try.prog w = .ok 27 w := by kernel_rfl
theorem Own.cap {w : World} {lo c n : Nat} {A : Option Addr} {L : List (List Nat)} (h : Own w lo (.slice A n c) L) : n ≤ c := by
  rcases h.2 with ⟨e, h0⟩ | ⟨g, cap, cur, e, hb, hgg, hle, _⟩
  · simp only [Value.slice.injEq] at e; omega
  · simp only [Value.slice.injEq] at e; omega
theorem wp_append_rdN {o : Oper} {a : Act} {w : World} {K : Act → World → Prop} {Q : Exit → Act → World → Prop} (d : Option Tmp) (hd : o.dst = d) (s x : Operand) (ho : o.op = .call { callee := .builtin .append, args := #[s, x], argTypes := #[26, 26] })
    {lo : Nat} (v : Value) (qs rs : List (List Nat)) (n : Nat) (hn : rs.length = n) (hs : a.eval s = v) (hown : Own w lo v qs) (A : Option Addr) (c : Nat) (hx : a.eval x = .slice A n c) (hr : Rd w A rs) (hc : A = none → c = 0) (hle : qs.length + rs.length ≤ 1000000) (hlo : lo ≤ w.heap.size)
    (h : ∀ v' w', Own w' lo v' (qs ++ rs) → w.grownBy w' v.ownBlock → K (a.put d v') w') : Oper.wp Try.prog o a w K Q := by
  subst hn
  exact wp_append_rd d hd s x ho v qs rs hs hown A c hx hr hc hle hlo h
theorem Rd.take9 {w : World} {A : Option Addr} {qs : List (List Nat)} (h : Rd w A qs) (i : Nat) : Rd w A (qs.take i) := by
  refine ⟨fun q hq => h.1 q (List.mem_of_mem_take hq), ?_⟩
  rcases h.2 with rfl | ⟨b, off, hA, hc⟩
  · left; simp
  · refine .inr ⟨b, off, hA, fun j q hj => hc j q ?_⟩
    rw [List.getElem?_take] at hj
    split at hj
    · exact hj
    · cases hj
attribute [local irreducible] wpList
def dropA (A : Option Addr) (c t : Nat) : Option Addr := if c = t then A else A.map (·.add (t * 27))
theorem dropA_none {A : Option Addr} {c t : Nat} (h : dropA A c t = none) : A = none := by
  unfold dropA at h
  split at h
  · exact h
  · simpa using h
theorem Own.none0 {w : World} {lo n c : Nat} {A : Option Addr} {qs : List (List Nat)} (h : Own w lo (.slice A n c) qs) : A = none → c = 0 := fun e => by
  subst e
  rcases h.2 with ⟨h1, _⟩ | ⟨g, cap, cur, h1, _⟩
  · simp only [Value.slice.injEq] at h1
    omega
  · simp at h1
theorem exec_sl_loA {o : Oper} {a : Act} {w : World} (x y : Operand) (ho : o.op = .slice 26 x (some y) none none) (A : Option Addr) (N C l : Nat) (hl : l ≤ N) (hx : a.eval x = .slice A N C) (hy : a.eval y = .int .i64 (l : Int)) :
    (execOp a.eval o).run Try.prog w = .ok (.value (.slice (dropA A C l) (N - l) (C - l))) w := by
  have h := run_slice_l (P := Try.prog) (w := w) 26 A N C elemPs .i64 (l : Int) (by omega) (by omega)
  rw [sizePs] at h
  unfold execOp
  simp only [ho, Option.map_some, Option.map_none, hx, hy, Instr.sliceAt, Sem.run_bind, run_underlying elemPs, Result.andThen_ok, h]
  simp only [sliced, Int.toNat_natCast, dropA]
  rfl
theorem exec_sl_hiA {o : Oper} {a : Act} {w : World} (x y : Operand) (ho : o.op = .slice 26 x none (some y) none) (A : Option Addr) (N C i : Nat) (hi : i ≤ C) (hx : a.eval x = .slice A N C) (hy : a.eval y = .int .i64 (i : Int)) :
    (execOp a.eval o).run Try.prog w = .ok (.value (.slice A i C)) w := by
  have h := run_slice_h (P := Try.prog) (w := w) 26 A N C elemPs .i64 (i : Int) (by omega) (by omega)
  rw [sizePs] at h
  unfold execOp
  simp only [ho, Option.map_some, Option.map_none, hx, hy, Instr.sliceAt, Sem.run_bind, run_underlying elemPs, Result.andThen_ok, h]
  cases A <;> simp [sliced, Addr.add]
theorem exec_ixSA {o : Oper} {a : Act} {w : World} {A : Option Addr} {b off : Nat} (x y : Operand) (ho : o.op = .indexAddr 26 x y) (hA : A = some ⟨b, off, none⟩) (N C i : Nat) (hx : a.eval x = .slice A N C) (hy : a.eval y = .int .i64 (i : Int)) (hi : i < N) :
    (execOp a.eval o).run Try.prog w = .ok (.value (.pointer (some ⟨b, off + i * 27, none⟩))) w := by
  subst hA
  exact exec_index_slice _ 45 _ _ ho b off N C i 27 hx hy Try.underlying26 (by kernel_rfl) hi
theorem Rd.dropA {w : World} {A : Option Addr} {c l : Nat} {qs : List (List Nat)} (h : Rd w A qs) (hc : qs.length ≤ c) : Rd w (dropA A c l) (qs.drop l) := by
  refine ⟨fun q hq => h.1 q (List.mem_of_mem_drop hq), ?_⟩
  rcases Nat.lt_or_ge l qs.length with hl | hl
  · rcases h.2 with rfl | ⟨b, off, rfl, hcl⟩
    · simp at hl
    · refine .inr ⟨b, off + l * 27, ?_, fun j q hj t ht => ?_⟩
      · unfold Proofs.Ytmbjpnkedepijaa.dropA
        rw [if_neg (by omega)]
        by_cases h0 : l = 0
        · subst h0
          simp [Addr.add]
        · simp [Addr.add, show ¬ l * 27 = 0 by omega]
      · rw [List.getElem?_drop] at hj
        have := hcl (l + j) q hj t ht
        rw [show off + (l + j) * 27 + t = off + l * 27 + j * 27 + t by rw [Nat.add_mul]; omega] at this
        exact this
  · left
    exact List.drop_eq_nil_of_le hl
theorem Rd.c27x {w : World} {A : Option Addr} {b off i : Nat} {qs : List (List Nat)} {q : List Nat} (h : Rd w A qs) (hA : A = some ⟨b, off, none⟩) (hi : qs[i]? = some q) : ∀ j, j < 27 → w.cell? ⟨b, off + i * 27 + j, none⟩ = some (.int .u8 ((q[j]?.getD 0 : Nat) : Int)) := by
  subst hA
  obtain ⟨hl, rfl⟩ := List.getElem?_eq_some_iff.1 hi
  exact fun j hj => Rd.cells27 h hl j hj
theorem Rd.addrX {w : World} {A : Option Addr} {qs : List (List Nat)} {q : List Nat} (h : Rd w A qs) (hq : q ∈ qs) : ∃ b off, A = some ⟨b, off, none⟩ := by
  rcases h.2 with rfl | ⟨b, off, hA, _⟩
  · cases hq
  · exact ⟨b, off, hA⟩
theorem own_bs1P {w w' : World} {q : List Nat} (h : New w w' (.cells (u8s q) 45 (0, 0))) (hq : q.length = 27) : Own w' w.heap.size (.slice (some ⟨w.heap.size, 0, none⟩) 1 1) [q] :=
  ⟨by simp [u8s, hq], .inr ⟨w.heap.size, 1, u8s q, rfl, Nat.le_refl _, h.at_, by simp, by decide, by simp [u8s, hq], by simp only [List.length_singleton, Nat.one_mul, List.flatten_cons, List.flatten_nil, List.append_nil]; exact List.take_of_length_le (by simp [u8s, hq])⟩⟩
theorem insA_snoc : ∀ (xs acc : List (List Nat)) (x : List Nat), insA acc (xs ++ [x]) = insL x (insA acc xs)
  | [], _, _ => rfl
  | y :: xs, acc, x => by
    rw [List.cons_append, insA, insA, insA_snoc]
theorem insA_len {qs : List (List Nat)} {i : Nat} (h : i ≤ qs.length) : (insA [] (qs.take i)).length = i := by
  have := (insA_perm (qs.take i) []).length_eq
  rw [List.nil_append, List.length_take] at this
  omega
theorem insA_mem {qs : List (List Nat)} {i : Nat} {q : List Nat} (h : q ∈ insA [] (qs.take i)) : q ∈ qs := by
  have := (insA_perm (qs.take i) []).mem_iff.1 h
  rw [List.nil_append] at this
  exact List.mem_of_mem_take this
theorem posL_step {x y : List Nat} {l : List (List Nat)} {t : Nat} (hy : l[t]? = some y) (h : ¬ lexC x y < 0) : posL x (l.drop t) = posL x (l.drop (t + 1)) + 1 := by
  obtain ⟨hl, rfl⟩ := List.getElem?_eq_some_iff.1 hy
  rw [List.drop_eq_getElem_cons hl]
  show (if lexC x l[t] < 0 then 0 else posL x (l.drop (t + 1)) + 1) = _
  rw [if_neg h]
theorem posL_stop {x y : List Nat} {l : List (List Nat)} {t : Nat} (hy : l[t]? = some y) (h : lexC x y < 0) : posL x (l.drop t) = 0 := by
  obtain ⟨hl, rfl⟩ := List.getElem?_eq_some_iff.1 hy
  rw [List.drop_eq_getElem_cons hl]
  show (if lexC x l[t] < 0 then 0 else posL x (l.drop (t + 1)) + 1) = _
  rw [if_pos h]
theorem alSu_impl_Scheme {o : Oper} {a : Act} {w : World} (ho : o.op = .alloc 28) : (execOp a.eval o).run Try.prog w = .ok (.value (.pointer (some ⟨w.heap.size, 0, none⟩))) (w.alloc (.cells #[.int .i64 0, .int .i64 0, .int .i64 0, .int .i64 0, .slice none 0 0] 28 (0, 0))) := by
  unfold execOp
  rw [ho]
  kernel_rfl
set_option maxHeartbeats 6400000 in
theorem l01Sorted_c (p n m k : Int) (AX : Option Addr) (c N : Nat) (qs : List (List Nat)) (w : World) (hR : Rd w AX qs) (hN : qs.length = N) (hlen : N ≤ 1000) :
    Calls Try.prog 16 #[.agg #[.int .i64 p, .int .i64 n, .int .i64 m, .int .i64 k, .slice AX N c]] w (fun e w' => ∃ v, e = .returned (.agg #[.int .i64 p, .int .i64 n, .int .i64 m, .int .i64 k, v]) ∧ Own w' w.heap.size v (insA [] qs) ∧ Below w.heap.size w w') := by
  have hB := Below.refl w.heap.size w
  have HNl := Lib.hid hN
  clear hN
  go_enter Try.func16, Try.ntmps16
  go_upto_region 0 with (fail)
  refine wp_region_lit ?_
  refine ls_op rfl (fun K' hK' => ?_)
  have lz1 := hB.size
  refine wp_new (some 1) rfl (exec_box 28 _ rfl (#[.int .i64 p, .int .i64 n, .int .i64 m, .int .i64 k, .slice AX N c]) rfl) (fun Wz2 nnz3 => ?_)
  have bz4 := nnz3.below (Below.refl _ _) (Nat.le_refl _)
  replace hB := below_after hB bz4
  have hz5 : At Wz2 w.heap.size (.cells #[.int .i64 p, .int .i64 n, .int .i64 m, .int .i64 k, .slice AX N c] 28 (0, 0)) := nnz3.at_
  refine hK' _ _ ?_
  clear hK' K' nnz3 bz4
  go_frame
  refine ls_op rfl (fun K' hK' => ?_)
  have lz6 := hB.size
  have lz7 := hz5.lt
  refine wp_new (some 2) rfl (alSu_impl_Scheme rfl) (fun Wz8 nnz9 => ?_)
  have bz10 := nnz9.below (Below.refl _ _) (Nat.le_refl _)
  replace hB := below_after hB bz10
  replace hz5 := hz5.after bz10
  have hz11 : At Wz8 Wz2.heap.size (.cells #[.int .i64 0, .int .i64 0, .int .i64 0, .int .i64 0, .slice none 0 0] 28 (0, 0)) := nnz9.at_
  refine hK' _ _ ?_
  clear hK' K' nnz9 bz10
  go_frame
  refine wpList_nil ?_
  go_upto_region 1 with (fail)
  refine wp_region_lit ?_
  refine ls_ex (some 7) (.agg #[.int .i64 p, .int .i64 n, .int .i64 m, .int .i64 k, .slice AX N c]) rfl rfl (exec_load_all 28 _ rfl w.heap.size rfl _ _ _ hz5 Try.underlying28 rfl 5 (by kernel_rfl) rfl) ?_
  go_frame
  refine ls_op rfl (fun K' hK' => ?_)
  have lz14 := hB.size
  have lz15 := hz5.lt
  have lz16 := hz11.lt
  have lo5 := hB.size
  refine wp_call1 (some 8) rfl 23 _ _ rfl (fun args w => by kernel_rfl) _ rfl _ (l01Empty_c p n m k _ _) (fun e Wz12 h => ?_)
  obtain ⟨v5, rfl, ho5, bz13⟩ := h
  replace hB := below_after hB bz13
  replace hz5 := hz5.after bz13
  replace hz11 := hz11.after bz13
  obtain ⟨A9, c9, rfl⟩ := Own.rdN2 ho5 (n := 0) rfl
  have ho := ho5.mono lo5
  clear ho5
  clear bz13
  refine ⟨_, rfl, ?_⟩
  refine hK' _ _ ?_
  clear hK' K'
  go_frame
  refine ls_op rfl (fun K' hK' => ?_)
  have lz17 := hB.size
  have lz18 := hz5.lt
  have lz19 := hz11.lt
  have naz24 := ho.away_new
  refine wp_new (some 3) rfl (alSu_impl_Scheme rfl) (fun Wz20 nnz21 => ?_)
  have bz22 := nnz21.below (Below.refl _ _) (Nat.le_refl _)
  replace hB := below_after hB bz22
  replace hz5 := hz5.after bz22
  replace hz11 := hz11.after bz22
  replace ho := ho.below bz22
  have hz23 : At Wz20 Wz12.heap.size (.cells #[.int .i64 0, .int .i64 0, .int .i64 0, .int .i64 0, .slice none 0 0] 28 (0, 0)) := nnz21.at_
  refine hK' _ _ ?_
  clear hK' K' nnz21 bz22
  go_frame
  refine ls_op rfl (fun K' hK' => ?_)
  refine wp_store_all 28 _ _ rfl rfl Wz12.heap.size rfl #[.int .i64 p, .int .i64 n, .int .i64 m, .int .i64 k, .slice A9 0 c9] rfl _ _ hz23 5 (by kernel_rfl) rfl rfl (one5 _ _ _ _ _ _ _) (fun Wz25 pz26 => ?_)
  replace hB := pz26.below hB (by omega)
  replace hz5 := pz26.other hz5 (by omega)
  replace hz11 := pz26.other hz11 (by omega)
  replace ho := ho.put pz26 naz24
  replace hz23 : At Wz25 Wz12.heap.size (.cells #[.int .i64 p, .int .i64 n, .int .i64 m, .int .i64 k, .slice A9 0 c9] 28 (0, 0)) := pz26.at_
  refine hK' _ _ ?_
  clear hK' K' pz26
  refine wpList_nil ?_
  go_upto_region 2 with (fail)
  refine wp_region_lit ?_
  refine ls_ex (some 4) (.int .i64 0) rfl rfl (exec_assign _ rfl (.int .i64 0) rfl) ?_
  go_frame
  refine wpList_nil ?_
  go_wp2_with fail
  go_loopw [4] (fun s4 wr => ∃ (i c9 : Nat) (A9 : Option Addr) (acc : List (List Nat)), i ≤ N ∧ s4 = .int .i64 i ∧ Hid (acc = insA [] (qs.take i)) ∧ Below w.heap.size w wr ∧ At wr w.heap.size (.cells #[.int .i64 p, .int .i64 n, .int .i64 m, .int .i64 k, .slice AX N c] 28 (0, 0)) ∧ At wr Wz2.heap.size (.cells #[.int .i64 0, .int .i64 0, .int .i64 0, .int .i64 0, .slice none 0 0] 28 (0, 0)) ∧ At wr Wz12.heap.size (.cells #[.int .i64 p, .int .i64 n, .int .i64 m, .int .i64 k, .slice A9 i c9] 28 (0, 0)) ∧ Own wr w.heap.size (.slice A9 i c9) (acc)) (fun s4 _ => N - (intOf s4).toNat)
  case atStart => exact ⟨0, _, _, [], by omega, rfl, Lib.hid (by simp [insA]), hB, hz5, hz11, hz23, ho⟩
  case round =>
    clear hB hz5 hz11 ho hz23
    obtain ⟨i, c9, A9, acc, hle, rfl, HAc, hB, h1, h2, h3, ho⟩ := hrel
    by_cases hlt : i < N
    · obtain ⟨we, rfl⟩ : ∃ z : World, z = wr := ⟨_, rfl⟩
      have ho0 := ho
      have hB5 := Below.refl we.heap.size we
      have lo5 := hB.size
      clear ho
      obtain ⟨X, hX⟩ : ∃ z9, qs[i]? = some z9 := ⟨_, List.getElem?_eq_getElem (by rw [HNl.out]; exact hlt)⟩
      have HXb := Lib.hid (hR.good X (List.mem_of_getElem? hX))
      obtain ⟨bX, oX, hAX⟩ := hR.addrX (List.mem_of_getElem? hX)
      have HX := Lib.hid hX
      have HAX := Lib.hid hAX
      have HAl : Hid (acc.length = i) := Lib.hid (by rw [HAc.out]; exact insA_len (by rw [HNl.out]; omega))
      have HCb : Hid (∀ q ∈ acc, Bytes 27 q) := Lib.hid (fun q hq => by rw [HAc.out] at hq; exact hR.good q (insA_mem hq))
      have HAc2 : Hid (insL X acc = insA [] (qs.take (i + 1))) := Lib.hid (by rw [List.take_add_one, hX, HAc.out]; exact (insA_snoc _ _ _).symm)
      have hcap9 := ho0.cap
      have Hn0 := Lib.hid ho0.none0
      clear hX hAX
      go_upto_region 3 with (fail)
      refine wp_region_lit ?_
      refine ls_ex (some 9) (.int .i64 i) rfl rfl (exec_move _ rfl (.int .i64 i) rfl) ?_
      go_frame
      refine ls_ex (some 10) (.pointer (some ⟨w.heap.size, 4, none⟩)) rfl rfl (exec_fieldAddr 28 _ 4 rfl _ (by kernel_rfl)) ?_
      go_frame
      refine ls_ex (some 11) (.slice AX N c) rfl rfl (exec_load_one 26 _ rfl w.heap.size 4 rfl (.slice AX N c) _ Try.underlying26 rfl (h1.at_ 4)) ?_
      go_frame
      refine ls_ex (some 12) (.int .i64 N) rfl rfl (exec_len _ 26 45 rfl AX N c rfl Try.underlying26) ?_
      go_frame
      refine ls_ex (some 13) (.bool true) rfl rfl (exec_lss _ _ _ _ rfl i N rfl rfl true (decide_eq_true (by omega))) ?_
      go_frame
      refine wpList_nil ?_
      go_upto_region 5 with (fail)
      refine wp_region_lit ?_
      refine ls_ex (some 5) (.int .i64 0) rfl rfl (exec_assign _ rfl (.int .i64 0) rfl) ?_
      go_frame
      refine wpList_nil ?_
      go_wp2_with fail
      go_loopw [5] (fun s5 wr => ∃ t : Nat, t ≤ i ∧ s5 = .int .i64 t ∧ Hid (posL X acc = t + posL X (acc.drop t)) ∧ Below w.heap.size w wr ∧ At wr w.heap.size (.cells #[.int .i64 p, .int .i64 n, .int .i64 m, .int .i64 k, .slice AX N c] 28 (0, 0)) ∧ At wr Wz2.heap.size (.cells #[.int .i64 0, .int .i64 0, .int .i64 0, .int .i64 0, .slice none 0 0] 28 (0, 0)) ∧ At wr Wz12.heap.size (.cells #[.int .i64 p, .int .i64 n, .int .i64 m, .int .i64 k, .slice A9 i c9] 28 (0, 0)) ∧ Below we.heap.size we wr) (fun s5 _ => i - (intOf s5).toNat)
      case atStart => exact ⟨0, by omega, rfl, Lib.hid (by simp), hB, h1, h2, h3, hB5⟩
      case round =>
        clear hB h1 h2 h3 hB5
        obtain ⟨t, hle2, rfl, HP, hB, h1, h2, h3, hB5⟩ := hrel
        by_cases hlt2 : t < i
        · by_cases hlx : lexC X ((acc[t]?).getD []) < 0
          · obtain ⟨g, hg9, _⟩ := ho0.blk (by rw [HAl.out]; omega)
            have HA9 := Lib.hid hg9
            obtain ⟨Y, hY⟩ : ∃ z9, acc[t]? = some z9 := ⟨_, List.getElem?_eq_getElem (by rw [HAl.out]; exact hlt2)⟩
            have HY := Lib.hid hY
            have HYb := Lib.hid (HCb.out Y (List.mem_of_getElem? hY))
            have hly : lexC X Y < 0 := by rw [hY] at hlx; exact hlx
            have HLs : Hid (decide (lexC X Y < 0) = true) := Lib.hid (decide_eq_true hly)
            have HPt : Hid (posL X acc = t) := Lib.hid (by rw [HP.out, posL_stop hY hly]; rfl)
            clear hY hg9 hlx hly
            obtain ⟨wk, rfl⟩ : ∃ z : World, z = wr := ⟨_, rfl⟩
            go_upto_region 6 with (fail)
            refine wp_region_y (zs := []) (S := fun w' => Below w.heap.size w w' ∧ At w' Wz12.heap.size (.cells #[.int .i64 p, .int .i64 n, .int .i64 m, .int .i64 k, .slice A9 i c9] 28 (0, 0)) ∧ At w' w.heap.size (.cells #[.int .i64 p, .int .i64 n, .int .i64 m, .int .i64 k, .slice AX N c] 28 (0, 0)) ∧ Below we.heap.size we w') (S2 := fun w' => True) (by kernel_rfl) ?_
            change wpAnyY _ _ _ _ _ _ _ _ _ _ (World.drew _)
            generalize hwdz27 : World.drew _ = wdz27
            replace hB : Below w.heap.size w wdz27 := by rw [← hwdz27]; exact hB.drew
            replace h1 : At wdz27 w.heap.size (.cells #[.int .i64 p, .int .i64 n, .int .i64 m, .int .i64 k, .slice AX N c] 28 (0, 0)) := by rw [← hwdz27]; exact h1
            replace h2 : At wdz27 Wz2.heap.size (.cells #[.int .i64 0, .int .i64 0, .int .i64 0, .int .i64 0, .slice none 0 0] 28 (0, 0)) := by rw [← hwdz27]; exact h2
            replace h3 : At wdz27 Wz12.heap.size (.cells #[.int .i64 p, .int .i64 n, .int .i64 m, .int .i64 k, .slice A9 i c9] 28 (0, 0)) := by rw [← hwdz27]; exact h3
            replace hB5 : Below we.heap.size we wdz27 := by rw [← hwdz27]; exact hB5.drew
            clear hwdz27
            refine y_yield 0 (some 16) (.int .i64 t) rfl (by kernel_rfl) (by kernel_rfl) (by kernel_rfl) (fun _ _ _ h => h) rfl rfl ⟨hB, h3, h1, hB5⟩ (fun w' h' => exec_move _ rfl (.int .i64 t) rfl) ?_
            go_frame
            refine y_yield 1 (some 17) (.pointer (some ⟨Wz12.heap.size, 4, none⟩)) rfl (by kernel_rfl) (by kernel_rfl) (by kernel_rfl) (fun _ _ _ h => h) rfl rfl ⟨hB, h3, h1, hB5⟩ (fun w' h' => exec_fieldAddr 28 _ 4 rfl _ (by kernel_rfl)) ?_
            go_frame
            refine y_yield 2 (some 18) (.slice A9 i c9) rfl (by kernel_rfl) (by kernel_rfl) (by kernel_rfl) (fun _ _ _ h => h) rfl rfl ⟨hB, h3, h1, hB5⟩ (fun w' h' => exec_load_one 26 _ rfl Wz12.heap.size 4 rfl (.slice A9 i c9) _ Try.underlying26 rfl (h'.2.1.at_ 4)) ?_
            go_frame
            refine y_yield 3 (some 19) (.int .i64 i) rfl (by kernel_rfl) (by kernel_rfl) (by kernel_rfl) (fun _ _ _ h => h) rfl rfl ⟨hB, h3, h1, hB5⟩ (fun w' h' => exec_len _ 26 45 rfl A9 i c9 rfl Try.underlying26) ?_
            go_frame
            refine y_yield 4 (some 20) (.bool true) rfl (by kernel_rfl) (by kernel_rfl) (by kernel_rfl) (fun _ _ _ h => h) rfl rfl ⟨hB, h3, h1, hB5⟩ (fun w' h' => exec_lss _ _ _ _ rfl t i rfl rfl true (decide_eq_true (by omega))) ?_
            go_frame
            refine y_yield 5 (some 21) (.bool true) rfl (by kernel_rfl) (by kernel_rfl) (by kernel_rfl) (fun _ _ _ h => h) rfl rfl ⟨hB, h3, h1, hB5⟩ (fun w' h' => exec_move _ rfl (.bool true) rfl) ?_
            go_frame
            refine y_yield 6 (some 22) (.pointer (some ⟨w.heap.size, 4, none⟩)) rfl (by kernel_rfl) (by kernel_rfl) (by kernel_rfl) (fun _ _ _ h => h) rfl rfl ⟨hB, h3, h1, hB5⟩ (fun w' h' => exec_fieldAddr 28 _ 4 rfl _ (by kernel_rfl)) ?_
            go_frame
            refine y_yield 7 (some 23) (.slice AX N c) rfl (by kernel_rfl) (by kernel_rfl) (by kernel_rfl) (fun _ _ _ h => h) rfl rfl ⟨hB, h3, h1, hB5⟩ (fun w' h' => exec_load_one 26 _ rfl w.heap.size 4 rfl (.slice AX N c) _ Try.underlying26 rfl (h'.2.2.1.at_ 4)) ?_
            go_frame
            refine y_yield 8 (some 24) (.int .i64 i) rfl (by kernel_rfl) (by kernel_rfl) (by kernel_rfl) (fun _ _ _ h => h) rfl rfl ⟨hB, h3, h1, hB5⟩ (fun w' h' => exec_move _ rfl (.int .i64 i) rfl) ?_
            go_frame
            refine y_yield 9 (some 25) (.pointer (some ⟨bX, oX + i * 27, none⟩)) rfl (by kernel_rfl) (by kernel_rfl) (by kernel_rfl) (fun _ _ _ h => h) rfl rfl ⟨hB, h3, h1, hB5⟩ (fun w' h' => exec_ixSA _ _ rfl HAX.out N c i rfl rfl hlt) ?_
            go_frame
            refine y_yield 10 (some 26) (.agg (u8s (X))) rfl (by kernel_rfl) (by kernel_rfl) (by kernel_rfl) (fun _ _ _ h => h) rfl rfl ⟨hB, h3, h1, hB5⟩ (fun w' h' => exec_load_cells 45 _ rfl bX (oX + i * 27) rfl (X) _ 27 (Rd.c27x (hR.keep h'.1) HAX.out HX.out) Try.underlying45 rfl (by kernel_rfl) (HXb.out.len)) ?_
            go_frame
            refine y_yield 11 (some 27) (.pointer (some ⟨Wz12.heap.size, 4, none⟩)) rfl (by kernel_rfl) (by kernel_rfl) (by kernel_rfl) (fun _ _ _ h => h) rfl rfl ⟨hB, h3, h1, hB5⟩ (fun w' h' => exec_fieldAddr 28 _ 4 rfl _ (by kernel_rfl)) ?_
            go_frame
            refine y_yield 12 (some 28) (.slice A9 i c9) rfl (by kernel_rfl) (by kernel_rfl) (by kernel_rfl) (fun _ _ _ h => h) rfl rfl ⟨hB, h3, h1, hB5⟩ (fun w' h' => exec_load_one 26 _ rfl Wz12.heap.size 4 rfl (.slice A9 i c9) _ Try.underlying26 rfl (h'.2.1.at_ 4)) ?_
            go_frame
            refine y_yield 13 (some 29) (.int .i64 t) rfl (by kernel_rfl) (by kernel_rfl) (by kernel_rfl) (fun _ _ _ h => h) rfl rfl ⟨hB, h3, h1, hB5⟩ (fun w' h' => exec_move _ rfl (.int .i64 t) rfl) ?_
            go_frame
            refine y_yield 14 (some 30) (.pointer (some ⟨g, 0 + t * 27, none⟩)) rfl (by kernel_rfl) (by kernel_rfl) (by kernel_rfl) (fun _ _ _ h => h) rfl rfl ⟨hB, h3, h1, hB5⟩ (fun w' h' => exec_ixSA _ _ rfl HA9.out i c9 t rfl rfl hlt2) ?_
            go_frame
            refine y_yield 15 (some 31) (.agg (u8s (Y))) rfl (by kernel_rfl) (by kernel_rfl) (by kernel_rfl) (fun _ _ _ h => h) rfl rfl ⟨hB, h3, h1, hB5⟩ (fun w' h' => exec_load_cells 45 _ rfl g (0 + t * 27) rfl (Y) _ 27 (Rd.c27x (((ho0.below h'.2.2.2).rd' HCb.out)) HA9.out HY.out) Try.underlying45 rfl (by kernel_rfl) (HYb.out.len)) ?_
            go_frame
            refine y_oper 16 (by kernel_rfl) rfl rfl (fun K' hK' => ?_)
            have lz30 := hB.size
            have lz31 := h1.lt
            have lz32 := h2.lt
            have lz33 := h3.lt
            have lz34 := hB5.size
            refine wp_call2 (some 32) rfl 32 _ _ _ rfl (fun args w => by kernel_rfl) _ _ rfl rfl _ (l01Less_c X Y _ HXb.out.len HYb.out.len) (fun e Wz28 h => ?_)
            obtain ⟨rfl, bz29⟩ := h
            replace hB := below_after hB bz29
            replace h1 := h1.after bz29
            replace h2 := h2.after bz29
            replace h3 := h3.after bz29
            replace hB5 := below_after hB5 bz29
            rw [HLs.out]
            clear bz29
            refine ⟨_, rfl, ?_⟩
            refine hK' _ _ ⟨hB, h3, h1, hB5⟩ (fun _ => trivial) ?_
            clear hK' K'
            go_frame
            refine y_yield 17 (some 33) (.bool false) rfl (by kernel_rfl) (by kernel_rfl) (by kernel_rfl) (fun _ _ _ h => h) rfl rfl ⟨hB, h3, h1, hB5⟩ (fun w' h' => exec_not _ _ rfl true rfl) ?_
            go_frame
            refine y_yield 18 (some 34) (.bool false) rfl (by kernel_rfl) (by kernel_rfl) (by kernel_rfl) (fun _ _ _ h => h) rfl rfl ⟨hB, h3, h1, hB5⟩ (fun w' h' => exec_pick _ _ _ rfl true rfl (.bool false) rfl) ?_
            go_frame
            refine y_done (by kernel_rfl) ?_ _
            go_upto_region 8 with (fail)
            refine wp_region_y (zs := []) (S := fun w' => Below w.heap.size w w' ∧ At w' w.heap.size (.cells #[.int .i64 p, .int .i64 n, .int .i64 m, .int .i64 k, .slice AX N c] 28 (0, 0)) ∧ At w' Wz12.heap.size (.cells #[.int .i64 p, .int .i64 n, .int .i64 m, .int .i64 k, .slice A9 i c9] 28 (0, 0))) (S2 := fun w' => True) (by kernel_rfl) ?_
            change wpAnyY _ _ _ _ _ _ _ _ _ _ (World.drew _)
            generalize hwdz35 : World.drew _ = wdz35
            replace hB : Below w.heap.size w wdz35 := by rw [← hwdz35]; exact hB.drew
            replace h1 : At wdz35 w.heap.size (.cells #[.int .i64 p, .int .i64 n, .int .i64 m, .int .i64 k, .slice AX N c] 28 (0, 0)) := by rw [← hwdz35]; exact h1
            replace h2 : At wdz35 Wz2.heap.size (.cells #[.int .i64 0, .int .i64 0, .int .i64 0, .int .i64 0, .slice none 0 0] 28 (0, 0)) := by rw [← hwdz35]; exact h2
            replace h3 : At wdz35 Wz12.heap.size (.cells #[.int .i64 p, .int .i64 n, .int .i64 m, .int .i64 k, .slice A9 i c9] 28 (0, 0)) := by rw [← hwdz35]; exact h3
            replace hB5 : Below we.heap.size we wdz35 := by rw [← hwdz35]; exact hB5.drew
            clear hwdz35
            refine y_yield 0 (some 37) (.pointer (some ⟨w.heap.size, 4, none⟩)) rfl (by kernel_rfl) (by kernel_rfl) (by kernel_rfl) (fun _ _ _ h => h) rfl rfl ⟨hB, h1, h3⟩ (fun w' h' => exec_fieldAddr 28 _ 4 rfl _ (by kernel_rfl)) ?_
            go_frame
            refine y_yield 1 (some 38) (.slice AX N c) rfl (by kernel_rfl) (by kernel_rfl) (by kernel_rfl) (fun _ _ _ h => h) rfl rfl ⟨hB, h1, h3⟩ (fun w' h' => exec_load_one 26 _ rfl w.heap.size 4 rfl (.slice AX N c) _ Try.underlying26 rfl (h'.2.1.at_ 4)) ?_
            go_frame
            refine y_yield 2 (some 39) (.int .i64 i) rfl (by kernel_rfl) (by kernel_rfl) (by kernel_rfl) (fun _ _ _ h => h) rfl rfl ⟨hB, h1, h3⟩ (fun w' h' => exec_move _ rfl (.int .i64 i) rfl) ?_
            go_frame
            refine y_yield 3 (some 40) (.pointer (some ⟨bX, oX + i * 27, none⟩)) rfl (by kernel_rfl) (by kernel_rfl) (by kernel_rfl) (fun _ _ _ h => h) rfl rfl ⟨hB, h1, h3⟩ (fun w' h' => exec_ixSA _ _ rfl HAX.out N c i rfl rfl hlt) ?_
            go_frame
            refine y_yield 4 (some 41) (.agg (u8s (X))) rfl (by kernel_rfl) (by kernel_rfl) (by kernel_rfl) (fun _ _ _ h => h) rfl rfl ⟨hB, h1, h3⟩ (fun w' h' => exec_load_cells 45 _ rfl bX (oX + i * 27) rfl (X) _ 27 (Rd.c27x (hR.keep h'.1) HAX.out HX.out) Try.underlying45 rfl (by kernel_rfl) (HXb.out.len)) ?_
            go_frame
            refine y_yield 6 (some 43) (.pointer (some ⟨Wz12.heap.size, 4, none⟩)) rfl (by kernel_rfl) (by kernel_rfl) (by kernel_rfl) (fun _ _ _ h => h) rfl rfl ⟨hB, h1, h3⟩ (fun w' h' => exec_fieldAddr 28 _ 4 rfl _ (by kernel_rfl)) ?_
            go_frame
            refine y_yield 7 (some 44) (.slice A9 i c9) rfl (by kernel_rfl) (by kernel_rfl) (by kernel_rfl) (fun _ _ _ h => h) rfl rfl ⟨hB, h1, h3⟩ (fun w' h' => exec_load_one 26 _ rfl Wz12.heap.size 4 rfl (.slice A9 i c9) _ Try.underlying26 rfl (h'.2.2.at_ 4)) ?_
            go_frame
            refine y_yield 8 (some 45) (.int .i64 t) rfl (by kernel_rfl) (by kernel_rfl) (by kernel_rfl) (fun _ _ _ h => h) rfl rfl ⟨hB, h1, h3⟩ (fun w' h' => exec_move _ rfl (.int .i64 t) rfl) ?_
            go_frame
            refine y_yield 9 (some 46) (.slice (dropA A9 c9 t) (i - t) (c9 - t)) rfl (by kernel_rfl) (by kernel_rfl) (by kernel_rfl) (fun _ _ _ h => h) rfl rfl ⟨hB, h1, h3⟩ (fun w' h' => exec_sl_loA _ _ rfl A9 i c9 t hle2 rfl rfl) ?_
            go_frame
            refine y_oper 5 (by kernel_rfl) rfl rfl (fun K' hK' => ?_)
            have lz36 := hB.size
            have lz37 := h1.lt
            have lz38 := h2.lt
            have lz39 := h3.lt
            have lz40 := hB5.size
            refine wp_slice1 (some 42) rfl 26 45 _ rfl (X) rfl Try.underlying26 infoProd HXb.out.len (fun Wz41 nnz42 => ?_)
            have bz43 := nnz42.below (Below.refl _ _) (Nat.le_refl _)
            replace hB := below_after hB bz43
            replace h1 := h1.after bz43
            replace h2 := h2.after bz43
            replace h3 := h3.after bz43
            replace hB5 := below_after hB5 bz43
            have ho : Own Wz41 we.heap.size (.slice (some ⟨wdz35.heap.size, 0, none⟩) 1 1) [X] := (own_bs1P nnz42 HXb.out.len).mono (by omega)
            refine hK' _ _ ⟨hB, h1, h3⟩ (fun _ => trivial) ?_
            clear hK' K' nnz42 bz43
            go_frame
            refine y_oper 10 (by kernel_rfl) rfl rfl (fun K' hK' => ?_)
            have lz47 := hB.size
            have lz48 := h1.lt
            have lz49 := h2.lt
            have lz50 := h3.lt
            have lz51 := hB5.size
            refine wp_append_rdN (some 47) rfl _ _ rfl (.slice (some ⟨wdz35.heap.size, 0, none⟩) 1 1) ([X]) (acc.drop t) (i - t) (by rw [List.length_drop, HAl.out]) rfl ho (dropA A9 c9 t) (c9 - t) rfl (((ho0.below hB5).rd' HCb.out).dropA (by rw [HAl.out]; omega)) (fun h => by have h9 := Hn0.out (dropA_none h); omega) (by simp; rw [HAl.out]; omega) (by omega) (fun v6 Wz44 noz46 grz45 => ?_)
            obtain ⟨A6, c6, rfl⟩ := Own.rdN2 noz46 (n := i - t + 1) (by rw [List.length_append, List.length_drop, HAl.out]; simp; omega)
            replace hB := below_grown hB grz45 ho (by omega)
            replace h1 := h1.grown grz45 (ho.off h1 (by decide))
            replace h2 := h2.grown grz45 (ho.off h2 (by decide))
            replace h3 := h3.grown grz45 (ho.off h3 (by decide))
            replace hB5 := below_grown hB5 grz45 ho (by omega)
            replace ho := noz46
            refine hK' _ _ ⟨hB, h1, h3⟩ (fun _ => trivial) ?_
            clear hK' K' grz45
            go_frame
            refine y_oper 11 (by kernel_rfl) rfl rfl (fun K' hK' => ?_)
            refine wp_exec (some 6) rfl (.slice A6 (i - t + 1) c6) (exec_assign _ rfl (.slice A6 (i - t + 1) c6) rfl) ?_
            refine hK' _ _ ⟨hB, h1, h3⟩ (fun _ => trivial) ?_
            clear hK' K'
            go_frame
            refine y_done (by kernel_rfl) ?_ _
            go_upto_region 9 with (fail)
            have ho6 := ho
            have hB6 := Below.refl Wz44.heap.size Wz44
            have lo6 := hB.size
            have lo65 := hB5.size
            have HA6 := Lib.hid ho6.none0
            clear ho
            refine wp_region_lit ?_
            refine ls_op rfl (fun K' hK' => ?_)
            have lz55 := hB.size
            have lz56 := h1.lt
            have lz57 := h2.lt
            have lz58 := h3.lt
            have lz59 := hB5.size
            have lz60 := hB6.size
            refine wp_new (some 48) rfl (exec_bs0 rfl) (fun Wz52 nnz53 => ?_)
            have bz54 := nnz53.below (Below.refl _ _) (Nat.le_refl _)
            replace hB := below_after hB bz54
            replace h1 := h1.after bz54
            replace h2 := h2.after bz54
            replace h3 := h3.after bz54
            replace hB5 := below_after hB5 bz54
            replace hB6 := below_after hB6 bz54
            have ho : Own Wz52 Wz44.heap.size (.slice (some ⟨Wz44.heap.size, 0, none⟩) 0 0) [] := (own_bs0 nnz53).mono (by omega)
            refine hK' _ _ ?_
            clear hK' K' nnz53 bz54
            go_frame
            refine ls_ex (some 49) (.pointer (some ⟨Wz12.heap.size, 4, none⟩)) rfl rfl (exec_fieldAddr 28 _ 4 rfl _ (by kernel_rfl)) ?_
            go_frame
            refine ls_ex (some 50) (.slice A9 i c9) rfl rfl (exec_load_one 26 _ rfl Wz12.heap.size 4 rfl (.slice A9 i c9) _ Try.underlying26 rfl (h3.at_ 4)) ?_
            go_frame
            refine ls_ex (some 51) (.int .i64 t) rfl rfl (exec_move _ rfl (.int .i64 t) rfl) ?_
            go_frame
            refine ls_ex (some 52) (.slice A9 t c9) rfl rfl (exec_sl_hiA _ _ rfl A9 i c9 t (by omega) rfl rfl) ?_
            go_frame
            refine ls_op rfl (fun K' hK' => ?_)
            have lz64 := hB.size
            have lz65 := h1.lt
            have lz66 := h2.lt
            have lz67 := h3.lt
            have lz68 := hB5.size
            have lz69 := hB6.size
            refine wp_append_rdN (some 53) rfl _ _ rfl (.slice (some ⟨Wz44.heap.size, 0, none⟩) 0 0) ([]) (acc.take t) (t) (by rw [List.length_take, HAl.out]; omega) rfl ho A9 (c9) rfl (((ho0.below hB5).rd' HCb.out).take9 t) (fun h => Hn0.out h) (by simp; omega) (by omega) (fun v8 Wz61 noz63 grz62 => ?_)
            rw [List.nil_append] at noz63
            obtain ⟨A8, c8, rfl⟩ := Own.rdN2 noz63 (n := t) (by rw [List.length_take, HAl.out]; omega)
            replace hB := below_grown hB grz62 ho (by omega)
            replace h1 := h1.grown grz62 (ho.off h1 (by decide))
            replace h2 := h2.grown grz62 (ho.off h2 (by decide))
            replace h3 := h3.grown grz62 (ho.off h3 (by decide))
            replace hB5 := below_grown hB5 grz62 ho (by omega)
            replace hB6 := below_grown hB6 grz62 ho (by omega)
            replace ho := noz63
            refine hK' _ _ ?_
            clear hK' K' grz62
            go_frame
            refine ls_ex (some 54) (.slice A6 (i - t + 1) c6) rfl rfl (exec_move _ rfl (.slice A6 (i - t + 1) c6) rfl) ?_
            go_frame
            refine ls_op rfl (fun K' hK' => ?_)
            have lz73 := hB.size
            have lz74 := h1.lt
            have lz75 := h2.lt
            have lz76 := h3.lt
            have lz77 := hB5.size
            have lz78 := hB6.size
            refine wp_append_rdN (some 55) rfl _ _ rfl (.slice A8 t c8) (acc.take t) ([X] ++ acc.drop t) (i - t + 1) (by rw [List.length_append, List.length_drop, HAl.out]; simp; omega) rfl ho A6 (c6) rfl ((ho6.below hB6).rd' (fun q hq => (List.mem_append.1 hq).elim (fun h9 => by rw [List.mem_singleton.1 h9]; exact HXb.out) (fun h9 => HCb.out q (List.mem_of_mem_drop h9)))) (fun h => HA6.out h) (by rw [List.length_append, List.length_drop, List.length_take, HAl.out]; simp; omega) (by omega) (fun v7 Wz70 noz72 grz71 => ?_)
            rw [show acc.take t ++ ([X] ++ acc.drop t) = insL X acc by unfold insL; rw [HPt.out]; rfl] at noz72
            obtain ⟨A7, c7, rfl⟩ := Own.rdN2 noz72 (n := i + 1) (by rw [HAc2.out]; exact insA_len (by rw [HNl.out]; omega))
            replace hB := below_grown hB grz71 ho (by omega)
            replace h1 := h1.grown grz71 (ho.off h1 (by decide))
            replace h2 := h2.grown grz71 (ho.off h2 (by decide))
            replace h3 := h3.grown grz71 (ho.off h3 (by decide))
            replace hB5 := below_grown hB5 grz71 ho (by omega)
            replace hB6 := below_grown hB6 grz71 ho (by omega)
            replace ho := noz72
            refine hK' _ _ ?_
            clear hK' K' grz71
            go_frame
            refine ls_ex (some 56) (.pointer (some ⟨Wz12.heap.size, 4, none⟩)) rfl rfl (exec_fieldAddr 28 _ 4 rfl _ (by kernel_rfl)) ?_
            go_frame
            refine ls_op rfl (fun K' hK' => ?_)
            clear hB5 hB6
            refine wp_store_one 26 _ _ rfl rfl Wz12.heap.size 4 rfl (.slice A7 (i + 1) c7) rfl rfl rfl _ _ h3 (by kernel_rfl) (by simp) (fun Wz79 pz80 => ?_)
            replace hB := pz80.below hB (by omega)
            replace h1 := pz80.other h1 (by omega)
            replace h2 := pz80.other h2 (by omega)
            replace ho := ho.put pz80 (ho.off h3 (by decide))
            replace h3 : At Wz79 Wz12.heap.size (.cells #[.int .i64 p, .int .i64 n, .int .i64 m, .int .i64 k, .slice A7 (i + 1) c7] 28 (0, 0)) := pz80.at_
            refine hK' _ _ ?_
            clear hK' K' pz80
            refine wpList_nil ?_
            go_upto_region 4 with (fail)
            refine wp_region_lit ?_
            refine ls_ex (some 14) (.int .i64 i) rfl rfl (exec_move _ rfl (.int .i64 i) rfl) ?_
            go_frame
            refine ls_ex (some 15) (.int .i64 (i + 1)) rfl rfl (exec_add _ _ _ _ rfl i 1 (i + 1) rfl rfl (IntWalk.i64_in _ (by omega))) ?_
            go_frame
            refine ls_ex (some 4) (.int .i64 (i + 1)) rfl rfl (exec_assign _ rfl (.int .i64 (i + 1)) rfl) ?_
            go_frame
            refine wpList_nil ?_
            go_wp2_with fail
            go_roundw
            case rel => exact ⟨i + 1, c7, A7, insL X acc, by omega, by go_num, HAc2, hB, h1, h2, h3, ho.mono (by omega)⟩
            case measure => simp [intOf] <;> omega
          · obtain ⟨g, hg9, _⟩ := ho0.blk (by rw [HAl.out]; omega)
            have HA9 := Lib.hid hg9
            obtain ⟨Y, hY⟩ : ∃ z9, acc[t]? = some z9 := ⟨_, List.getElem?_eq_getElem (by rw [HAl.out]; exact hlt2)⟩
            have HY := Lib.hid hY
            have HYb := Lib.hid (HCb.out Y (List.mem_of_getElem? hY))
            obtain ⟨Y9, hY9, hlx⟩ : ∃ Y9, acc[t]? = some Y9 ∧ ¬ lexC X Y9 < 0 := by rw [hY]; refine ⟨Y, rfl, fun h9 => hlx ?_⟩; rw [hY]; exact h9
            have e9 : Y9 = Y := Option.some.inj (hY9.symm.trans hY)
            rw [e9] at hlx
            have HLs : Hid (decide (lexC X Y < 0) = false) := Lib.hid (decide_eq_false hlx)
            have HP2 : Hid (posL X acc = t + 1 + posL X (acc.drop (t + 1))) := Lib.hid (by rw [HP.out, posL_step hY hlx]; omega)
            clear hY hY9 hg9 hlx e9
            go_upto_region 6 with (fail)
            refine wp_region_y (zs := []) (S := fun w' => Below w.heap.size w w' ∧ At w' Wz12.heap.size (.cells #[.int .i64 p, .int .i64 n, .int .i64 m, .int .i64 k, .slice A9 i c9] 28 (0, 0)) ∧ At w' w.heap.size (.cells #[.int .i64 p, .int .i64 n, .int .i64 m, .int .i64 k, .slice AX N c] 28 (0, 0)) ∧ Below we.heap.size we w') (S2 := fun w' => True) (by kernel_rfl) ?_
            change wpAnyY _ _ _ _ _ _ _ _ _ _ (World.drew _)
            generalize hwdz81 : World.drew _ = wdz81
            replace hB : Below w.heap.size w wdz81 := by rw [← hwdz81]; exact hB.drew
            replace h1 : At wdz81 w.heap.size (.cells #[.int .i64 p, .int .i64 n, .int .i64 m, .int .i64 k, .slice AX N c] 28 (0, 0)) := by rw [← hwdz81]; exact h1
            replace h2 : At wdz81 Wz2.heap.size (.cells #[.int .i64 0, .int .i64 0, .int .i64 0, .int .i64 0, .slice none 0 0] 28 (0, 0)) := by rw [← hwdz81]; exact h2
            replace h3 : At wdz81 Wz12.heap.size (.cells #[.int .i64 p, .int .i64 n, .int .i64 m, .int .i64 k, .slice A9 i c9] 28 (0, 0)) := by rw [← hwdz81]; exact h3
            replace hB5 : Below we.heap.size we wdz81 := by rw [← hwdz81]; exact hB5.drew
            clear hwdz81
            refine y_yield 0 (some 16) (.int .i64 t) rfl (by kernel_rfl) (by kernel_rfl) (by kernel_rfl) (fun _ _ _ h => h) rfl rfl ⟨hB, h3, h1, hB5⟩ (fun w' h' => exec_move _ rfl (.int .i64 t) rfl) ?_
            go_frame
            refine y_yield 1 (some 17) (.pointer (some ⟨Wz12.heap.size, 4, none⟩)) rfl (by kernel_rfl) (by kernel_rfl) (by kernel_rfl) (fun _ _ _ h => h) rfl rfl ⟨hB, h3, h1, hB5⟩ (fun w' h' => exec_fieldAddr 28 _ 4 rfl _ (by kernel_rfl)) ?_
            go_frame
            refine y_yield 2 (some 18) (.slice A9 i c9) rfl (by kernel_rfl) (by kernel_rfl) (by kernel_rfl) (fun _ _ _ h => h) rfl rfl ⟨hB, h3, h1, hB5⟩ (fun w' h' => exec_load_one 26 _ rfl Wz12.heap.size 4 rfl (.slice A9 i c9) _ Try.underlying26 rfl (h'.2.1.at_ 4)) ?_
            go_frame
            refine y_yield 3 (some 19) (.int .i64 i) rfl (by kernel_rfl) (by kernel_rfl) (by kernel_rfl) (fun _ _ _ h => h) rfl rfl ⟨hB, h3, h1, hB5⟩ (fun w' h' => exec_len _ 26 45 rfl A9 i c9 rfl Try.underlying26) ?_
            go_frame
            refine y_yield 4 (some 20) (.bool true) rfl (by kernel_rfl) (by kernel_rfl) (by kernel_rfl) (fun _ _ _ h => h) rfl rfl ⟨hB, h3, h1, hB5⟩ (fun w' h' => exec_lss _ _ _ _ rfl t i rfl rfl true (decide_eq_true (by omega))) ?_
            go_frame
            refine y_yield 5 (some 21) (.bool true) rfl (by kernel_rfl) (by kernel_rfl) (by kernel_rfl) (fun _ _ _ h => h) rfl rfl ⟨hB, h3, h1, hB5⟩ (fun w' h' => exec_move _ rfl (.bool true) rfl) ?_
            go_frame
            refine y_yield 6 (some 22) (.pointer (some ⟨w.heap.size, 4, none⟩)) rfl (by kernel_rfl) (by kernel_rfl) (by kernel_rfl) (fun _ _ _ h => h) rfl rfl ⟨hB, h3, h1, hB5⟩ (fun w' h' => exec_fieldAddr 28 _ 4 rfl _ (by kernel_rfl)) ?_
            go_frame
            refine y_yield 7 (some 23) (.slice AX N c) rfl (by kernel_rfl) (by kernel_rfl) (by kernel_rfl) (fun _ _ _ h => h) rfl rfl ⟨hB, h3, h1, hB5⟩ (fun w' h' => exec_load_one 26 _ rfl w.heap.size 4 rfl (.slice AX N c) _ Try.underlying26 rfl (h'.2.2.1.at_ 4)) ?_
            go_frame
            refine y_yield 8 (some 24) (.int .i64 i) rfl (by kernel_rfl) (by kernel_rfl) (by kernel_rfl) (fun _ _ _ h => h) rfl rfl ⟨hB, h3, h1, hB5⟩ (fun w' h' => exec_move _ rfl (.int .i64 i) rfl) ?_
            go_frame
            refine y_yield 9 (some 25) (.pointer (some ⟨bX, oX + i * 27, none⟩)) rfl (by kernel_rfl) (by kernel_rfl) (by kernel_rfl) (fun _ _ _ h => h) rfl rfl ⟨hB, h3, h1, hB5⟩ (fun w' h' => exec_ixSA _ _ rfl HAX.out N c i rfl rfl hlt) ?_
            go_frame
            refine y_yield 10 (some 26) (.agg (u8s (X))) rfl (by kernel_rfl) (by kernel_rfl) (by kernel_rfl) (fun _ _ _ h => h) rfl rfl ⟨hB, h3, h1, hB5⟩ (fun w' h' => exec_load_cells 45 _ rfl bX (oX + i * 27) rfl (X) _ 27 (Rd.c27x (hR.keep h'.1) HAX.out HX.out) Try.underlying45 rfl (by kernel_rfl) (HXb.out.len)) ?_
            go_frame
            refine y_yield 11 (some 27) (.pointer (some ⟨Wz12.heap.size, 4, none⟩)) rfl (by kernel_rfl) (by kernel_rfl) (by kernel_rfl) (fun _ _ _ h => h) rfl rfl ⟨hB, h3, h1, hB5⟩ (fun w' h' => exec_fieldAddr 28 _ 4 rfl _ (by kernel_rfl)) ?_
            go_frame
            refine y_yield 12 (some 28) (.slice A9 i c9) rfl (by kernel_rfl) (by kernel_rfl) (by kernel_rfl) (fun _ _ _ h => h) rfl rfl ⟨hB, h3, h1, hB5⟩ (fun w' h' => exec_load_one 26 _ rfl Wz12.heap.size 4 rfl (.slice A9 i c9) _ Try.underlying26 rfl (h'.2.1.at_ 4)) ?_
            go_frame
            refine y_yield 13 (some 29) (.int .i64 t) rfl (by kernel_rfl) (by kernel_rfl) (by kernel_rfl) (fun _ _ _ h => h) rfl rfl ⟨hB, h3, h1, hB5⟩ (fun w' h' => exec_move _ rfl (.int .i64 t) rfl) ?_
            go_frame
            refine y_yield 14 (some 30) (.pointer (some ⟨g, 0 + t * 27, none⟩)) rfl (by kernel_rfl) (by kernel_rfl) (by kernel_rfl) (fun _ _ _ h => h) rfl rfl ⟨hB, h3, h1, hB5⟩ (fun w' h' => exec_ixSA _ _ rfl HA9.out i c9 t rfl rfl hlt2) ?_
            go_frame
            refine y_yield 15 (some 31) (.agg (u8s (Y))) rfl (by kernel_rfl) (by kernel_rfl) (by kernel_rfl) (fun _ _ _ h => h) rfl rfl ⟨hB, h3, h1, hB5⟩ (fun w' h' => exec_load_cells 45 _ rfl g (0 + t * 27) rfl (Y) _ 27 (Rd.c27x (((ho0.below h'.2.2.2).rd' HCb.out)) HA9.out HY.out) Try.underlying45 rfl (by kernel_rfl) (HYb.out.len)) ?_
            go_frame
            refine y_oper 16 (by kernel_rfl) rfl rfl (fun K' hK' => ?_)
            have lz84 := hB.size
            have lz85 := h1.lt
            have lz86 := h2.lt
            have lz87 := h3.lt
            have lz88 := hB5.size
            refine wp_call2 (some 32) rfl 32 _ _ _ rfl (fun args w => by kernel_rfl) _ _ rfl rfl _ (l01Less_c X Y _ HXb.out.len HYb.out.len) (fun e Wz82 h => ?_)
            obtain ⟨rfl, bz83⟩ := h
            replace hB := below_after hB bz83
            replace h1 := h1.after bz83
            replace h2 := h2.after bz83
            replace h3 := h3.after bz83
            replace hB5 := below_after hB5 bz83
            rw [HLs.out]
            clear bz83
            refine ⟨_, rfl, ?_⟩
            refine hK' _ _ ⟨hB, h3, h1, hB5⟩ (fun _ => trivial) ?_
            clear hK' K'
            go_frame
            refine y_yield 17 (some 33) (.bool true) rfl (by kernel_rfl) (by kernel_rfl) (by kernel_rfl) (fun _ _ _ h => h) rfl rfl ⟨hB, h3, h1, hB5⟩ (fun w' h' => exec_not _ _ rfl false rfl) ?_
            go_frame
            refine y_yield 18 (some 34) (.bool true) rfl (by kernel_rfl) (by kernel_rfl) (by kernel_rfl) (fun _ _ _ h => h) rfl rfl ⟨hB, h3, h1, hB5⟩ (fun w' h' => exec_pick _ _ _ rfl true rfl (.bool true) rfl) ?_
            go_frame
            refine y_done (by kernel_rfl) ?_ _
            go_upto_region 7 with (fail)
            refine wp_region_lit ?_
            refine ls_ex (some 35) (.int .i64 t) rfl rfl (exec_move _ rfl (.int .i64 t) rfl) ?_
            go_frame
            refine ls_ex (some 36) (.int .i64 (t + 1)) rfl rfl (exec_add _ _ _ _ rfl t 1 (t + 1) rfl rfl (IntWalk.i64_in _ (by omega))) ?_
            go_frame
            refine ls_ex (some 5) (.int .i64 (t + 1)) rfl rfl (exec_assign _ rfl (.int .i64 (t + 1)) rfl) ?_
            go_frame
            refine wpList_nil ?_
            go_wp2_with fail
            go_roundw
            case rel => exact ⟨t + 1, by omega, by go_num, HP2, hB, h1, h2, h3, hB5⟩
            case measure => simp [intOf] <;> omega
        · have HPt : Hid (posL X acc = t) := Lib.hid (by rw [HP.out, List.drop_of_length_le (by rw [HAl.out]; omega)]; rfl)
          obtain ⟨wk, rfl⟩ : ∃ z : World, z = wr := ⟨_, rfl⟩
          go_upto_region 6 with (fail)
          refine wp_region_y (zs := []) (S := fun w' => Below w.heap.size w w' ∧ At w' Wz12.heap.size (.cells #[.int .i64 p, .int .i64 n, .int .i64 m, .int .i64 k, .slice A9 i c9] 28 (0, 0))) (S2 := fun w' => True) (by kernel_rfl) ?_
          change wpAnyY _ _ _ _ _ _ _ _ _ _ (World.drew _)
          generalize hwdz89 : World.drew _ = wdz89
          replace hB : Below w.heap.size w wdz89 := by rw [← hwdz89]; exact hB.drew
          replace h1 : At wdz89 w.heap.size (.cells #[.int .i64 p, .int .i64 n, .int .i64 m, .int .i64 k, .slice AX N c] 28 (0, 0)) := by rw [← hwdz89]; exact h1
          replace h2 : At wdz89 Wz2.heap.size (.cells #[.int .i64 0, .int .i64 0, .int .i64 0, .int .i64 0, .slice none 0 0] 28 (0, 0)) := by rw [← hwdz89]; exact h2
          replace h3 : At wdz89 Wz12.heap.size (.cells #[.int .i64 p, .int .i64 n, .int .i64 m, .int .i64 k, .slice A9 i c9] 28 (0, 0)) := by rw [← hwdz89]; exact h3
          replace hB5 : Below we.heap.size we wdz89 := by rw [← hwdz89]; exact hB5.drew
          clear hwdz89
          refine y_yield 0 (some 16) (.int .i64 t) rfl (by kernel_rfl) (by kernel_rfl) (by kernel_rfl) (fun _ _ _ h => h) rfl rfl ⟨hB, h3⟩ (fun w' h' => exec_move _ rfl (.int .i64 t) rfl) ?_
          go_frame
          refine y_yield 1 (some 17) (.pointer (some ⟨Wz12.heap.size, 4, none⟩)) rfl (by kernel_rfl) (by kernel_rfl) (by kernel_rfl) (fun _ _ _ h => h) rfl rfl ⟨hB, h3⟩ (fun w' h' => exec_fieldAddr 28 _ 4 rfl _ (by kernel_rfl)) ?_
          go_frame
          refine y_yield 2 (some 18) (.slice A9 i c9) rfl (by kernel_rfl) (by kernel_rfl) (by kernel_rfl) (fun _ _ _ h => h) rfl rfl ⟨hB, h3⟩ (fun w' h' => exec_load_one 26 _ rfl Wz12.heap.size 4 rfl (.slice A9 i c9) _ Try.underlying26 rfl (h'.2.at_ 4)) ?_
          go_frame
          refine y_yield 3 (some 19) (.int .i64 i) rfl (by kernel_rfl) (by kernel_rfl) (by kernel_rfl) (fun _ _ _ h => h) rfl rfl ⟨hB, h3⟩ (fun w' h' => exec_len _ 26 45 rfl A9 i c9 rfl Try.underlying26) ?_
          go_frame
          refine y_yield 4 (some 20) (.bool false) rfl (by kernel_rfl) (by kernel_rfl) (by kernel_rfl) (fun _ _ _ h => h) rfl rfl ⟨hB, h3⟩ (fun w' h' => exec_lss _ _ _ _ rfl t i rfl rfl false (decide_eq_false (by omega))) ?_
          go_frame
          refine y_yield 5 (some 21) (.bool false) rfl (by kernel_rfl) (by kernel_rfl) (by kernel_rfl) (fun _ _ _ h => h) rfl rfl ⟨hB, h3⟩ (fun w' h' => exec_move _ rfl (.bool false) rfl) ?_
          go_frame
          refine y_skip 6 (some 22) rfl (by kernel_rfl) (by kernel_rfl) (by kernel_rfl) (fun _ _ _ h => h) rfl rfl ⟨hB, h3⟩ ?_
          go_frame
          refine y_skip 7 (some 23) rfl (by kernel_rfl) (by kernel_rfl) (by kernel_rfl) (fun _ _ _ h => h) rfl rfl ⟨hB, h3⟩ ?_
          go_frame
          refine y_skip 8 (some 24) rfl (by kernel_rfl) (by kernel_rfl) (by kernel_rfl) (fun _ _ _ h => h) rfl rfl ⟨hB, h3⟩ ?_
          go_frame
          refine y_skip 9 (some 25) rfl (by kernel_rfl) (by kernel_rfl) (by kernel_rfl) (fun _ _ _ h => h) rfl rfl ⟨hB, h3⟩ ?_
          go_frame
          refine y_skip 10 (some 26) rfl (by kernel_rfl) (by kernel_rfl) (by kernel_rfl) (fun _ _ _ h => h) rfl rfl ⟨hB, h3⟩ ?_
          go_frame
          refine y_skip 11 (some 27) rfl (by kernel_rfl) (by kernel_rfl) (by kernel_rfl) (fun _ _ _ h => h) rfl rfl ⟨hB, h3⟩ ?_
          go_frame
          refine y_skip 12 (some 28) rfl (by kernel_rfl) (by kernel_rfl) (by kernel_rfl) (fun _ _ _ h => h) rfl rfl ⟨hB, h3⟩ ?_
          go_frame
          refine y_skip 13 (some 29) rfl (by kernel_rfl) (by kernel_rfl) (by kernel_rfl) (fun _ _ _ h => h) rfl rfl ⟨hB, h3⟩ ?_
          go_frame
          refine y_skip 14 (some 30) rfl (by kernel_rfl) (by kernel_rfl) (by kernel_rfl) (fun _ _ _ h => h) rfl rfl ⟨hB, h3⟩ ?_
          go_frame
          refine y_skip 15 (some 31) rfl (by kernel_rfl) (by kernel_rfl) (by kernel_rfl) (fun _ _ _ h => h) rfl rfl ⟨hB, h3⟩ ?_
          go_frame
          refine y_pass 16 (some 32) (by kernel_rfl) rfl rfl rfl ⟨hB, h3⟩ ?_
          go_frame
          refine y_skip 17 (some 33) rfl (by kernel_rfl) (by kernel_rfl) (by kernel_rfl) (fun _ _ _ h => h) rfl rfl ⟨hB, h3⟩ ?_
          go_frame
          refine y_yield 18 (some 34) (.bool false) rfl (by kernel_rfl) (by kernel_rfl) (by kernel_rfl) (fun _ _ _ h => h) rfl rfl ⟨hB, h3⟩ (fun w' h' => exec_pick _ _ _ rfl false rfl (.bool false) rfl) ?_
          go_frame
          refine y_done (by kernel_rfl) ?_ _
          go_upto_region 8 with (fail)
          refine wp_region_y (zs := []) (S := fun w' => Below w.heap.size w w' ∧ At w' w.heap.size (.cells #[.int .i64 p, .int .i64 n, .int .i64 m, .int .i64 k, .slice AX N c] 28 (0, 0)) ∧ At w' Wz12.heap.size (.cells #[.int .i64 p, .int .i64 n, .int .i64 m, .int .i64 k, .slice A9 i c9] 28 (0, 0))) (S2 := fun w' => True) (by kernel_rfl) ?_
          change wpAnyY _ _ _ _ _ _ _ _ _ _ (World.drew _)
          generalize hwdz90 : World.drew _ = wdz90
          replace hB : Below w.heap.size w wdz90 := by rw [← hwdz90]; exact hB.drew
          replace h1 : At wdz90 w.heap.size (.cells #[.int .i64 p, .int .i64 n, .int .i64 m, .int .i64 k, .slice AX N c] 28 (0, 0)) := by rw [← hwdz90]; exact h1
          replace h2 : At wdz90 Wz2.heap.size (.cells #[.int .i64 0, .int .i64 0, .int .i64 0, .int .i64 0, .slice none 0 0] 28 (0, 0)) := by rw [← hwdz90]; exact h2
          replace h3 : At wdz90 Wz12.heap.size (.cells #[.int .i64 p, .int .i64 n, .int .i64 m, .int .i64 k, .slice A9 i c9] 28 (0, 0)) := by rw [← hwdz90]; exact h3
          replace hB5 : Below we.heap.size we wdz90 := by rw [← hwdz90]; exact hB5.drew
          clear hwdz90
          refine y_yield 0 (some 37) (.pointer (some ⟨w.heap.size, 4, none⟩)) rfl (by kernel_rfl) (by kernel_rfl) (by kernel_rfl) (fun _ _ _ h => h) rfl rfl ⟨hB, h1, h3⟩ (fun w' h' => exec_fieldAddr 28 _ 4 rfl _ (by kernel_rfl)) ?_
          go_frame
          refine y_yield 1 (some 38) (.slice AX N c) rfl (by kernel_rfl) (by kernel_rfl) (by kernel_rfl) (fun _ _ _ h => h) rfl rfl ⟨hB, h1, h3⟩ (fun w' h' => exec_load_one 26 _ rfl w.heap.size 4 rfl (.slice AX N c) _ Try.underlying26 rfl (h'.2.1.at_ 4)) ?_
          go_frame
          refine y_yield 2 (some 39) (.int .i64 i) rfl (by kernel_rfl) (by kernel_rfl) (by kernel_rfl) (fun _ _ _ h => h) rfl rfl ⟨hB, h1, h3⟩ (fun w' h' => exec_move _ rfl (.int .i64 i) rfl) ?_
          go_frame
          refine y_yield 3 (some 40) (.pointer (some ⟨bX, oX + i * 27, none⟩)) rfl (by kernel_rfl) (by kernel_rfl) (by kernel_rfl) (fun _ _ _ h => h) rfl rfl ⟨hB, h1, h3⟩ (fun w' h' => exec_ixSA _ _ rfl HAX.out N c i rfl rfl hlt) ?_
          go_frame
          refine y_yield 4 (some 41) (.agg (u8s (X))) rfl (by kernel_rfl) (by kernel_rfl) (by kernel_rfl) (fun _ _ _ h => h) rfl rfl ⟨hB, h1, h3⟩ (fun w' h' => exec_load_cells 45 _ rfl bX (oX + i * 27) rfl (X) _ 27 (Rd.c27x (hR.keep h'.1) HAX.out HX.out) Try.underlying45 rfl (by kernel_rfl) (HXb.out.len)) ?_
          go_frame
          refine y_yield 6 (some 43) (.pointer (some ⟨Wz12.heap.size, 4, none⟩)) rfl (by kernel_rfl) (by kernel_rfl) (by kernel_rfl) (fun _ _ _ h => h) rfl rfl ⟨hB, h1, h3⟩ (fun w' h' => exec_fieldAddr 28 _ 4 rfl _ (by kernel_rfl)) ?_
          go_frame
          refine y_yield 7 (some 44) (.slice A9 i c9) rfl (by kernel_rfl) (by kernel_rfl) (by kernel_rfl) (fun _ _ _ h => h) rfl rfl ⟨hB, h1, h3⟩ (fun w' h' => exec_load_one 26 _ rfl Wz12.heap.size 4 rfl (.slice A9 i c9) _ Try.underlying26 rfl (h'.2.2.at_ 4)) ?_
          go_frame
          refine y_yield 8 (some 45) (.int .i64 t) rfl (by kernel_rfl) (by kernel_rfl) (by kernel_rfl) (fun _ _ _ h => h) rfl rfl ⟨hB, h1, h3⟩ (fun w' h' => exec_move _ rfl (.int .i64 t) rfl) ?_
          go_frame
          refine y_yield 9 (some 46) (.slice (dropA A9 c9 t) (i - t) (c9 - t)) rfl (by kernel_rfl) (by kernel_rfl) (by kernel_rfl) (fun _ _ _ h => h) rfl rfl ⟨hB, h1, h3⟩ (fun w' h' => exec_sl_loA _ _ rfl A9 i c9 t hle2 rfl rfl) ?_
          go_frame
          refine y_oper 5 (by kernel_rfl) rfl rfl (fun K' hK' => ?_)
          have lz91 := hB.size
          have lz92 := h1.lt
          have lz93 := h2.lt
          have lz94 := h3.lt
          have lz95 := hB5.size
          refine wp_slice1 (some 42) rfl 26 45 _ rfl (X) rfl Try.underlying26 infoProd HXb.out.len (fun Wz96 nnz97 => ?_)
          have bz98 := nnz97.below (Below.refl _ _) (Nat.le_refl _)
          replace hB := below_after hB bz98
          replace h1 := h1.after bz98
          replace h2 := h2.after bz98
          replace h3 := h3.after bz98
          replace hB5 := below_after hB5 bz98
          have ho : Own Wz96 we.heap.size (.slice (some ⟨wdz90.heap.size, 0, none⟩) 1 1) [X] := (own_bs1P nnz97 HXb.out.len).mono (by omega)
          refine hK' _ _ ⟨hB, h1, h3⟩ (fun _ => trivial) ?_
          clear hK' K' nnz97 bz98
          go_frame
          refine y_oper 10 (by kernel_rfl) rfl rfl (fun K' hK' => ?_)
          have lz102 := hB.size
          have lz103 := h1.lt
          have lz104 := h2.lt
          have lz105 := h3.lt
          have lz106 := hB5.size
          refine wp_append_rdN (some 47) rfl _ _ rfl (.slice (some ⟨wdz90.heap.size, 0, none⟩) 1 1) ([X]) (acc.drop t) (i - t) (by rw [List.length_drop, HAl.out]) rfl ho (dropA A9 c9 t) (c9 - t) rfl (((ho0.below hB5).rd' HCb.out).dropA (by rw [HAl.out]; omega)) (fun h => by have h9 := Hn0.out (dropA_none h); omega) (by simp; rw [HAl.out]; omega) (by omega) (fun v6 Wz99 noz101 grz100 => ?_)
          obtain ⟨A6, c6, rfl⟩ := Own.rdN2 noz101 (n := i - t + 1) (by rw [List.length_append, List.length_drop, HAl.out]; simp; omega)
          replace hB := below_grown hB grz100 ho (by omega)
          replace h1 := h1.grown grz100 (ho.off h1 (by decide))
          replace h2 := h2.grown grz100 (ho.off h2 (by decide))
          replace h3 := h3.grown grz100 (ho.off h3 (by decide))
          replace hB5 := below_grown hB5 grz100 ho (by omega)
          replace ho := noz101
          refine hK' _ _ ⟨hB, h1, h3⟩ (fun _ => trivial) ?_
          clear hK' K' grz100
          go_frame
          refine y_oper 11 (by kernel_rfl) rfl rfl (fun K' hK' => ?_)
          refine wp_exec (some 6) rfl (.slice A6 (i - t + 1) c6) (exec_assign _ rfl (.slice A6 (i - t + 1) c6) rfl) ?_
          refine hK' _ _ ⟨hB, h1, h3⟩ (fun _ => trivial) ?_
          clear hK' K'
          go_frame
          refine y_done (by kernel_rfl) ?_ _
          go_upto_region 9 with (fail)
          have ho6 := ho
          have hB6 := Below.refl Wz99.heap.size Wz99
          have lo6 := hB.size
          have lo65 := hB5.size
          have HA6 := Lib.hid ho6.none0
          clear ho
          refine wp_region_lit ?_
          refine ls_op rfl (fun K' hK' => ?_)
          have lz110 := hB.size
          have lz111 := h1.lt
          have lz112 := h2.lt
          have lz113 := h3.lt
          have lz114 := hB5.size
          have lz115 := hB6.size
          refine wp_new (some 48) rfl (exec_bs0 rfl) (fun Wz107 nnz108 => ?_)
          have bz109 := nnz108.below (Below.refl _ _) (Nat.le_refl _)
          replace hB := below_after hB bz109
          replace h1 := h1.after bz109
          replace h2 := h2.after bz109
          replace h3 := h3.after bz109
          replace hB5 := below_after hB5 bz109
          replace hB6 := below_after hB6 bz109
          have ho : Own Wz107 Wz99.heap.size (.slice (some ⟨Wz99.heap.size, 0, none⟩) 0 0) [] := (own_bs0 nnz108).mono (by omega)
          refine hK' _ _ ?_
          clear hK' K' nnz108 bz109
          go_frame
          refine ls_ex (some 49) (.pointer (some ⟨Wz12.heap.size, 4, none⟩)) rfl rfl (exec_fieldAddr 28 _ 4 rfl _ (by kernel_rfl)) ?_
          go_frame
          refine ls_ex (some 50) (.slice A9 i c9) rfl rfl (exec_load_one 26 _ rfl Wz12.heap.size 4 rfl (.slice A9 i c9) _ Try.underlying26 rfl (h3.at_ 4)) ?_
          go_frame
          refine ls_ex (some 51) (.int .i64 t) rfl rfl (exec_move _ rfl (.int .i64 t) rfl) ?_
          go_frame
          refine ls_ex (some 52) (.slice A9 t c9) rfl rfl (exec_sl_hiA _ _ rfl A9 i c9 t (by omega) rfl rfl) ?_
          go_frame
          refine ls_op rfl (fun K' hK' => ?_)
          have lz119 := hB.size
          have lz120 := h1.lt
          have lz121 := h2.lt
          have lz122 := h3.lt
          have lz123 := hB5.size
          have lz124 := hB6.size
          refine wp_append_rdN (some 53) rfl _ _ rfl (.slice (some ⟨Wz99.heap.size, 0, none⟩) 0 0) ([]) (acc.take t) (t) (by rw [List.length_take, HAl.out]; omega) rfl ho A9 (c9) rfl (((ho0.below hB5).rd' HCb.out).take9 t) (fun h => Hn0.out h) (by simp; omega) (by omega) (fun v8 Wz116 noz118 grz117 => ?_)
          rw [List.nil_append] at noz118
          obtain ⟨A8, c8, rfl⟩ := Own.rdN2 noz118 (n := t) (by rw [List.length_take, HAl.out]; omega)
          replace hB := below_grown hB grz117 ho (by omega)
          replace h1 := h1.grown grz117 (ho.off h1 (by decide))
          replace h2 := h2.grown grz117 (ho.off h2 (by decide))
          replace h3 := h3.grown grz117 (ho.off h3 (by decide))
          replace hB5 := below_grown hB5 grz117 ho (by omega)
          replace hB6 := below_grown hB6 grz117 ho (by omega)
          replace ho := noz118
          refine hK' _ _ ?_
          clear hK' K' grz117
          go_frame
          refine ls_ex (some 54) (.slice A6 (i - t + 1) c6) rfl rfl (exec_move _ rfl (.slice A6 (i - t + 1) c6) rfl) ?_
          go_frame
          refine ls_op rfl (fun K' hK' => ?_)
          have lz128 := hB.size
          have lz129 := h1.lt
          have lz130 := h2.lt
          have lz131 := h3.lt
          have lz132 := hB5.size
          have lz133 := hB6.size
          refine wp_append_rdN (some 55) rfl _ _ rfl (.slice A8 t c8) (acc.take t) ([X] ++ acc.drop t) (i - t + 1) (by rw [List.length_append, List.length_drop, HAl.out]; simp; omega) rfl ho A6 (c6) rfl ((ho6.below hB6).rd' (fun q hq => (List.mem_append.1 hq).elim (fun h9 => by rw [List.mem_singleton.1 h9]; exact HXb.out) (fun h9 => HCb.out q (List.mem_of_mem_drop h9)))) (fun h => HA6.out h) (by rw [List.length_append, List.length_drop, List.length_take, HAl.out]; simp; omega) (by omega) (fun v7 Wz125 noz127 grz126 => ?_)
          rw [show acc.take t ++ ([X] ++ acc.drop t) = insL X acc by unfold insL; rw [HPt.out]; rfl] at noz127
          obtain ⟨A7, c7, rfl⟩ := Own.rdN2 noz127 (n := i + 1) (by rw [HAc2.out]; exact insA_len (by rw [HNl.out]; omega))
          replace hB := below_grown hB grz126 ho (by omega)
          replace h1 := h1.grown grz126 (ho.off h1 (by decide))
          replace h2 := h2.grown grz126 (ho.off h2 (by decide))
          replace h3 := h3.grown grz126 (ho.off h3 (by decide))
          replace hB5 := below_grown hB5 grz126 ho (by omega)
          replace hB6 := below_grown hB6 grz126 ho (by omega)
          replace ho := noz127
          refine hK' _ _ ?_
          clear hK' K' grz126
          go_frame
          refine ls_ex (some 56) (.pointer (some ⟨Wz12.heap.size, 4, none⟩)) rfl rfl (exec_fieldAddr 28 _ 4 rfl _ (by kernel_rfl)) ?_
          go_frame
          refine ls_op rfl (fun K' hK' => ?_)
          clear hB5 hB6
          refine wp_store_one 26 _ _ rfl rfl Wz12.heap.size 4 rfl (.slice A7 (i + 1) c7) rfl rfl rfl _ _ h3 (by kernel_rfl) (by simp) (fun Wz134 pz135 => ?_)
          replace hB := pz135.below hB (by omega)
          replace h1 := pz135.other h1 (by omega)
          replace h2 := pz135.other h2 (by omega)
          replace ho := ho.put pz135 (ho.off h3 (by decide))
          replace h3 : At Wz134 Wz12.heap.size (.cells #[.int .i64 p, .int .i64 n, .int .i64 m, .int .i64 k, .slice A7 (i + 1) c7] 28 (0, 0)) := pz135.at_
          refine hK' _ _ ?_
          clear hK' K' pz135
          refine wpList_nil ?_
          go_upto_region 4 with (fail)
          refine wp_region_lit ?_
          refine ls_ex (some 14) (.int .i64 i) rfl rfl (exec_move _ rfl (.int .i64 i) rfl) ?_
          go_frame
          refine ls_ex (some 15) (.int .i64 (i + 1)) rfl rfl (exec_add _ _ _ _ rfl i 1 (i + 1) rfl rfl (IntWalk.i64_in _ (by omega))) ?_
          go_frame
          refine ls_ex (some 4) (.int .i64 (i + 1)) rfl rfl (exec_assign _ rfl (.int .i64 (i + 1)) rfl) ?_
          go_frame
          refine wpList_nil ?_
          go_wp2_with fail
          go_roundw
          case rel => exact ⟨i + 1, c7, A7, insL X acc, by omega, by go_num, HAc2, hB, h1, h2, h3, ho.mono (by omega)⟩
          case measure => simp [intOf] <;> omega
    · have HAz : Hid (acc = insA [] qs) := Lib.hid (by rw [HAc.out, List.take_of_length_le (by rw [HNl.out]; omega)])
      go_upto_region 3 with (fail)
      refine wp_region_lit ?_
      refine ls_ex (some 9) (.int .i64 i) rfl rfl (exec_move _ rfl (.int .i64 i) rfl) ?_
      go_frame
      refine ls_ex (some 10) (.pointer (some ⟨w.heap.size, 4, none⟩)) rfl rfl (exec_fieldAddr 28 _ 4 rfl _ (by kernel_rfl)) ?_
      go_frame
      refine ls_ex (some 11) (.slice AX N c) rfl rfl (exec_load_one 26 _ rfl w.heap.size 4 rfl (.slice AX N c) _ Try.underlying26 rfl (h1.at_ 4)) ?_
      go_frame
      refine ls_ex (some 12) (.int .i64 N) rfl rfl (exec_len _ 26 45 rfl AX N c rfl Try.underlying26) ?_
      go_frame
      refine ls_ex (some 13) (.bool false) rfl rfl (exec_lss _ _ _ _ rfl i N rfl rfl false (decide_eq_false (by omega))) ?_
      go_frame
      refine wpList_nil ?_
      go_upto_region 10 with (fail)
      refine wp_region_lit ?_
      refine ls_ex (some 57) (.agg #[.int .i64 p, .int .i64 n, .int .i64 m, .int .i64 k, .slice A9 i c9]) rfl rfl (exec_load_all 28 _ rfl Wz12.heap.size rfl _ _ _ h3 Try.underlying28 rfl 5 (by kernel_rfl) rfl) ?_
      go_frame
      refine ls_op rfl (fun K' hK' => ?_)
      refine wp_store_all 28 _ _ rfl rfl Wz2.heap.size rfl #[.int .i64 p, .int .i64 n, .int .i64 m, .int .i64 k, .slice A9 i c9] rfl _ _ h2 5 (by kernel_rfl) rfl rfl (one5 _ _ _ _ _ _ _) (fun Wz136 pz137 => ?_)
      replace hB := pz137.below hB (by omega)
      replace h1 := pz137.other h1 (by omega)
      replace h3 := pz137.other h3 (by omega)
      replace ho := ho.put pz137 (ho.off h2 (by decide))
      replace h2 : At Wz136 Wz2.heap.size (.cells #[.int .i64 p, .int .i64 n, .int .i64 m, .int .i64 k, .slice A9 i c9] 28 (0, 0)) := pz137.at_
      refine hK' _ _ ?_
      clear hK' K' pz137
      refine wpList_nil ?_
      go_wp2_with fail
      refine bodyPost_ret (results_at rfl _ _ Wz2.heap.size _ _ _ rfl h2 Try.underlying28 rfl 5 (by kernel_rfl) rfl) rfl ?_
      exact ⟨_, rfl, by rw [← HAz.out]; exact ho, hB⟩
end Go.Proofs.Ytmbjpnkedepijaa
