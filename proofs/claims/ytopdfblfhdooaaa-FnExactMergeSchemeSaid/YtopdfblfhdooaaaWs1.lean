/-
  spec.l10Forms, l10Product, l10Drop. (Made by mkws1.py.)
-/
import Derived.Test.YtopdfblfhdooaaaFp
namespace Go.Proofs.Ytopdfblfhdooaaa
open Go.RowKit
set_option maxRecDepth 100000
theorem l10Forms_c (q : List Nat) (hq : Bytes 27 q) (w : World) : Calls Try.prog 70 #[.agg (u8s q)] w fun e w' => e = .returned (.agg (u8s q)) ∧ Below w.heap.size w w' := by
  have zq : 27 ≤ q.length := by rw [hq.len]; exact Nat.le_refl _
  go_enter Try.func70, Try.ntmps70
  go_wp2_with (first | (refine wpList_abs2 ?_; intro W hsz hB h0 h1; replace h1 : At W (w.heap.size + 1) (.cells (u8s (List.replicate 27 0)) 100 (0, 0)) := h1) | (refine wpList_load_u8s rfl 51 _ rfl w.heap.size 0 rfl _ q _ 9 h0 Try.underlying51 rfl (by kernel_rfl) (by omega) ?_) | (refine wpList_load_u8s rfl 51 _ rfl w.heap.size 9 rfl _ q _ 9 h0 Try.underlying51 rfl (by kernel_rfl) (by omega) ?_) | (refine wpList_load_u8s rfl 51 _ rfl w.heap.size 18 rfl _ q _ 9 h0 Try.underlying51 rfl (by kernel_rfl) (by omega) ?_) | (refine wpList_of_exec rfl (exec_build3 _ 51 _ _ _ rfl 3 _ _ _ rfl rfl rfl Try.underlying100 (by kernel_rfl) (by kernel_rfl) (segm_len (by omega)) (segm_len (by omega)) (segm_len (by omega))) ?_; rw [over3 q hq.len]) | (refine wpList_store_u8s rfl 100 _ _ rfl rfl (w.heap.size + 1) 0 rfl _ rfl _ _ h1 27 (by kernel_rfl) hq.len (by simp) ?_; intro w2 p2))
  rw [over_all (by rw [hq.len]; simp)] at p2
  refine bodyPost_ret (results_at rfl _ _ (w.heap.size + 1) _ _ _ rfl p2.at_ Try.underlying100 rfl 27 (by kernel_rfl) ((u8s_size _).trans hq.len)) rfl ?_
  exact ⟨rfl, p2.below hB (by omega)⟩
theorem wp_appP {o : Oper} {a : Act} {w : World} {K : Act → World → Prop} {Q : Exit → Act → World → Prop} (d : Option Tmp) (hd : o.dst = d) (s x : Operand) (ho : o.op = .call { callee := .builtin .append, args := #[s, x], argTypes := #[26, 26] })
    {lo : Nat} (sl : Value) (qs : List (List Nat)) (q : List Nat) (hs : a.eval s = sl) (hown : Own w lo sl qs) (g : Nat) (hx : a.eval x = .slice (some ⟨g, 0, none⟩) 1 1) (hg : At w g (.cells (u8s q) 53 (0, 0))) (hq : q.length = 27) (hle : qs.length ≤ 1000000) (hlo : lo ≤ w.heap.size)
    (h : ∀ v' w', Own w' lo v' (qs ++ [q]) → w.grownBy w' sl.ownBlock → K (a.put d v') w') : Oper.wp Try.prog o a w K Q := by
  obtain ⟨i0, hi, hz0, hz1, hz2⟩ := info_parts infoProd
  refine wp_append' d hd s x 26 ho lo 53 i0 (.agg (u8s (List.replicate 27 0))) 27 27 Try.underlying26 hi hz0 hz1 hz2 rfl (by decide) sl _ _ hs hown ⟨g, 0, none⟩ 1 1 (u8s q).toList hx (by rw [Array.length_toList, u8s_size, hq]) ?_ (u8s_one q) (by unfold maxLen; omega) (by omega) hlo ?_
  · intro j u hu
    rw [add_none, Nat.zero_add, hg.at_ j, ← Array.getElem?_toList]
    exact hu
  · intro v1 w8 own8 gr8 _
    refine h v1 w8 ?_ gr8
    unfold Own
    rw [u8s_snoc, List.length_append]
    exact own8
theorem l10Product_c (q : List Nat) (hq : Bytes 27 q) (w : World) : Calls Try.prog 72 #[.agg (u8s q)] w fun e w' => e = .returned (.agg (u8s q)) ∧ Below w.heap.size w w' := by
  obtain ⟨QA, QB, QC, rfl, hQA, hQB, hQC⟩ := parts3 hq
  have hB := Below.refl w.heap.size w
  go_enter Try.func72, Try.ntmps72
  go_upto_region 0 with (fail)
  refine wp_region_lit ?_
  refine ls_op rfl (fun K' hK' => ?_)
  have la1 := hB.size
  refine wp_new (some 1) rfl (exec_box 100 _ rfl (u8s (cat3 QA QB QC)) rfl) (fun Wa2 nna3 => ?_)
  have ba4 := nna3.below (Below.refl _ _) (Nat.le_refl _)
  replace hB := below_after hB ba4
  have ha5 : At Wa2 w.heap.size (.cells (u8s (cat3 QA QB QC)) 100 (0, 0)) := nna3.at_
  refine hK' _ _ ?_
  clear hK' K' nna3 ba4
  go_frame
  refine ls_op rfl (fun K' hK' => ?_)
  have la6 := hB.size
  have la7 := ha5.lt
  refine wp_new (some 2) rfl (al_impl_Product rfl) (fun Wa8 nna9 => ?_)
  have ba10 := nna9.below (Below.refl _ _) (Nat.le_refl _)
  replace hB := below_after hB ba10
  replace ha5 := ha5.after ba10
  have ha11 : At Wa8 Wa2.heap.size (.cells (u8s (List.replicate 27 0)) 53 (0, 0)) := nna9.at_
  refine hK' _ _ ?_
  clear hK' K' nna9 ba10
  go_frame
  refine wpList_nil ?_
  go_upto_region 1 with (fail)
  refine wp_region_lit ?_
  refine ls_ex (some 3) (.pointer (some ⟨w.heap.size, 0, none⟩)) rfl rfl (exec_index_arr _ 51 _ _ rfl w.heap.size 0 3 0 9 rfl rfl Try.underlying100 (by kernel_rfl) (by omega)) ?_
  go_frame
  refine ls_ex (some 4) (.agg (u8s (QA))) rfl rfl (exec_load_seg 51 _ rfl w.heap.size (0) rfl _ (cat3 QA QB QC) _ 9 ha5 Try.underlying51 rfl (by kernel_rfl) (by rw [hq.len]; omega) (QA) (segm_a hQA.len)) ?_
  go_frame
  refine ls_ex (some 5) (.pointer (some ⟨w.heap.size, 9, none⟩)) rfl rfl (exec_index_arr _ 51 _ _ rfl w.heap.size 0 3 1 9 rfl rfl Try.underlying100 (by kernel_rfl) (by omega)) ?_
  go_frame
  refine ls_ex (some 6) (.agg (u8s (QB))) rfl rfl (exec_load_seg 51 _ rfl w.heap.size (9) rfl _ (cat3 QA QB QC) _ 9 ha5 Try.underlying51 rfl (by kernel_rfl) (by rw [hq.len]; omega) (QB) (segm_b hQA.len hQB.len)) ?_
  go_frame
  refine ls_ex (some 7) (.pointer (some ⟨w.heap.size, 18, none⟩)) rfl rfl (exec_index_arr _ 51 _ _ rfl w.heap.size 0 3 2 9 rfl rfl Try.underlying100 (by kernel_rfl) (by omega)) ?_
  go_frame
  refine ls_ex (some 8) (.agg (u8s (QC))) rfl rfl (exec_load_seg 51 _ rfl w.heap.size (18) rfl _ (cat3 QA QB QC) _ 9 ha5 Try.underlying51 rfl (by kernel_rfl) (by rw [hq.len]; omega) (QC) (segm_c hQA.len hQB.len hQC.len)) ?_
  go_frame
  refine ls_ex (some 9) (.agg (u8s (cat3 QA QB QC))) rfl rfl (exec_prod _ _ _ rfl (QA) (QB) (QC) rfl rfl rfl hQA.len hQB.len hQC.len) ?_
  go_frame
  refine ls_op rfl (fun K' hK' => ?_)
  refine wp_store_bytes 53 _ _ rfl rfl Wa2.heap.size rfl (cat3 QA QB QC) rfl _ _ ha11 27 (by kernel_rfl) hq.len (by simp) (fun Wa12 pa13 => ?_)
  replace hB := pa13.below hB (by omega)
  replace ha5 := pa13.other ha5 (by omega)
  replace ha11 : At Wa12 Wa2.heap.size (.cells (u8s (cat3 QA QB QC)) 53 (0, 0)) := pa13.at_
  refine hK' _ _ ?_
  clear hK' K' pa13
  refine wpList_nil ?_
  go_wp2_with fail
  refine bodyPost_ret (results_at rfl _ _ (Wa2.heap.size) _ _ _ rfl ha11 Try.underlying53 rfl 27 (by kernel_rfl) ((u8s_size _).trans hq.len)) rfl ?_
  exact ⟨rfl, hB⟩
attribute [local irreducible] wpList
theorem drop_no {qs : List (List Nat)} {i : Nat} (h : i < qs.length) (hn : nzB qs[i] = false) : (qs.take i).filter nzB = (qs.take (i + 1)).filter nzB := by
  rw [List.take_succ_eq_append_getElem h, List.filter_append]
  simp [hn]
theorem drop_yes {qs : List (List Nat)} {i : Nat} (h : i < qs.length) (hn : nzB qs[i] = true) : (qs.take i).filter nzB ++ [qs[i]] = (qs.take (i + 1)).filter nzB := by
  rw [List.take_succ_eq_append_getElem h, List.filter_append]
  simp [hn]
theorem Rd.cD27 {w : World} {b off : Nat} {ts : List (List Nat)} (h : Rd w (some ⟨b, off, none⟩) ts) {i : Nat} (hi : i < ts.length) : ∀ j, j < 27 → w.cell? ⟨b, off + i * 27 + j, none⟩ = some (.int .u8 ((ts[i][j]?.getD 0 : Nat) : Int)) := h.cFl (List.getElem?_eq_getElem hi)
theorem Rd.cDf {w : World} {b off : Nat} {ts : List (List Nat)} (h : Rd w (some ⟨b, off, none⟩) ts) {i : Nat} (hi : i < ts.length) {o : Nat} (ho : o + 9 ≤ 27) : ∀ j, j < 9 → w.cell? ⟨b, off + i * 27 + o + j, none⟩ = some (.int .u8 (((segm ts[i] o 9)[j]?.getD 0 : Nat) : Int)) := fun j hj => by
  have h9 := h.cD27 hi (o + j) (by omega)
  rw [show off + i * 27 + o + j = off + i * 27 + (o + j) by omega, h9]
  unfold segm
  rw [List.getElem?_take, if_pos hj, List.getElem?_drop]
theorem Rd.cDf0 {w : World} {b off : Nat} {ts : List (List Nat)} (h : Rd w (some ⟨b, off, none⟩) ts) {i : Nat} (hi : i < ts.length) : ∀ j, j < 9 → w.cell? ⟨b, off + i * 27 + j, none⟩ = some (.int .u8 (((segm ts[i] 0 9)[j]?.getD 0 : Nat) : Int)) := h.cDf hi (o := 0) (by omega)
theorem Rd.cDf9 {w : World} {b off : Nat} {ts : List (List Nat)} (h : Rd w (some ⟨b, off, none⟩) ts) {i : Nat} (hi : i < ts.length) : ∀ j, j < 9 → w.cell? ⟨b, off + i * 27 + 9 + j, none⟩ = some (.int .u8 (((segm ts[i] 9 9)[j]?.getD 0 : Nat) : Int)) := h.cDf hi (o := 9) (by omega)
theorem Rd.cDf18 {w : World} {b off : Nat} {ts : List (List Nat)} (h : Rd w (some ⟨b, off, none⟩) ts) {i : Nat} (hi : i < ts.length) : ∀ j, j < 9 → w.cell? ⟨b, off + i * 27 + 18 + j, none⟩ = some (.int .u8 (((segm ts[i] 18 9)[j]?.getD 0 : Nat) : Int)) := h.cDf hi (o := 18) (by omega)
set_option maxHeartbeats 12800000 in
theorem l10Drop_c (A : Option Addr) (c : Nat) (qs : List (List Nat)) (w : World) (hR : Rd w A qs) (hlen : qs.length ≤ 1000) :
    Calls Try.prog 73 #[.slice A qs.length c] w (fun e w' => ∃ v, e = .returned v ∧ Own w' w.heap.size v (qs.filter nzB) ∧ Below w.heap.size w w') := by
  have hB := Below.refl w.heap.size w
  skip
  go_enter Try.func73, Try.ntmps73
  go_upto_region 0 with (fail)
  refine wp_region_lit ?_
  refine ls_ex (some 2) (.slice none 0 0) rfl rfl (exec_assign _ rfl (.slice none 0 0) rfl) ?_
  go_frame
  refine wpList_nil ?_
  go_upto_region 1 with (fail)
  refine wp_region_lit ?_
  refine ls_op rfl (fun K' hK' => ?_)
  have lz4 := hB.size
  refine wp_new (some 5) rfl (exec_bs0 rfl) (fun Wz1 nnz2 => ?_)
  have bz3 := nnz2.below (Below.refl _ _) (Nat.le_refl _)
  replace hB := below_after hB bz3
  have ho : Own Wz1 w.heap.size (.slice (some ⟨w.heap.size, 0, none⟩) 0 0) [] := (own_bs0 nnz2).mono (by have := hB.size; omega)
  refine hK' _ _ ?_
  clear hK' K' nnz2 bz3
  go_frame
  refine ls_ex (some 3) (.slice (some ⟨w.heap.size, 0, none⟩) 0 0) rfl rfl (exec_assign _ rfl (.slice (some ⟨w.heap.size, 0, none⟩) 0 0) rfl) ?_
  go_frame
  refine wpList_nil ?_
  go_upto_region 2 with (fail)
  refine wp_region_lit ?_
  refine ls_ex (some 4) (.int .i64 0) rfl rfl (exec_assign _ rfl (.int .i64 0) rfl) ?_
  go_frame
  refine wpList_nil ?_
  go_wp2_with fail
  go_loopw [3, 4] (fun s3 s4 wr => ∃ (i : Nat) (v : Value), i ≤ qs.length ∧ s4 = .int .i64 i ∧ v = s3 ∧ Below w.heap.size w wr ∧ Own wr w.heap.size v ((qs.take i).filter nzB)) (fun _ s4 _ => qs.length - (intOf s4).toNat)
  case atStart => exact ⟨0, _, by omega, rfl, rfl, hB, ho⟩
  case round =>
    clear hB ho
    obtain ⟨i, v, hi, rfl, rfl, hB, ho⟩ := hrel
    by_cases hlt : i < qs.length
    · obtain ⟨b, off, rfl, hc⟩ := (hR.keep hB).at_ hlt
      clear hc
      have hq := hR.good _ (List.getElem_mem hlt)
      have Hq27 := Lib.hid hq.len
      rcases Bool.eq_false_or_eq_true (zeroB (segm qs[i] 0 9)) with hz0 | hz0
      · have HZ0 := Lib.hid hz0
        have HT : Hid ((qs.take i).filter nzB = (qs.take (i + 1)).filter nzB) := Lib.hid (drop_no hlt (by unfold nzB; simp [hz0]))
        go_upto_region 3 with (fail)
        refine wp_region_lit ?_
        refine ls_ex (some 6) (.int .i64 i) rfl rfl (exec_move _ rfl (.int .i64 i) rfl) ?_
        go_frame
        refine ls_ex (some 7) (.slice (some ⟨b, off, none⟩) qs.length c) rfl rfl (exec_move _ rfl (.slice (some ⟨b, off, none⟩) qs.length c) rfl) ?_
        go_frame
        refine ls_ex (some 8) (.int .i64 qs.length) rfl rfl (exec_len _ 26 53 rfl ((some ⟨b, off, none⟩)) qs.length c rfl Try.underlying26) ?_
        go_frame
        refine ls_ex (some 9) (.bool true) rfl rfl (exec_lss _ _ _ _ rfl i qs.length rfl rfl true (decide_eq_true (by omega))) ?_
        go_frame
        refine wpList_nil ?_
        go_upto_region 5 with (fail)
        refine wp_region_lit ?_
        refine ls_ex (some 12) (.slice (some ⟨b, off, none⟩) qs.length c) rfl rfl (exec_move _ rfl (.slice (some ⟨b, off, none⟩) qs.length c) rfl) ?_
        go_frame
        refine ls_ex (some 13) (.int .i64 i) rfl rfl (exec_move _ rfl (.int .i64 i) rfl) ?_
        go_frame
        refine ls_ex (some 14) (.pointer (some ⟨b, off + i * 27, none⟩)) rfl rfl (exec_index_slice _ 53 _ _ rfl b off qs.length c i 27 rfl rfl Try.underlying26 (by kernel_rfl) (by omega)) ?_
        go_frame
        refine ls_ex (some 15) (.pointer (some ⟨b, off + i * 27, none⟩)) rfl rfl (exec_fieldAddr 53 _ 0 rfl _ (by kernel_rfl)) ?_
        go_frame
        refine ls_ex (some 16) (.agg (u8s (segm qs[i] 0 9))) rfl rfl (exec_load_cells 51 _ rfl b (off + i * 27) rfl (segm qs[i] 0 9) _ 9 (Rd.cDf0 (hR.keep hB) hlt) Try.underlying51 rfl (by kernel_rfl) (segm_len (by rw [Hq27.out]; omega))) ?_
        go_frame
        refine ls_op rfl (fun K' hK' => ?_)
        have lz7 := hB.size
        refine wp_call1 (some 17) rfl 52 _ _ rfl (fun args w => by kernel_rfl) _ rfl _ (l01Zero_c (segm qs[i] 0 9) (segm_bytes hq (by omega)) _) (fun e Wz5 h => ?_)
        obtain ⟨rfl, bz6⟩ := h
        replace hB := below_after hB bz6
        replace ho := ho.below bz6
        rw [HZ0.out]
        clear bz6
        refine ⟨_, rfl, ?_⟩
        refine hK' _ _ ?_
        clear hK' K'
        go_frame
        refine ls_ex (some 18) (.bool false) rfl rfl (exec_not _ _ rfl true rfl) ?_
        go_frame
        refine ls_ex (some 19) (.bool false) rfl rfl (exec_move _ rfl (.bool false) rfl) ?_
        go_frame
        refine ls_skip_g (some 20) rfl rfl ?_
        go_frame
        refine ls_skip_g (some 21) rfl rfl ?_
        go_frame
        refine ls_skip_g (some 22) rfl rfl ?_
        go_frame
        refine ls_skip_g (some 23) rfl rfl ?_
        go_frame
        refine ls_skip_g (some 24) rfl rfl ?_
        go_frame
        refine ls_skip_g (some 25) rfl rfl ?_
        go_frame
        refine ls_skip_g (some 26) rfl rfl ?_
        go_frame
        refine ls_ex (some 27) (.bool false) rfl rfl (exec_pick _ _ _ rfl false rfl (.bool false) rfl) ?_
        go_frame
        refine ls_ex (some 28) (.bool false) rfl rfl (exec_move _ rfl (.bool false) rfl) ?_
        go_frame
        refine ls_skip_g (some 29) rfl rfl ?_
        go_frame
        refine ls_skip_g (some 30) rfl rfl ?_
        go_frame
        refine ls_skip_g (some 31) rfl rfl ?_
        go_frame
        refine ls_skip_g (some 32) rfl rfl ?_
        go_frame
        refine ls_skip_g (some 33) rfl rfl ?_
        go_frame
        refine ls_skip_g (some 34) rfl rfl ?_
        go_frame
        refine ls_skip_g (some 35) rfl rfl ?_
        go_frame
        refine ls_ex (some 36) (.bool false) rfl rfl (exec_pick _ _ _ rfl false rfl (.bool false) rfl) ?_
        go_frame
        refine wpList_nil ?_
        go_upto_region 4 with (fail)
        refine wp_region_lit ?_
        refine ls_ex (some 10) (.int .i64 i) rfl rfl (exec_move _ rfl (.int .i64 i) rfl) ?_
        go_frame
        refine ls_ex (some 11) (.int .i64 (i + 1)) rfl rfl (exec_add _ _ _ _ rfl i 1 (i + 1) rfl rfl (IntWalk.i64_in _ (by omega))) ?_
        go_frame
        refine ls_ex (some 4) (.int .i64 (i + 1)) rfl rfl (exec_assign _ rfl (.int .i64 (i + 1)) rfl) ?_
        go_frame
        refine wpList_nil ?_
        go_wp2_with fail
        go_roundw
        case rel => exact ⟨i + 1, _, by omega, by go_num, rfl, hB, by rw [← HT.out]; exact ho⟩
        case measure => simp [intOf]; omega
      · rcases Bool.eq_false_or_eq_true (zeroB (segm qs[i] 9 9)) with hz1 | hz1
        · have HZ0 := Lib.hid hz0
          have HZ1 := Lib.hid hz1
          have HT : Hid ((qs.take i).filter nzB = (qs.take (i + 1)).filter nzB) := Lib.hid (drop_no hlt (by unfold nzB; simp [hz0, hz1]))
          go_upto_region 3 with (fail)
          refine wp_region_lit ?_
          refine ls_ex (some 6) (.int .i64 i) rfl rfl (exec_move _ rfl (.int .i64 i) rfl) ?_
          go_frame
          refine ls_ex (some 7) (.slice (some ⟨b, off, none⟩) qs.length c) rfl rfl (exec_move _ rfl (.slice (some ⟨b, off, none⟩) qs.length c) rfl) ?_
          go_frame
          refine ls_ex (some 8) (.int .i64 qs.length) rfl rfl (exec_len _ 26 53 rfl ((some ⟨b, off, none⟩)) qs.length c rfl Try.underlying26) ?_
          go_frame
          refine ls_ex (some 9) (.bool true) rfl rfl (exec_lss _ _ _ _ rfl i qs.length rfl rfl true (decide_eq_true (by omega))) ?_
          go_frame
          refine wpList_nil ?_
          go_upto_region 5 with (fail)
          refine wp_region_lit ?_
          refine ls_ex (some 12) (.slice (some ⟨b, off, none⟩) qs.length c) rfl rfl (exec_move _ rfl (.slice (some ⟨b, off, none⟩) qs.length c) rfl) ?_
          go_frame
          refine ls_ex (some 13) (.int .i64 i) rfl rfl (exec_move _ rfl (.int .i64 i) rfl) ?_
          go_frame
          refine ls_ex (some 14) (.pointer (some ⟨b, off + i * 27, none⟩)) rfl rfl (exec_index_slice _ 53 _ _ rfl b off qs.length c i 27 rfl rfl Try.underlying26 (by kernel_rfl) (by omega)) ?_
          go_frame
          refine ls_ex (some 15) (.pointer (some ⟨b, off + i * 27, none⟩)) rfl rfl (exec_fieldAddr 53 _ 0 rfl _ (by kernel_rfl)) ?_
          go_frame
          refine ls_ex (some 16) (.agg (u8s (segm qs[i] 0 9))) rfl rfl (exec_load_cells 51 _ rfl b (off + i * 27) rfl (segm qs[i] 0 9) _ 9 (Rd.cDf0 (hR.keep hB) hlt) Try.underlying51 rfl (by kernel_rfl) (segm_len (by rw [Hq27.out]; omega))) ?_
          go_frame
          refine ls_op rfl (fun K' hK' => ?_)
          have lz10 := hB.size
          refine wp_call1 (some 17) rfl 52 _ _ rfl (fun args w => by kernel_rfl) _ rfl _ (l01Zero_c (segm qs[i] 0 9) (segm_bytes hq (by omega)) _) (fun e Wz8 h => ?_)
          obtain ⟨rfl, bz9⟩ := h
          replace hB := below_after hB bz9
          replace ho := ho.below bz9
          rw [HZ0.out]
          clear bz9
          refine ⟨_, rfl, ?_⟩
          refine hK' _ _ ?_
          clear hK' K'
          go_frame
          refine ls_ex (some 18) (.bool true) rfl rfl (exec_not _ _ rfl false rfl) ?_
          go_frame
          refine ls_ex (some 19) (.bool true) rfl rfl (exec_move _ rfl (.bool true) rfl) ?_
          go_frame
          refine ls_ex_g (some 20) (.slice (some ⟨b, off, none⟩) qs.length c) rfl rfl (exec_move _ rfl (.slice (some ⟨b, off, none⟩) qs.length c) rfl) ?_
          go_frame
          refine ls_ex_g (some 21) (.int .i64 i) rfl rfl (exec_move _ rfl (.int .i64 i) rfl) ?_
          go_frame
          refine ls_ex_g (some 22) (.pointer (some ⟨b, off + i * 27, none⟩)) rfl rfl (exec_index_slice _ 53 _ _ rfl b off qs.length c i 27 rfl rfl Try.underlying26 (by kernel_rfl) (by omega)) ?_
          go_frame
          refine ls_ex_g (some 23) (.pointer (some ⟨b, off + i * 27 + 9, none⟩)) rfl rfl (exec_fieldAddr 53 _ 1 rfl _ (by kernel_rfl)) ?_
          go_frame
          refine ls_ex_g (some 24) (.agg (u8s (segm qs[i] 9 9))) rfl rfl (exec_load_cells 51 _ rfl b (off + i * 27 + 9) rfl (segm qs[i] 9 9) _ 9 (Rd.cDf9 (hR.keep hB) hlt) Try.underlying51 rfl (by kernel_rfl) (segm_len (by rw [Hq27.out]; omega))) ?_
          go_frame
          refine ls_op_g rfl (fun K' hK' => ?_)
          have lz13 := hB.size
          refine wp_call1 (some 25) rfl 52 _ _ rfl (fun args w => by kernel_rfl) _ rfl _ (l01Zero_c (segm qs[i] 9 9) (segm_bytes hq (by omega)) _) (fun e Wz11 h => ?_)
          obtain ⟨rfl, bz12⟩ := h
          replace hB := below_after hB bz12
          replace ho := ho.below bz12
          rw [HZ1.out]
          clear bz12
          refine ⟨_, rfl, ?_⟩
          refine hK' _ _ ?_
          clear hK' K'
          go_frame
          refine ls_ex_g (some 26) (.bool false) rfl rfl (exec_not _ _ rfl true rfl) ?_
          go_frame
          refine ls_ex (some 27) (.bool false) rfl rfl (exec_pick _ _ _ rfl true rfl (.bool false) rfl) ?_
          go_frame
          refine ls_ex (some 28) (.bool false) rfl rfl (exec_move _ rfl (.bool false) rfl) ?_
          go_frame
          refine ls_skip_g (some 29) rfl rfl ?_
          go_frame
          refine ls_skip_g (some 30) rfl rfl ?_
          go_frame
          refine ls_skip_g (some 31) rfl rfl ?_
          go_frame
          refine ls_skip_g (some 32) rfl rfl ?_
          go_frame
          refine ls_skip_g (some 33) rfl rfl ?_
          go_frame
          refine ls_skip_g (some 34) rfl rfl ?_
          go_frame
          refine ls_skip_g (some 35) rfl rfl ?_
          go_frame
          refine ls_ex (some 36) (.bool false) rfl rfl (exec_pick _ _ _ rfl false rfl (.bool false) rfl) ?_
          go_frame
          refine wpList_nil ?_
          go_upto_region 4 with (fail)
          refine wp_region_lit ?_
          refine ls_ex (some 10) (.int .i64 i) rfl rfl (exec_move _ rfl (.int .i64 i) rfl) ?_
          go_frame
          refine ls_ex (some 11) (.int .i64 (i + 1)) rfl rfl (exec_add _ _ _ _ rfl i 1 (i + 1) rfl rfl (IntWalk.i64_in _ (by omega))) ?_
          go_frame
          refine ls_ex (some 4) (.int .i64 (i + 1)) rfl rfl (exec_assign _ rfl (.int .i64 (i + 1)) rfl) ?_
          go_frame
          refine wpList_nil ?_
          go_wp2_with fail
          go_roundw
          case rel => exact ⟨i + 1, _, by omega, by go_num, rfl, hB, by rw [← HT.out]; exact ho⟩
          case measure => simp [intOf]; omega
        · rcases Bool.eq_false_or_eq_true (zeroB (segm qs[i] 18 9)) with hz2 | hz2
          · have HZ0 := Lib.hid hz0
            have HZ1 := Lib.hid hz1
            have HZ2 := Lib.hid hz2
            have HT : Hid ((qs.take i).filter nzB = (qs.take (i + 1)).filter nzB) := Lib.hid (drop_no hlt (by unfold nzB; simp [hz0, hz1, hz2]))
            go_upto_region 3 with (fail)
            refine wp_region_lit ?_
            refine ls_ex (some 6) (.int .i64 i) rfl rfl (exec_move _ rfl (.int .i64 i) rfl) ?_
            go_frame
            refine ls_ex (some 7) (.slice (some ⟨b, off, none⟩) qs.length c) rfl rfl (exec_move _ rfl (.slice (some ⟨b, off, none⟩) qs.length c) rfl) ?_
            go_frame
            refine ls_ex (some 8) (.int .i64 qs.length) rfl rfl (exec_len _ 26 53 rfl ((some ⟨b, off, none⟩)) qs.length c rfl Try.underlying26) ?_
            go_frame
            refine ls_ex (some 9) (.bool true) rfl rfl (exec_lss _ _ _ _ rfl i qs.length rfl rfl true (decide_eq_true (by omega))) ?_
            go_frame
            refine wpList_nil ?_
            go_upto_region 5 with (fail)
            refine wp_region_lit ?_
            refine ls_ex (some 12) (.slice (some ⟨b, off, none⟩) qs.length c) rfl rfl (exec_move _ rfl (.slice (some ⟨b, off, none⟩) qs.length c) rfl) ?_
            go_frame
            refine ls_ex (some 13) (.int .i64 i) rfl rfl (exec_move _ rfl (.int .i64 i) rfl) ?_
            go_frame
            refine ls_ex (some 14) (.pointer (some ⟨b, off + i * 27, none⟩)) rfl rfl (exec_index_slice _ 53 _ _ rfl b off qs.length c i 27 rfl rfl Try.underlying26 (by kernel_rfl) (by omega)) ?_
            go_frame
            refine ls_ex (some 15) (.pointer (some ⟨b, off + i * 27, none⟩)) rfl rfl (exec_fieldAddr 53 _ 0 rfl _ (by kernel_rfl)) ?_
            go_frame
            refine ls_ex (some 16) (.agg (u8s (segm qs[i] 0 9))) rfl rfl (exec_load_cells 51 _ rfl b (off + i * 27) rfl (segm qs[i] 0 9) _ 9 (Rd.cDf0 (hR.keep hB) hlt) Try.underlying51 rfl (by kernel_rfl) (segm_len (by rw [Hq27.out]; omega))) ?_
            go_frame
            refine ls_op rfl (fun K' hK' => ?_)
            have lz16 := hB.size
            refine wp_call1 (some 17) rfl 52 _ _ rfl (fun args w => by kernel_rfl) _ rfl _ (l01Zero_c (segm qs[i] 0 9) (segm_bytes hq (by omega)) _) (fun e Wz14 h => ?_)
            obtain ⟨rfl, bz15⟩ := h
            replace hB := below_after hB bz15
            replace ho := ho.below bz15
            rw [HZ0.out]
            clear bz15
            refine ⟨_, rfl, ?_⟩
            refine hK' _ _ ?_
            clear hK' K'
            go_frame
            refine ls_ex (some 18) (.bool true) rfl rfl (exec_not _ _ rfl false rfl) ?_
            go_frame
            refine ls_ex (some 19) (.bool true) rfl rfl (exec_move _ rfl (.bool true) rfl) ?_
            go_frame
            refine ls_ex_g (some 20) (.slice (some ⟨b, off, none⟩) qs.length c) rfl rfl (exec_move _ rfl (.slice (some ⟨b, off, none⟩) qs.length c) rfl) ?_
            go_frame
            refine ls_ex_g (some 21) (.int .i64 i) rfl rfl (exec_move _ rfl (.int .i64 i) rfl) ?_
            go_frame
            refine ls_ex_g (some 22) (.pointer (some ⟨b, off + i * 27, none⟩)) rfl rfl (exec_index_slice _ 53 _ _ rfl b off qs.length c i 27 rfl rfl Try.underlying26 (by kernel_rfl) (by omega)) ?_
            go_frame
            refine ls_ex_g (some 23) (.pointer (some ⟨b, off + i * 27 + 9, none⟩)) rfl rfl (exec_fieldAddr 53 _ 1 rfl _ (by kernel_rfl)) ?_
            go_frame
            refine ls_ex_g (some 24) (.agg (u8s (segm qs[i] 9 9))) rfl rfl (exec_load_cells 51 _ rfl b (off + i * 27 + 9) rfl (segm qs[i] 9 9) _ 9 (Rd.cDf9 (hR.keep hB) hlt) Try.underlying51 rfl (by kernel_rfl) (segm_len (by rw [Hq27.out]; omega))) ?_
            go_frame
            refine ls_op_g rfl (fun K' hK' => ?_)
            have lz19 := hB.size
            refine wp_call1 (some 25) rfl 52 _ _ rfl (fun args w => by kernel_rfl) _ rfl _ (l01Zero_c (segm qs[i] 9 9) (segm_bytes hq (by omega)) _) (fun e Wz17 h => ?_)
            obtain ⟨rfl, bz18⟩ := h
            replace hB := below_after hB bz18
            replace ho := ho.below bz18
            rw [HZ1.out]
            clear bz18
            refine ⟨_, rfl, ?_⟩
            refine hK' _ _ ?_
            clear hK' K'
            go_frame
            refine ls_ex_g (some 26) (.bool true) rfl rfl (exec_not _ _ rfl false rfl) ?_
            go_frame
            refine ls_ex (some 27) (.bool true) rfl rfl (exec_pick _ _ _ rfl true rfl (.bool true) rfl) ?_
            go_frame
            refine ls_ex (some 28) (.bool true) rfl rfl (exec_move _ rfl (.bool true) rfl) ?_
            go_frame
            refine ls_ex_g (some 29) (.slice (some ⟨b, off, none⟩) qs.length c) rfl rfl (exec_move _ rfl (.slice (some ⟨b, off, none⟩) qs.length c) rfl) ?_
            go_frame
            refine ls_ex_g (some 30) (.int .i64 i) rfl rfl (exec_move _ rfl (.int .i64 i) rfl) ?_
            go_frame
            refine ls_ex_g (some 31) (.pointer (some ⟨b, off + i * 27, none⟩)) rfl rfl (exec_index_slice _ 53 _ _ rfl b off qs.length c i 27 rfl rfl Try.underlying26 (by kernel_rfl) (by omega)) ?_
            go_frame
            refine ls_ex_g (some 32) (.pointer (some ⟨b, off + i * 27 + 18, none⟩)) rfl rfl (exec_fieldAddr 53 _ 2 rfl _ (by kernel_rfl)) ?_
            go_frame
            refine ls_ex_g (some 33) (.agg (u8s (segm qs[i] 18 9))) rfl rfl (exec_load_cells 51 _ rfl b (off + i * 27 + 18) rfl (segm qs[i] 18 9) _ 9 (Rd.cDf18 (hR.keep hB) hlt) Try.underlying51 rfl (by kernel_rfl) (segm_len (by rw [Hq27.out]; omega))) ?_
            go_frame
            refine ls_op_g rfl (fun K' hK' => ?_)
            have lz22 := hB.size
            refine wp_call1 (some 34) rfl 52 _ _ rfl (fun args w => by kernel_rfl) _ rfl _ (l01Zero_c (segm qs[i] 18 9) (segm_bytes hq (by omega)) _) (fun e Wz20 h => ?_)
            obtain ⟨rfl, bz21⟩ := h
            replace hB := below_after hB bz21
            replace ho := ho.below bz21
            rw [HZ2.out]
            clear bz21
            refine ⟨_, rfl, ?_⟩
            refine hK' _ _ ?_
            clear hK' K'
            go_frame
            refine ls_ex_g (some 35) (.bool false) rfl rfl (exec_not _ _ rfl true rfl) ?_
            go_frame
            refine ls_ex (some 36) (.bool false) rfl rfl (exec_pick _ _ _ rfl true rfl (.bool false) rfl) ?_
            go_frame
            refine wpList_nil ?_
            go_upto_region 4 with (fail)
            refine wp_region_lit ?_
            refine ls_ex (some 10) (.int .i64 i) rfl rfl (exec_move _ rfl (.int .i64 i) rfl) ?_
            go_frame
            refine ls_ex (some 11) (.int .i64 (i + 1)) rfl rfl (exec_add _ _ _ _ rfl i 1 (i + 1) rfl rfl (IntWalk.i64_in _ (by omega))) ?_
            go_frame
            refine ls_ex (some 4) (.int .i64 (i + 1)) rfl rfl (exec_assign _ rfl (.int .i64 (i + 1)) rfl) ?_
            go_frame
            refine wpList_nil ?_
            go_wp2_with fail
            go_roundw
            case rel => exact ⟨i + 1, _, by omega, by go_num, rfl, hB, by rw [← HT.out]; exact ho⟩
            case measure => simp [intOf]; omega
          · have HZ0 := Lib.hid hz0
            have HZ1 := Lib.hid hz1
            have HZ2 := Lib.hid hz2
            have HT : Hid ((qs.take i).filter nzB ++ [qs[i]] = (qs.take (i + 1)).filter nzB) := Lib.hid (drop_yes hlt (by unfold nzB; simp [hz0, hz1, hz2]))
            obtain ⟨L, hL⟩ : ∃ z9, ((qs.take i).filter nzB).length = z9 := ⟨_, rfl⟩
            have hLb : L ≤ i := by rw [← hL]; exact Nat.le_trans (List.length_filter_le _ _) (by simp; omega)
            obtain ⟨A9, c9, rfl⟩ := Own.rdN2 ho hL
            have HL1 : Hid (((qs.take (i + 1)).filter nzB).length = L + 1) := Lib.hid (by rw [← HT.out, List.length_append, hL]; rfl)
            have HL := Lib.hid hL
            clear hL
            go_upto_region 3 with (fail)
            refine wp_region_lit ?_
            refine ls_ex (some 6) (.int .i64 i) rfl rfl (exec_move _ rfl (.int .i64 i) rfl) ?_
            go_frame
            refine ls_ex (some 7) (.slice (some ⟨b, off, none⟩) qs.length c) rfl rfl (exec_move _ rfl (.slice (some ⟨b, off, none⟩) qs.length c) rfl) ?_
            go_frame
            refine ls_ex (some 8) (.int .i64 qs.length) rfl rfl (exec_len _ 26 53 rfl ((some ⟨b, off, none⟩)) qs.length c rfl Try.underlying26) ?_
            go_frame
            refine ls_ex (some 9) (.bool true) rfl rfl (exec_lss _ _ _ _ rfl i qs.length rfl rfl true (decide_eq_true (by omega))) ?_
            go_frame
            refine wpList_nil ?_
            go_upto_region 5 with (fail)
            refine wp_region_lit ?_
            refine ls_ex (some 12) (.slice (some ⟨b, off, none⟩) qs.length c) rfl rfl (exec_move _ rfl (.slice (some ⟨b, off, none⟩) qs.length c) rfl) ?_
            go_frame
            refine ls_ex (some 13) (.int .i64 i) rfl rfl (exec_move _ rfl (.int .i64 i) rfl) ?_
            go_frame
            refine ls_ex (some 14) (.pointer (some ⟨b, off + i * 27, none⟩)) rfl rfl (exec_index_slice _ 53 _ _ rfl b off qs.length c i 27 rfl rfl Try.underlying26 (by kernel_rfl) (by omega)) ?_
            go_frame
            refine ls_ex (some 15) (.pointer (some ⟨b, off + i * 27, none⟩)) rfl rfl (exec_fieldAddr 53 _ 0 rfl _ (by kernel_rfl)) ?_
            go_frame
            refine ls_ex (some 16) (.agg (u8s (segm qs[i] 0 9))) rfl rfl (exec_load_cells 51 _ rfl b (off + i * 27) rfl (segm qs[i] 0 9) _ 9 (Rd.cDf0 (hR.keep hB) hlt) Try.underlying51 rfl (by kernel_rfl) (segm_len (by rw [Hq27.out]; omega))) ?_
            go_frame
            refine ls_op rfl (fun K' hK' => ?_)
            have lz25 := hB.size
            refine wp_call1 (some 17) rfl 52 _ _ rfl (fun args w => by kernel_rfl) _ rfl _ (l01Zero_c (segm qs[i] 0 9) (segm_bytes hq (by omega)) _) (fun e Wz23 h => ?_)
            obtain ⟨rfl, bz24⟩ := h
            replace hB := below_after hB bz24
            replace ho := ho.below bz24
            rw [HZ0.out]
            clear bz24
            refine ⟨_, rfl, ?_⟩
            refine hK' _ _ ?_
            clear hK' K'
            go_frame
            refine ls_ex (some 18) (.bool true) rfl rfl (exec_not _ _ rfl false rfl) ?_
            go_frame
            refine ls_ex (some 19) (.bool true) rfl rfl (exec_move _ rfl (.bool true) rfl) ?_
            go_frame
            refine ls_ex_g (some 20) (.slice (some ⟨b, off, none⟩) qs.length c) rfl rfl (exec_move _ rfl (.slice (some ⟨b, off, none⟩) qs.length c) rfl) ?_
            go_frame
            refine ls_ex_g (some 21) (.int .i64 i) rfl rfl (exec_move _ rfl (.int .i64 i) rfl) ?_
            go_frame
            refine ls_ex_g (some 22) (.pointer (some ⟨b, off + i * 27, none⟩)) rfl rfl (exec_index_slice _ 53 _ _ rfl b off qs.length c i 27 rfl rfl Try.underlying26 (by kernel_rfl) (by omega)) ?_
            go_frame
            refine ls_ex_g (some 23) (.pointer (some ⟨b, off + i * 27 + 9, none⟩)) rfl rfl (exec_fieldAddr 53 _ 1 rfl _ (by kernel_rfl)) ?_
            go_frame
            refine ls_ex_g (some 24) (.agg (u8s (segm qs[i] 9 9))) rfl rfl (exec_load_cells 51 _ rfl b (off + i * 27 + 9) rfl (segm qs[i] 9 9) _ 9 (Rd.cDf9 (hR.keep hB) hlt) Try.underlying51 rfl (by kernel_rfl) (segm_len (by rw [Hq27.out]; omega))) ?_
            go_frame
            refine ls_op_g rfl (fun K' hK' => ?_)
            have lz28 := hB.size
            refine wp_call1 (some 25) rfl 52 _ _ rfl (fun args w => by kernel_rfl) _ rfl _ (l01Zero_c (segm qs[i] 9 9) (segm_bytes hq (by omega)) _) (fun e Wz26 h => ?_)
            obtain ⟨rfl, bz27⟩ := h
            replace hB := below_after hB bz27
            replace ho := ho.below bz27
            rw [HZ1.out]
            clear bz27
            refine ⟨_, rfl, ?_⟩
            refine hK' _ _ ?_
            clear hK' K'
            go_frame
            refine ls_ex_g (some 26) (.bool true) rfl rfl (exec_not _ _ rfl false rfl) ?_
            go_frame
            refine ls_ex (some 27) (.bool true) rfl rfl (exec_pick _ _ _ rfl true rfl (.bool true) rfl) ?_
            go_frame
            refine ls_ex (some 28) (.bool true) rfl rfl (exec_move _ rfl (.bool true) rfl) ?_
            go_frame
            refine ls_ex_g (some 29) (.slice (some ⟨b, off, none⟩) qs.length c) rfl rfl (exec_move _ rfl (.slice (some ⟨b, off, none⟩) qs.length c) rfl) ?_
            go_frame
            refine ls_ex_g (some 30) (.int .i64 i) rfl rfl (exec_move _ rfl (.int .i64 i) rfl) ?_
            go_frame
            refine ls_ex_g (some 31) (.pointer (some ⟨b, off + i * 27, none⟩)) rfl rfl (exec_index_slice _ 53 _ _ rfl b off qs.length c i 27 rfl rfl Try.underlying26 (by kernel_rfl) (by omega)) ?_
            go_frame
            refine ls_ex_g (some 32) (.pointer (some ⟨b, off + i * 27 + 18, none⟩)) rfl rfl (exec_fieldAddr 53 _ 2 rfl _ (by kernel_rfl)) ?_
            go_frame
            refine ls_ex_g (some 33) (.agg (u8s (segm qs[i] 18 9))) rfl rfl (exec_load_cells 51 _ rfl b (off + i * 27 + 18) rfl (segm qs[i] 18 9) _ 9 (Rd.cDf18 (hR.keep hB) hlt) Try.underlying51 rfl (by kernel_rfl) (segm_len (by rw [Hq27.out]; omega))) ?_
            go_frame
            refine ls_op_g rfl (fun K' hK' => ?_)
            have lz31 := hB.size
            refine wp_call1 (some 34) rfl 52 _ _ rfl (fun args w => by kernel_rfl) _ rfl _ (l01Zero_c (segm qs[i] 18 9) (segm_bytes hq (by omega)) _) (fun e Wz29 h => ?_)
            obtain ⟨rfl, bz30⟩ := h
            replace hB := below_after hB bz30
            replace ho := ho.below bz30
            rw [HZ2.out]
            clear bz30
            refine ⟨_, rfl, ?_⟩
            refine hK' _ _ ?_
            clear hK' K'
            go_frame
            refine ls_ex_g (some 35) (.bool true) rfl rfl (exec_not _ _ rfl false rfl) ?_
            go_frame
            refine ls_ex (some 36) (.bool true) rfl rfl (exec_pick _ _ _ rfl true rfl (.bool true) rfl) ?_
            go_frame
            refine wpList_nil ?_
            go_upto_region 6 with (fail)
            refine wp_region_lit ?_
            refine ls_ex (some 37) (.slice A9 L c9) rfl rfl (exec_move _ rfl (.slice A9 L c9) rfl) ?_
            go_frame
            refine ls_ex (some 38) (.slice (some ⟨b, off, none⟩) qs.length c) rfl rfl (exec_move _ rfl (.slice (some ⟨b, off, none⟩) qs.length c) rfl) ?_
            go_frame
            refine ls_ex (some 39) (.int .i64 i) rfl rfl (exec_move _ rfl (.int .i64 i) rfl) ?_
            go_frame
            refine ls_ex (some 40) (.pointer (some ⟨b, off + i * 27, none⟩)) rfl rfl (exec_index_slice _ 53 _ _ rfl b off qs.length c i 27 rfl rfl Try.underlying26 (by kernel_rfl) (by omega)) ?_
            go_frame
            refine ls_ex (some 41) (.agg (u8s (qs[i]))) rfl rfl (exec_load_cells 53 _ rfl b (off + i * 27) rfl (qs[i]) _ 27 (Rd.cD27 (hR.keep hB) hlt) Try.underlying53 rfl (by kernel_rfl) (Hq27.out)) ?_
            go_frame
            refine ls_op rfl (fun K' hK' => ?_)
            have lz32 := hB.size
            refine wp_slice1 (some 42) rfl 26 53 _ rfl (qs[i]) rfl Try.underlying26 infoProd Hq27.out (fun Wz33 nnz34 => ?_)
            have bz35 := nnz34.below (Below.refl _ _) (Nat.le_refl _)
            replace hB := below_after hB bz35
            replace ho := ho.below bz35
            have hqz36 : At Wz33 Wz29.heap.size (.cells (u8s (qs[i])) 53 (0, 0)) := nnz34.at_
            refine hK' _ _ ?_
            clear hK' K' nnz34 bz35
            go_frame
            refine ls_op rfl (fun K' hK' => ?_)
            have lz40 := hB.size
            have lz41 := hqz36.lt
            refine wp_appP (some 43) rfl _ _ rfl (.slice A9 L c9) ((qs.take i).filter nzB) (qs[i]) rfl ho Wz29.heap.size rfl hqz36 Hq27.out (by rw [HL.out]; omega) (by omega) (fun v8 Wz37 noz39 grz38 => ?_)
            rw [HT.out] at noz39
            obtain ⟨A8, c8, rfl⟩ := Own.rdN2 noz39 (n := L + 1) HL1.out
            replace hB := below_grown hB grz38 ho (by omega)
            replace ho := noz39
            refine hK' _ _ ?_
            clear hK' K' grz38 hqz36
            go_frame
            refine ls_ex (some 3) (.slice A8 (L + 1) c8) rfl rfl (exec_assign _ rfl (.slice A8 (L + 1) c8) rfl) ?_
            go_frame
            refine wpList_nil ?_
            go_upto_region 4 with (fail)
            refine wp_region_lit ?_
            refine ls_ex (some 10) (.int .i64 i) rfl rfl (exec_move _ rfl (.int .i64 i) rfl) ?_
            go_frame
            refine ls_ex (some 11) (.int .i64 (i + 1)) rfl rfl (exec_add _ _ _ _ rfl i 1 (i + 1) rfl rfl (IntWalk.i64_in _ (by omega))) ?_
            go_frame
            refine ls_ex (some 4) (.int .i64 (i + 1)) rfl rfl (exec_assign _ rfl (.int .i64 (i + 1)) rfl) ?_
            go_frame
            refine wpList_nil ?_
            go_wp2_with fail
            go_roundw
            case rel => exact ⟨i + 1, _, by omega, by go_num, rfl, hB, ho⟩
            case measure => simp [intOf]; omega
    · have HE : Hid ((qs.take i).filter nzB = qs.filter nzB) := Lib.hid (by rw [show i = qs.length by omega, List.take_length])
      rw [HE.out] at ho
      go_upto_region 3 with (fail)
      refine wp_region_lit ?_
      refine ls_ex (some 6) (.int .i64 i) rfl rfl (exec_move _ rfl (.int .i64 i) rfl) ?_
      go_frame
      refine ls_ex (some 7) (.slice A qs.length c) rfl rfl (exec_move _ rfl (.slice A qs.length c) rfl) ?_
      go_frame
      refine ls_ex (some 8) (.int .i64 qs.length) rfl rfl (exec_len _ 26 53 rfl A qs.length c rfl Try.underlying26) ?_
      go_frame
      refine ls_ex (some 9) (.bool false) rfl rfl (exec_lss _ _ _ _ rfl i qs.length rfl rfl false (decide_eq_false (by omega))) ?_
      go_frame
      refine wpList_nil ?_
      go_upto_region 7 with (fail)
      refine wp_region_lit ?_
      refine ls_ex (some 44) (v) rfl rfl (exec_move _ rfl (v) rfl) ?_
      go_frame
      refine ls_ex (some 2) (v) rfl rfl (exec_assign _ rfl (v) rfl) ?_
      go_frame
      refine wpList_nil ?_
      go_wp2_with fail
      go_ret
      exact ⟨_, rfl, ho, hB⟩
end Go.Proofs.Ytopdfblfhdooaaa
