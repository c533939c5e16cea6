/-
  impl.isTwigFor, IsBorder. (Made by mktw5.py.)
-/
import Derived.Test.YtnlidegmllcdhaaTw4
namespace Go.Proofs.Ytnlidegmllcdhaa
open Go.RowKit
set_option maxRecDepth 100000
theorem all_more {f : Nat → Bool} {i : Nat} (h : ∀ j, j < i → f j = true) (h1 : f i = true) : ∀ j, j < i + 1 → f j = true := fun j hj => by
  by_cases e : j = i
  · rw [e, h1]
  · exact h j (by omega)
theorem exec_mkfn1 {P : Program} {o : Oper} {a : Act} {w : World} (f : FuncId) (x : Operand) (ho : o.op = .makeFunc (.func f) #[] #[x]) (u : Value) (hx : a.eval x = u) : (execOp a.eval o).run P w = .ok (.value (.func (.func f) #[] #[u])) w := by
  subst hx
  unfold execOp
  simp only [ho]
  simp [go_sem]
theorem exec_index_part4 {o : Oper} {a : Act} {w : World} (x i : Operand) (ho : o.op = .index 62 x i) (k : Nat) (f : List Nat) (hx : a.eval x = .agg (u8s (partsL f))) (hi : a.eval i = .int .i64 k) (hk : k < 4) :
    (execOp a.eval o).run Try.prog w = .ok (.value (.agg (u8s (partL f k)))) w := by
  have h := exec_index_seg (P := Try.prog) (w := w) 62 55 x i ho 4 k 9 (partsL f) _ hx hi Try.underlying62 Try.underlying55 rfl (by kernel_rfl) hk
  rwa [partsL_seg f k hk] at h
attribute [local irreducible] wpList
theorem al__3_impl_shape {o : Oper} {a : Act} {w : World} (ho : o.op = .alloc 105) : (execOp a.eval o).run Try.prog w = .ok (.value (.pointer (some ⟨w.heap.size, 0, none⟩))) (w.alloc (.cells #[.int .i64 0, .int .i64 0, .int .i64 0, .int .i64 0, .int .i64 0, .int .i64 0] 105 (0, 0))) := by
  unfold execOp
  rw [ho]
  kernel_rfl
theorem al_impl_Form {o : Oper} {a : Act} {w : World} (ho : o.op = .alloc 55) : (execOp a.eval o).run Try.prog w = .ok (.value (.pointer (some ⟨w.heap.size, 0, none⟩))) (w.alloc (.cells (u8s (List.replicate 9 0)) 55 (0, 0))) := by
  unfold execOp
  rw [ho]
  kernel_rfl
theorem al_impl_Series {o : Oper} {a : Act} {w : World} (ho : o.op = .alloc 50) : (execOp a.eval o).run Try.prog w = .ok (.value (.pointer (some ⟨w.heap.size, 0, none⟩))) (w.alloc (.cells (u8s (List.replicate 36 0)) 50 (0, 0))) := by
  unfold execOp
  rw [ho]
  kernel_rfl
set_option maxHeartbeats 12800000 in
theorem isTwigFor_c (p n m k : Int) (A : Option Addr) (l c : Nat) (t : List Nat) (ht : Bytes 108 t) (hs : sizesB p n m k = true) (w : World) :
    Calls Try.prog 55 #[.agg #[.int .i64 p, .int .i64 n, .int .i64 m, .int .i64 k, .slice A l c], .agg (u8s t)] w (fun e w' => e = .returned (.bool (twigB p n m k t)) ∧ Below w.heap.size w w') := by
  have hB := Below.refl w.heap.size w
  have HPp := Lib.hid (primeB_pos (sizesB_parts hs).1)
  have HN := Lib.hid (sizesB_parts hs).2.1
  have HM := Lib.hid (sizesB_parts hs).2.2.1
  have HK := Lib.hid (sizesB_parts hs).2.2.2
  clear hs
  go_enter Try.func55, Try.ntmps55
  go_upto_region 0 with (fail)
  refine wp_region_lit ?_
  refine ls_op rfl (fun K' hK' => ?_)
  have lz1 := hB.size
  refine wp_new (some 2) rfl (exec_box 33 _ rfl (#[.int .i64 p, .int .i64 n, .int .i64 m, .int .i64 k, .slice A l c]) rfl) (fun Wz2 nnz3 => ?_)
  have bz4 := nnz3.below (Below.refl _ _) (Nat.le_refl _)
  replace hB := below_after hB bz4
  have hz5 : At Wz2 w.heap.size (.cells #[.int .i64 p, .int .i64 n, .int .i64 m, .int .i64 k, .slice A l c] 33 (0, 0)) := nnz3.at_
  refine hK' _ _ ?_
  clear hK' K' nnz3 bz4
  go_frame
  refine ls_op rfl (fun K' hK' => ?_)
  have lz6 := hB.size
  have lz7 := hz5.lt
  refine wp_new (some 3) rfl (exec_box 52 _ rfl (u8s (t)) rfl) (fun Wz8 nnz9 => ?_)
  have bz10 := nnz9.below (Below.refl _ _) (Nat.le_refl _)
  replace hB := below_after hB bz10
  replace hz5 := hz5.after bz10
  have hz11 : At Wz8 Wz2.heap.size (.cells (u8s (t)) 52 (0, 0)) := nnz9.at_
  refine hK' _ _ ?_
  clear hK' K' nnz9 bz10
  go_frame
  refine ls_ex (some 4) (.bool false) rfl rfl (exec_assign _ rfl (.bool false) rfl) ?_
  go_frame
  refine wpList_nil ?_
  go_upto_region 1 with (fail)
  refine wp_region_lit ?_
  refine ls_ex (some 10) (.agg #[.int .i64 p, .int .i64 n, .int .i64 m, .int .i64 k, .slice A l c]) rfl rfl (exec_load_all 33 _ rfl w.heap.size rfl _ _ _ hz5 Try.underlying33 rfl 5 (by kernel_rfl) rfl) ?_
  go_frame
  refine ls_op rfl (fun K' hK' => ?_)
  have lz14 := hB.size
  have lz15 := hz5.lt
  have lz16 := hz11.lt
  refine wp_call2 (some 11) rfl 33 _ _ _ rfl (fun args w => by kernel_rfl) _ _ rfl rfl _ (schemeLike_c p n m k A none l c 0 0 _) (fun e Wz12 h => ?_)
  obtain ⟨rfl, bz13⟩ := h
  replace hB := below_after hB bz13
  replace hz5 := hz5.after bz13
  replace hz11 := hz11.after bz13
  clear bz13
  refine ⟨_, rfl, ?_⟩
  refine hK' _ _ ?_
  clear hK' K'
  go_frame
  refine ls_op rfl (fun K' hK' => ?_)
  have lz19 := hB.size
  have lz20 := hz5.lt
  have lz21 := hz11.lt
  refine wp_call1 (some 12) rfl 67 _ _ rfl (fun args w => by kernel_rfl) _ rfl _ (shapesOf_c p n m k (.slice none 0 0) _) (fun e Wz17 h => ?_)
  obtain ⟨rfl, bz18⟩ := h
  replace hB := below_after hB bz18
  replace hz5 := hz5.after bz18
  replace hz11 := hz11.after bz18
  clear bz18
  refine ⟨_, rfl, ?_⟩
  refine hK' _ _ ?_
  clear hK' K'
  go_frame
  refine ls_op rfl (fun K' hK' => ?_)
  have lz22 := hB.size
  have lz23 := hz5.lt
  have lz24 := hz11.lt
  refine wp_new (some 5) rfl (al__3_impl_shape rfl) (fun Wz25 nnz26 => ?_)
  have bz27 := nnz26.below (Below.refl _ _) (Nat.le_refl _)
  replace hB := below_after hB bz27
  replace hz5 := hz5.after bz27
  replace hz11 := hz11.after bz27
  have hz28 : At Wz25 Wz17.heap.size (.cells #[.int .i64 0, .int .i64 0, .int .i64 0, .int .i64 0, .int .i64 0, .int .i64 0] 105 (0, 0)) := nnz26.at_
  refine hK' _ _ ?_
  clear hK' K' nnz26 bz27
  go_frame
  refine ls_op rfl (fun K' hK' => ?_)
  refine wp_store_all 105 _ _ rfl rfl Wz17.heap.size rfl #[.int .i64 n, .int .i64 m, .int .i64 m, .int .i64 k, .int .i64 n, .int .i64 k] rfl _ _ hz28 6 (by kernel_rfl) rfl rfl (by intro x hx; simp at hx; rcases hx with rfl | rfl | rfl | rfl | rfl | rfl <;> rfl) (fun Wz29 pz30 => ?_)
  replace hB := pz30.below hB (by omega)
  replace hz5 := pz30.other hz5 (by omega)
  replace hz11 := pz30.other hz11 (by omega)
  replace hz28 : At Wz29 Wz17.heap.size (.cells #[.int .i64 n, .int .i64 m, .int .i64 m, .int .i64 k, .int .i64 n, .int .i64 k] 105 (0, 0)) := pz30.at_
  refine hK' _ _ ?_
  clear hK' K' pz30
  refine wpList_nil ?_
  go_upto_region 2 with (fail)
  refine wp_region_lit ?_
  refine ls_ex (some 13) (.agg (u8s (t))) rfl rfl (exec_load_all 52 _ rfl Wz2.heap.size rfl _ _ _ hz11 Try.underlying52 rfl 108 (by kernel_rfl) ((u8s_size _).trans ht.len)) ?_
  go_frame
  refine ls_op rfl (fun K' hK' => ?_)
  have lz33 := hB.size
  have lz34 := hz5.lt
  have lz35 := hz11.lt
  have lz36 := hz28.lt
  refine wp_call1 (some 14) rfl 77 _ _ rfl (fun args w => by kernel_rfl) _ rfl _ (seriesOf_c t ht _) (fun e Wz31 h => ?_)
  obtain ⟨rfl, bz32⟩ := h
  replace hB := below_after hB bz32
  replace hz5 := hz5.after bz32
  replace hz11 := hz11.after bz32
  replace hz28 := hz28.after bz32
  clear bz32
  refine ⟨_, rfl, ?_⟩
  refine hK' _ _ ?_
  clear hK' K'
  go_frame
  refine ls_ex (some 15) (.int .i64 0) rfl rfl (exec_move _ rfl (.int .i64 0) rfl) ?_
  go_frame
  refine wpList_nil ?_
  go_wp2_with fail
  go_loopw [15] (fun s15 wr => ∃ a : Nat, a ≤ 3 ∧ s15 = .int .i64 a ∧ Hid (∀ j, j < a → sideS p n m k t j = true) ∧ Below w.heap.size w wr ∧ At wr w.heap.size (.cells #[.int .i64 p, .int .i64 n, .int .i64 m, .int .i64 k, .slice A l c] 33 (0, 0)) ∧ At wr Wz17.heap.size (.cells #[.int .i64 n, .int .i64 m, .int .i64 m, .int .i64 k, .int .i64 n, .int .i64 k] 105 (0, 0))) (fun s15 _ => 3 - (intOf s15).toNat)
  case atStart => exact ⟨0, by omega, rfl, Lib.hid (fun j hj => by omega), hB, hz5, hz28⟩
  case round =>
    clear hB hz5 hz11 hz28
    obtain ⟨a, ha, rfl, HA, hB, h0, h1⟩ := hrel
    by_cases ha3 : a < 3
    · have hs : Bytes 36 (segm t (a * 36) 36) := segm_bytes ht (by omega)
      have HsL := Lib.hid hs.len
      cases hz : (segm t (a * 36) 36 == List.replicate 36 0) with
      | true =>
        have HNo : Hid (twigB p n m k t = false) := Lib.hid (twigB_no ha3 (serB_zero hz))
        have HZ := Lib.hid hz
        clear hz
        go_upto_region 3 with (fail)
        refine wp_region_lit ?_
        refine ls_ex (some 16) (.bool true) rfl rfl (exec_lss _ _ _ _ rfl a 3 rfl rfl true (decide_eq_true (by omega))) ?_
        go_frame
        refine wpList_nil ?_
        go_upto_region 4 with (fail)
        refine wp_region_lit ?_
        refine ls_ex (some 17) (.int .i64 a) rfl rfl (exec_move _ rfl (.int .i64 a) rfl) ?_
        go_frame
        refine ls_ex (some 18) (.agg (u8s (segm t (a * 36) 36))) rfl rfl (exec_index_seg 114 50 _ _ rfl 3 a 36 t _ rfl rfl Try.underlying114 Try.underlying50 rfl (by kernel_rfl) ha3) ?_
        go_frame
        refine ls_op rfl (fun K' hK' => ?_)
        have lz37 := hB.size
        have lz38 := h0.lt
        have lz39 := h1.lt
        refine wp_new (some 7) rfl (al_impl_Series rfl) (fun Wz40 nnz41 => ?_)
        have bz42 := nnz41.below (Below.refl _ _) (Nat.le_refl _)
        replace hB := below_after hB bz42
        replace h0 := h0.after bz42
        replace h1 := h1.after bz42
        have hz43 : At Wz40 wr.heap.size (.cells (u8s (List.replicate 36 0)) 50 (0, 0)) := nnz41.at_
        refine hK' _ _ ?_
        clear hK' K' nnz41 bz42
        go_frame
        refine ls_ex (some 6) (.int .i64 a) rfl rfl (exec_assign _ rfl (.int .i64 a) rfl) ?_
        go_frame
        refine ls_op rfl (fun K' hK' => ?_)
        refine wp_store_bytes 50 _ _ rfl rfl wr.heap.size rfl (segm t (a * 36) 36) rfl _ _ hz43 36 (by kernel_rfl) HsL.out (by simp) (fun Wz44 pz45 => ?_)
        replace hB := pz45.below hB (by omega)
        replace h0 := pz45.other h0 (by omega)
        replace h1 := pz45.other h1 (by omega)
        replace hz43 : At Wz44 wr.heap.size (.cells (u8s (segm t (a * 36) 36)) 50 (0, 0)) := pz45.at_
        refine hK' _ _ ?_
        clear hK' K' pz45
        refine wpList_nil ?_
        go_upto_region 5 with (fail)
        refine wp_region_lit ?_
        refine ls_ex (some 19) (.agg (u8s (segm t (a * 36) 36))) rfl rfl (exec_load_all 50 _ rfl wr.heap.size rfl _ _ _ hz43 Try.underlying50 rfl 36 (by kernel_rfl) ((u8s_size _).trans HsL.out)) ?_
        go_frame
        refine ls_ex (some 20) (.agg (u8s (List.replicate 36 0))) rfl rfl (exec_build_nil 50 rfl _ (by kernel_rfl)) ?_
        go_frame
        refine ls_ex (some 21) (.bool true) rfl rfl (exec_eql_ser _ _ _ rfl (segm t (a * 36) 36) (List.replicate 36 0) rfl rfl HsL.out (by simp) true HZ.out) ?_
        go_frame
        refine wpList_nil ?_
        go_upto_region 6 with (fail)
        refine wp_region_lit ?_
        refine ls_ex (some 4) (.bool false) rfl rfl (exec_assign _ rfl (.bool false) rfl) ?_
        go_frame
        refine wpList_nil ?_
        go_wp2_with fail
        go_ret
        exact ⟨by rw [HNo.out]; rfl, hB⟩
      | false =>
        have HZ := Lib.hid hz
        clear hz
        go_upto_region 3 with (fail)
        refine wp_region_lit ?_
        refine ls_ex (some 16) (.bool true) rfl rfl (exec_lss _ _ _ _ rfl a 3 rfl rfl true (decide_eq_true (by omega))) ?_
        go_frame
        refine wpList_nil ?_
        go_upto_region 4 with (fail)
        refine wp_region_lit ?_
        refine ls_ex (some 17) (.int .i64 a) rfl rfl (exec_move _ rfl (.int .i64 a) rfl) ?_
        go_frame
        refine ls_ex (some 18) (.agg (u8s (segm t (a * 36) 36))) rfl rfl (exec_index_seg 114 50 _ _ rfl 3 a 36 t _ rfl rfl Try.underlying114 Try.underlying50 rfl (by kernel_rfl) ha3) ?_
        go_frame
        refine ls_op rfl (fun K' hK' => ?_)
        have lz46 := hB.size
        have lz47 := h0.lt
        have lz48 := h1.lt
        refine wp_new (some 7) rfl (al_impl_Series rfl) (fun Wz49 nnz50 => ?_)
        have bz51 := nnz50.below (Below.refl _ _) (Nat.le_refl _)
        replace hB := below_after hB bz51
        replace h0 := h0.after bz51
        replace h1 := h1.after bz51
        have hz52 : At Wz49 wr.heap.size (.cells (u8s (List.replicate 36 0)) 50 (0, 0)) := nnz50.at_
        refine hK' _ _ ?_
        clear hK' K' nnz50 bz51
        go_frame
        refine ls_ex (some 6) (.int .i64 a) rfl rfl (exec_assign _ rfl (.int .i64 a) rfl) ?_
        go_frame
        refine ls_op rfl (fun K' hK' => ?_)
        refine wp_store_bytes 50 _ _ rfl rfl wr.heap.size rfl (segm t (a * 36) 36) rfl _ _ hz52 36 (by kernel_rfl) HsL.out (by simp) (fun Wz53 pz54 => ?_)
        replace hB := pz54.below hB (by omega)
        replace h0 := pz54.other h0 (by omega)
        replace h1 := pz54.other h1 (by omega)
        replace hz52 : At Wz53 wr.heap.size (.cells (u8s (segm t (a * 36) 36)) 50 (0, 0)) := pz54.at_
        refine hK' _ _ ?_
        clear hK' K' pz54
        refine wpList_nil ?_
        go_upto_region 5 with (fail)
        refine wp_region_lit ?_
        refine ls_ex (some 19) (.agg (u8s (segm t (a * 36) 36))) rfl rfl (exec_load_all 50 _ rfl wr.heap.size rfl _ _ _ hz52 Try.underlying50 rfl 36 (by kernel_rfl) ((u8s_size _).trans HsL.out)) ?_
        go_frame
        refine ls_ex (some 20) (.agg (u8s (List.replicate 36 0))) rfl rfl (exec_build_nil 50 rfl _ (by kernel_rfl)) ?_
        go_frame
        refine ls_ex (some 21) (.bool false) rfl rfl (exec_eql_ser _ _ _ rfl (segm t (a * 36) 36) (List.replicate 36 0) rfl rfl HsL.out (by simp) false HZ.out) ?_
        go_frame
        refine wpList_nil ?_
        go_upto_region 7 with (fail)
        refine wp_region_lit ?_
        refine ls_ex (some 22) (.agg (u8s (segm t (a * 36) 36))) rfl rfl (exec_load_all 50 _ rfl wr.heap.size rfl _ _ _ hz52 Try.underlying50 rfl 36 (by kernel_rfl) ((u8s_size _).trans HsL.out)) ?_
        go_frame
        refine ls_op rfl (fun K' hK' => ?_)
        have lz57 := hB.size
        have lz58 := h0.lt
        have lz59 := h1.lt
        have lz60 := hz52.lt
        refine wp_call1 (some 23) rfl 31 _ _ rfl (fun args w => by kernel_rfl) _ rfl _ (partsOf_c (segm t (a * 36) 36) hs _) (fun e Wz55 h => ?_)
        obtain ⟨rfl, bz56⟩ := h
        replace hB := below_after hB bz56
        replace h0 := h0.after bz56
        replace h1 := h1.after bz56
        replace hz52 := hz52.after bz56
        clear bz56
        refine ⟨_, rfl, ?_⟩
        refine hK' _ _ ?_
        clear hK' K'
        go_frame
        refine ls_ex (some 24) (.int .i64 0) rfl rfl (exec_move _ rfl (.int .i64 0) rfl) ?_
        go_frame
        refine wpList_nil ?_
        go_wp2_with fail
        obtain ⟨we, rfl⟩ : ∃ x : World, x = wr := ⟨_, rfl⟩
        go_loopw [24] (fun s24 wr => ∃ i : Nat, i ≤ 4 ∧ s24 = .int .i64 i ∧ Hid (∀ j, j < i → formB p (partL (segm t (a * 36) 36) j) (shR n m a * shC m k a) = true) ∧ Below w.heap.size w wr ∧ At wr w.heap.size (.cells #[.int .i64 p, .int .i64 n, .int .i64 m, .int .i64 k, .slice A l c] 33 (0, 0)) ∧ At wr Wz17.heap.size (.cells #[.int .i64 n, .int .i64 m, .int .i64 m, .int .i64 k, .int .i64 n, .int .i64 k] 105 (0, 0))) (fun s24 _ => 4 - (intOf s24).toNat)
        case atStart => exact ⟨0, by omega, rfl, Lib.hid (fun j hj => by omega), hB, h0, h1⟩
        case round =>
          clear hB h0 h1 hz52
          obtain ⟨i, hi, rfl, HI, hB, h0, h1⟩ := hrel
          by_cases hi4 : i < 4
          · cases hf : formB p (partL (segm t (a * 36) 36) i) (shR n m a * shC m k a) with
            | false =>
              have HNo : Hid (twigB p n m k t = false) := Lib.hid (twigB_no ha3 (serB_part_no hi4 hf))
              have HFm := Lib.hid hf
              clear hf
              go_upto_region 8 with (fail)
              refine wp_region_lit ?_
              refine ls_ex (some 25) (.bool true) rfl rfl (exec_lss _ _ _ _ rfl i 4 rfl rfl true (decide_eq_true (by omega))) ?_
              go_frame
              refine wpList_nil ?_
              go_upto_region 9 with (fail)
              refine wp_region_lit ?_
              refine ls_ex (some 26) (.agg (u8s (partL (segm t (a * 36) 36) i))) rfl rfl (exec_index_part4 _ _ rfl i (segm t (a * 36) 36) rfl rfl hi4) ?_
              go_frame
              refine ls_op rfl (fun K' hK' => ?_)
              have lz61 := hB.size
              have lz62 := h0.lt
              have lz63 := h1.lt
              refine wp_new (some 9) rfl (al_impl_Form rfl) (fun Wz64 nnz65 => ?_)
              have bz66 := nnz65.below (Below.refl _ _) (Nat.le_refl _)
              replace hB := below_after hB bz66
              replace h0 := h0.after bz66
              replace h1 := h1.after bz66
              have hz67 : At Wz64 wr.heap.size (.cells (u8s (List.replicate 9 0)) 55 (0, 0)) := nnz65.at_
              refine hK' _ _ ?_
              clear hK' K' nnz65 bz66
              go_frame
              refine ls_op rfl (fun K' hK' => ?_)
              refine wp_store_bytes 55 _ _ rfl rfl wr.heap.size rfl (partL (segm t (a * 36) 36) i) rfl _ _ hz67 9 (by kernel_rfl) (partL_len _ _) (by simp) (fun Wz68 pz69 => ?_)
              replace hB := pz69.below hB (by omega)
              replace h0 := pz69.other h0 (by omega)
              replace h1 := pz69.other h1 (by omega)
              replace hz67 : At Wz68 wr.heap.size (.cells (u8s (partL (segm t (a * 36) 36) i)) 55 (0, 0)) := pz69.at_
              refine hK' _ _ ?_
              clear hK' K' pz69
              refine wpList_nil ?_
              go_upto_region 10 with (fail)
              refine wp_region_y (zs := []) (S := fun w' => Below w.heap.size w w' ∧ At w' w.heap.size (.cells #[.int .i64 p, .int .i64 n, .int .i64 m, .int .i64 k, .slice A l c] 33 (0, 0)) ∧ At w' Wz17.heap.size (.cells #[.int .i64 n, .int .i64 m, .int .i64 m, .int .i64 k, .int .i64 n, .int .i64 k] 105 (0, 0)) ∧ At w' wr.heap.size (.cells (u8s (partL (segm t (a * 36) 36) i)) 55 (0, 0))) (S2 := fun w' => True) (by kernel_rfl) ?_
              change wpAnyY _ _ _ _ _ _ _ _ _ _ (World.drew _)
              generalize hwdz70 : World.drew _ = wdz70
              replace hB : Below w.heap.size w wdz70 := by rw [← hwdz70]; exact hB.drew
              replace h0 : At wdz70 w.heap.size (.cells #[.int .i64 p, .int .i64 n, .int .i64 m, .int .i64 k, .slice A l c] 33 (0, 0)) := by rw [← hwdz70]; exact h0
              replace h1 : At wdz70 Wz17.heap.size (.cells #[.int .i64 n, .int .i64 m, .int .i64 m, .int .i64 k, .int .i64 n, .int .i64 k] 105 (0, 0)) := by rw [← hwdz70]; exact h1
              replace hz67 : At wdz70 wr.heap.size (.cells (u8s (partL (segm t (a * 36) 36) i)) 55 (0, 0)) := by rw [← hwdz70]; exact hz67
              clear hwdz70
              refine y_yield 0 (some 27) (.pointer (some ⟨w.heap.size, 0, none⟩)) rfl (by kernel_rfl) (by kernel_rfl) (by kernel_rfl) (fun _ _ _ h => h) rfl rfl ⟨hB, h0, h1, hz67⟩ (fun w' h' => exec_fieldAddr 33 _ 0 rfl _ (by kernel_rfl)) ?_
              go_frame
              refine y_yield 1 (some 28) (.int .i64 p) rfl (by kernel_rfl) (by kernel_rfl) (by kernel_rfl) (fun _ _ _ h => h) rfl rfl ⟨hB, h0, h1, hz67⟩ (fun w' h' => exec_load_one 2 _ rfl w.heap.size 0 rfl (.int .i64 p) _ Try.underlying2 rfl (h'.2.1.at_ 0)) ?_
              go_frame
              refine y_yield 2 (some 29) (.int .i64 a) rfl (by kernel_rfl) (by kernel_rfl) (by kernel_rfl) (fun _ _ _ h => h) rfl rfl ⟨hB, h0, h1, hz67⟩ (fun w' h' => exec_move _ rfl (.int .i64 a) rfl) ?_
              go_frame
              refine y_yield 3 (some 30) (.pointer (some ⟨Wz17.heap.size, 0 + a * 2, none⟩)) rfl (by kernel_rfl) (by kernel_rfl) (by kernel_rfl) (fun _ _ _ h => h) rfl rfl ⟨hB, h0, h1, hz67⟩ (fun w' h' => exec_index_arr 105 104 _ _ rfl Wz17.heap.size 0 3 a 2 rfl rfl Try.underlying105 (by kernel_rfl) ha3) ?_
              go_frame
              refine y_yield 4 (some 31) (.agg #[.int .i64 (shR n m a), .int .i64 (shC m k a)]) rfl (by kernel_rfl) (by kernel_rfl) (by kernel_rfl) (fun _ _ _ h => h) rfl rfl ⟨hB, h0, h1, hz67⟩ (fun w' h' => exec_load_lit 104 _ rfl Wz17.heap.size (0 + a * 2) rfl _ _ _ 2 h'.2.2.1 Try.underlying104 rfl (by kernel_rfl) (by simp; omega) _ (shapes_at n m k ha3)) ?_
              go_frame
              refine y_yield 5 (some 32) (.agg (u8s (partL (segm t (a * 36) 36) i))) rfl (by kernel_rfl) (by kernel_rfl) (by kernel_rfl) (fun _ _ _ h => h) rfl rfl ⟨hB, h0, h1, hz67⟩ (fun w' h' => exec_load_all 55 _ rfl wr.heap.size rfl _ _ _ h'.2.2.2 Try.underlying55 rfl 9 (by kernel_rfl) ((u8s_size _).trans (partL_len _ _))) ?_
              go_frame
              refine y_oper 6 (by kernel_rfl) rfl rfl (fun K' hK' => ?_)
              have lz73 := hB.size
              have lz74 := h0.lt
              have lz75 := h1.lt
              have lz76 := hz67.lt
              refine wp_call3 (some 33) rfl 78 _ _ _ _ rfl (fun args w => by kernel_rfl) _ _ _ rfl rfl rfl _ (isForm_c p _ _ (partL (segm t (a * 36) 36) i) HPp.out (sizeB_shR HN.out HM.out a) (sizeB_shC HM.out HK.out a) (partL_bytes hs i) _) (fun e Wz71 h => ?_)
              obtain ⟨rfl, bz72⟩ := h
              replace hB := below_after hB bz72
              replace h0 := h0.after bz72
              replace h1 := h1.after bz72
              replace hz67 := hz67.after bz72
              rw [HFm.out]
              clear bz72
              refine ⟨_, rfl, ?_⟩
              refine hK' _ _ ⟨hB, h0, h1, hz67⟩ (fun _ => trivial) ?_
              clear hK' K'
              go_frame
              refine y_yield 7 (some 34) (.bool true) rfl (by kernel_rfl) (by kernel_rfl) (by kernel_rfl) (fun _ _ _ h => h) rfl rfl ⟨hB, h0, h1, hz67⟩ (fun w' h' => exec_not _ _ rfl false rfl) ?_
              go_frame
              refine y_done (by kernel_rfl) ?_ _
              go_upto_region 11 with (fail)
              refine wp_region_lit ?_
              refine ls_ex (some 4) (.bool false) rfl rfl (exec_assign _ rfl (.bool false) rfl) ?_
              go_frame
              refine wpList_nil ?_
              go_wp2_with fail
              go_ret
              exact ⟨by rw [HNo.out]; rfl, hB⟩
            | true =>
              have HI9 : Hid (∀ j, j < i + 1 → formB p (partL (segm t (a * 36) 36) j) (shR n m a * shC m k a) = true) := Lib.hid (all_more HI.out hf)
              have HFm := Lib.hid hf
              clear hf
              clear HI
              go_upto_region 8 with (fail)
              refine wp_region_lit ?_
              refine ls_ex (some 25) (.bool true) rfl rfl (exec_lss _ _ _ _ rfl i 4 rfl rfl true (decide_eq_true (by omega))) ?_
              go_frame
              refine wpList_nil ?_
              go_upto_region 9 with (fail)
              refine wp_region_lit ?_
              refine ls_ex (some 26) (.agg (u8s (partL (segm t (a * 36) 36) i))) rfl rfl (exec_index_part4 _ _ rfl i (segm t (a * 36) 36) rfl rfl hi4) ?_
              go_frame
              refine ls_op rfl (fun K' hK' => ?_)
              have lz77 := hB.size
              have lz78 := h0.lt
              have lz79 := h1.lt
              refine wp_new (some 9) rfl (al_impl_Form rfl) (fun Wz80 nnz81 => ?_)
              have bz82 := nnz81.below (Below.refl _ _) (Nat.le_refl _)
              replace hB := below_after hB bz82
              replace h0 := h0.after bz82
              replace h1 := h1.after bz82
              have hz83 : At Wz80 wr.heap.size (.cells (u8s (List.replicate 9 0)) 55 (0, 0)) := nnz81.at_
              refine hK' _ _ ?_
              clear hK' K' nnz81 bz82
              go_frame
              refine ls_op rfl (fun K' hK' => ?_)
              refine wp_store_bytes 55 _ _ rfl rfl wr.heap.size rfl (partL (segm t (a * 36) 36) i) rfl _ _ hz83 9 (by kernel_rfl) (partL_len _ _) (by simp) (fun Wz84 pz85 => ?_)
              replace hB := pz85.below hB (by omega)
              replace h0 := pz85.other h0 (by omega)
              replace h1 := pz85.other h1 (by omega)
              replace hz83 : At Wz84 wr.heap.size (.cells (u8s (partL (segm t (a * 36) 36) i)) 55 (0, 0)) := pz85.at_
              refine hK' _ _ ?_
              clear hK' K' pz85
              refine wpList_nil ?_
              go_upto_region 10 with (fail)
              refine wp_region_y (zs := []) (S := fun w' => Below w.heap.size w w' ∧ At w' w.heap.size (.cells #[.int .i64 p, .int .i64 n, .int .i64 m, .int .i64 k, .slice A l c] 33 (0, 0)) ∧ At w' Wz17.heap.size (.cells #[.int .i64 n, .int .i64 m, .int .i64 m, .int .i64 k, .int .i64 n, .int .i64 k] 105 (0, 0)) ∧ At w' wr.heap.size (.cells (u8s (partL (segm t (a * 36) 36) i)) 55 (0, 0))) (S2 := fun w' => True) (by kernel_rfl) ?_
              change wpAnyY _ _ _ _ _ _ _ _ _ _ (World.drew _)
              generalize hwdz86 : World.drew _ = wdz86
              replace hB : Below w.heap.size w wdz86 := by rw [← hwdz86]; exact hB.drew
              replace h0 : At wdz86 w.heap.size (.cells #[.int .i64 p, .int .i64 n, .int .i64 m, .int .i64 k, .slice A l c] 33 (0, 0)) := by rw [← hwdz86]; exact h0
              replace h1 : At wdz86 Wz17.heap.size (.cells #[.int .i64 n, .int .i64 m, .int .i64 m, .int .i64 k, .int .i64 n, .int .i64 k] 105 (0, 0)) := by rw [← hwdz86]; exact h1
              replace hz83 : At wdz86 wr.heap.size (.cells (u8s (partL (segm t (a * 36) 36) i)) 55 (0, 0)) := by rw [← hwdz86]; exact hz83
              clear hwdz86
              refine y_yield 0 (some 27) (.pointer (some ⟨w.heap.size, 0, none⟩)) rfl (by kernel_rfl) (by kernel_rfl) (by kernel_rfl) (fun _ _ _ h => h) rfl rfl ⟨hB, h0, h1, hz83⟩ (fun w' h' => exec_fieldAddr 33 _ 0 rfl _ (by kernel_rfl)) ?_
              go_frame
              refine y_yield 1 (some 28) (.int .i64 p) rfl (by kernel_rfl) (by kernel_rfl) (by kernel_rfl) (fun _ _ _ h => h) rfl rfl ⟨hB, h0, h1, hz83⟩ (fun w' h' => exec_load_one 2 _ rfl w.heap.size 0 rfl (.int .i64 p) _ Try.underlying2 rfl (h'.2.1.at_ 0)) ?_
              go_frame
              refine y_yield 2 (some 29) (.int .i64 a) rfl (by kernel_rfl) (by kernel_rfl) (by kernel_rfl) (fun _ _ _ h => h) rfl rfl ⟨hB, h0, h1, hz83⟩ (fun w' h' => exec_move _ rfl (.int .i64 a) rfl) ?_
              go_frame
              refine y_yield 3 (some 30) (.pointer (some ⟨Wz17.heap.size, 0 + a * 2, none⟩)) rfl (by kernel_rfl) (by kernel_rfl) (by kernel_rfl) (fun _ _ _ h => h) rfl rfl ⟨hB, h0, h1, hz83⟩ (fun w' h' => exec_index_arr 105 104 _ _ rfl Wz17.heap.size 0 3 a 2 rfl rfl Try.underlying105 (by kernel_rfl) ha3) ?_
              go_frame
              refine y_yield 4 (some 31) (.agg #[.int .i64 (shR n m a), .int .i64 (shC m k a)]) rfl (by kernel_rfl) (by kernel_rfl) (by kernel_rfl) (fun _ _ _ h => h) rfl rfl ⟨hB, h0, h1, hz83⟩ (fun w' h' => exec_load_lit 104 _ rfl Wz17.heap.size (0 + a * 2) rfl _ _ _ 2 h'.2.2.1 Try.underlying104 rfl (by kernel_rfl) (by simp; omega) _ (shapes_at n m k ha3)) ?_
              go_frame
              refine y_yield 5 (some 32) (.agg (u8s (partL (segm t (a * 36) 36) i))) rfl (by kernel_rfl) (by kernel_rfl) (by kernel_rfl) (fun _ _ _ h => h) rfl rfl ⟨hB, h0, h1, hz83⟩ (fun w' h' => exec_load_all 55 _ rfl wr.heap.size rfl _ _ _ h'.2.2.2 Try.underlying55 rfl 9 (by kernel_rfl) ((u8s_size _).trans (partL_len _ _))) ?_
              go_frame
              refine y_oper 6 (by kernel_rfl) rfl rfl (fun K' hK' => ?_)
              have lz89 := hB.size
              have lz90 := h0.lt
              have lz91 := h1.lt
              have lz92 := hz83.lt
              refine wp_call3 (some 33) rfl 78 _ _ _ _ rfl (fun args w => by kernel_rfl) _ _ _ rfl rfl rfl _ (isForm_c p _ _ (partL (segm t (a * 36) 36) i) HPp.out (sizeB_shR HN.out HM.out a) (sizeB_shC HM.out HK.out a) (partL_bytes hs i) _) (fun e Wz87 h => ?_)
              obtain ⟨rfl, bz88⟩ := h
              replace hB := below_after hB bz88
              replace h0 := h0.after bz88
              replace h1 := h1.after bz88
              replace hz83 := hz83.after bz88
              rw [HFm.out]
              clear bz88
              refine ⟨_, rfl, ?_⟩
              refine hK' _ _ ⟨hB, h0, h1, hz83⟩ (fun _ => trivial) ?_
              clear hK' K'
              go_frame
              refine y_yield 7 (some 34) (.bool false) rfl (by kernel_rfl) (by kernel_rfl) (by kernel_rfl) (fun _ _ _ h => h) rfl rfl ⟨hB, h0, h1, hz83⟩ (fun w' h' => exec_not _ _ rfl true rfl) ?_
              go_frame
              refine y_done (by kernel_rfl) ?_ _
              go_upto_region 12 with (fail)
              refine wp_region_lit ?_
              refine ls_ex (some 35) (.int .i64 (i + 1)) rfl rfl (exec_add _ _ _ _ rfl i 1 (i + 1) rfl rfl (IntWalk.i64_in _ (by omega))) ?_
              go_frame
              refine ls_ex (some 24) (.int .i64 (i + 1)) rfl rfl (exec_move _ rfl (.int .i64 (i + 1)) rfl) ?_
              go_frame
              refine wpList_nil ?_
              go_wp2_with fail
              go_roundw
              case rel => exact ⟨i + 1, by omega, by go_num, HI9, hB, h0, h1⟩
              case measure => simp [intOf]; omega
          · have HA9 : Hid (∀ j, j < a + 1 → sideS p n m k t j = true) := Lib.hid (all_more HA.out (serB_parts HsL.out HZ.out (fun j hj => HI.out j (by omega))))
            clear HI HA
            go_upto_region 8 with (fail)
            refine wp_region_lit ?_
            refine ls_ex (some 25) (.bool false) rfl rfl (exec_lss _ _ _ _ rfl i 4 rfl rfl false (decide_eq_false (by omega))) ?_
            go_frame
            refine wpList_nil ?_
            go_upto_region 13 with (fail)
            refine wp_region_lit ?_
            refine ls_ex (some 36) (.int .i64 (a + 1)) rfl rfl (exec_add _ _ _ _ rfl a 1 (a + 1) rfl rfl (IntWalk.i64_in _ (by omega))) ?_
            go_frame
            refine ls_ex (some 15) (.int .i64 (a + 1)) rfl rfl (exec_move _ rfl (.int .i64 (a + 1)) rfl) ?_
            go_frame
            refine wpList_nil ?_
            go_wp2_with fail
            go_roundw
            case rel => exact ⟨a + 1, by omega, by go_num, HA9, hB, h0, h1⟩
            case measure => simp [intOf]; omega
    · have HYes : Hid (twigB p n m k t = true) := Lib.hid (twigB_yes (fun j hj => HA.out j (by omega)))
      go_upto_region 3 with (fail)
      refine wp_region_lit ?_
      refine ls_ex (some 16) (.bool false) rfl rfl (exec_lss _ _ _ _ rfl a 3 rfl rfl false (decide_eq_false (by omega))) ?_
      go_frame
      refine wpList_nil ?_
      go_upto_region 14 with (fail)
      refine wp_region_lit ?_
      refine ls_ex (some 4) (.bool true) rfl rfl (exec_assign _ rfl (.bool true) rfl) ?_
      go_frame
      refine wpList_nil ?_
      go_wp2_with fail
      go_ret
      exact ⟨by rw [HYes.out]; rfl, hB⟩
set_option maxHeartbeats 4000000 in
theorem isBorder1_c (p n m k : Int) (A : Option Addr) (l c gp : Nat) (t : List Nat) (w : World) (hgp : At w gp (.cells #[.int .i64 p, .int .i64 n, .int .i64 m, .int .i64 k, .slice A l c] 33 (0, 0))) (ht : Bytes 108 t) (hs : sizesB p n m k = true) :
    Calls Try.prog 54 #[.agg (u8s t), .pointer (some ⟨gp, 0, none⟩)] w (fun e w' => e = .returned (.bool (!twigB p n m k t)) ∧ Below w.heap.size w w') := by
  have hB := Below.refl w.heap.size w
  skip
  go_enter Try.func54, Try.ntmps54
  go_upto_region 0 with (fail)
  refine wp_region_lit ?_
  refine ls_op rfl (fun K' hK' => ?_)
  have lz1 := hB.size
  have lz2 := hgp.lt
  refine wp_new (some 2) rfl (exec_box 52 _ rfl (u8s (t)) rfl) (fun Wz3 nnz4 => ?_)
  have bz5 := nnz4.below (Below.refl _ _) (Nat.le_refl _)
  replace hB := below_after hB bz5
  replace hgp := hgp.after bz5
  have hz6 : At Wz3 w.heap.size (.cells (u8s (t)) 52 (0, 0)) := nnz4.at_
  refine hK' _ _ ?_
  clear hK' K' nnz4 bz5
  go_frame
  refine ls_ex (some 3) (.bool false) rfl rfl (exec_assign _ rfl (.bool false) rfl) ?_
  go_frame
  refine wpList_nil ?_
  go_upto_region 1 with (fail)
  refine wp_region_lit ?_
  refine ls_ex (some 4) (.agg #[.int .i64 p, .int .i64 n, .int .i64 m, .int .i64 k, .slice A l c]) rfl rfl (exec_load_all 33 _ rfl gp rfl _ _ _ hgp Try.underlying33 rfl 5 (by kernel_rfl) rfl) ?_
  go_frame
  refine ls_ex (some 5) (.agg (u8s (t))) rfl rfl (exec_load_all 52 _ rfl w.heap.size rfl _ _ _ hz6 Try.underlying52 rfl 108 (by kernel_rfl) ((u8s_size _).trans ht.len)) ?_
  go_frame
  refine ls_op rfl (fun K' hK' => ?_)
  have lz9 := hB.size
  have lz10 := hgp.lt
  have lz11 := hz6.lt
  refine wp_call2 (some 6) rfl 55 _ _ _ rfl (fun args w => by kernel_rfl) _ _ rfl rfl _ (isTwigFor_c p n m k A l c t ht hs _) (fun e Wz7 h => ?_)
  obtain ⟨rfl, bz8⟩ := h
  replace hB := below_after hB bz8
  replace hgp := hgp.after bz8
  replace hz6 := hz6.after bz8
  clear bz8
  refine ⟨_, rfl, ?_⟩
  refine hK' _ _ ?_
  clear hK' K'
  go_frame
  refine ls_ex (some 7) (.bool (!(twigB p n m k t))) rfl rfl (exec_not _ _ rfl ((twigB p n m k t)) rfl) ?_
  go_frame
  refine ls_ex (some 3) (.bool (!(twigB p n m k t))) rfl rfl (exec_assign _ rfl (.bool (!(twigB p n m k t))) rfl) ?_
  go_frame
  refine wpList_nil ?_
  go_wp2_with fail
  go_ret
  exact ⟨rfl, hB⟩
/-- Where a list has a twig that is none, or -1. -/
def IdxTw (p n m k : Int) (ts : List (List Nat)) (r : Int) : Prop := (r = -1 ∧ ts.all (twigB p n m k) = true) ∨ (0 ≤ r ∧ ts.all (twigB p n m k) = false)
theorem twigs_no {p n m k : Int} {ts : List (List Nat)} {i : Nat} (hi : i < ts.length) (h : twigB p n m k ts[i] = false) : ts.all (twigB p n m k) = false := by
  rw [List.all_eq_false]
  exact ⟨_, List.getElem_mem hi, by simp [h]⟩
set_option maxHeartbeats 1600000 in
theorem indexTwig_c (p n m k : Int) (B : Option Addr) (l d gp : Nat) (A : Option Addr) (c : Nat) (ts : List (List Nat)) (w : World) (hr : RdT w A ts) (hn : ts.length ≤ 1048576) (hgp : At w gp (.cells #[.int .i64 p, .int .i64 n, .int .i64 m, .int .i64 k, .slice B l d] 33 (0, 0))) (hs : sizesB p n m k = true) :
    Calls Try.prog 76 #[.slice A ts.length c, .func (.func 54) #[] #[.pointer (some ⟨gp, 0, none⟩)]] w fun e w' => ∃ r, e = .returned (.int .i64 r) ∧ IdxTw p n m k ts r ∧ Below w.heap.size w w' := by
  go_enter Try.func76, Try.ntmps76
  go_wp2_with fail
  go_loopw [8] (fun v wr => ∃ a : Nat, a ≤ ts.length ∧ v = .int .i64 a ∧ Hid (twigsB p n m k ts a = true) ∧ Below w.heap.size w wr) (fun v _ => ts.length - (intOf v).toNat)
  case atStart => exact ⟨0, by omega, rfl, Lib.hid rfl, Below.refl _ _⟩
  case round =>
    obtain ⟨a, ha, rfl, HO, hB⟩ := hrel
    by_cases hlt : a < ts.length
    · obtain ⟨b, off, rfl, hc⟩ := (hr.keep hB).at_ hlt
      clear hc
      have e0 : IntKind.i64.wrap ((a : Int) + 1) = (a : Int) + 1 := IntWalk.i64_in _ (by omega)
      have hlt' : (a : Int) < (ts.length : Int) := by omega
      have hq := hr.good _ (List.getElem_mem hlt)
      have Hc := Lib.hid (RdT.c108 (hr.keep hB) hlt)
      have HC := Lib.hid (isBorder1_c p n m k B l d gp ts[a] wr (hgp.after hB) hq hs)
      have Hq := Lib.hid hq.len
      cases hb : twigB p n m k ts[a] with
      | false =>
        have Hno : Hid (IdxTw p n m k ts a) := Lib.hid (.inr ⟨by omega, twigs_no hlt hb⟩)
        rw [hb] at HC
        clear hb hr hgp
        go_wp2_with (refine wpList_of_exec rfl (exec_load_cells 52 _ rfl b (off + a * 108) rfl ts[a] _ 108 Hc.out Try.underlying52 rfl (by kernel_rfl) Hq.out) ?_)
        refine HC.out.mono ?_
        rintro e w' ⟨rfl, b1⟩
        go_wp2_with fail
        go_ret
        exact ⟨_, rfl, Hno.out, below_after hB b1⟩
      | true =>
        have Hstep : Hid (twigsB p n m k ts (a + 1) = true) := Lib.hid (twigsB_step hlt HO.out hb)
        rw [hb] at HC
        clear hb hr hgp
        go_wp2_with (refine wpList_of_exec rfl (exec_load_cells 52 _ rfl b (off + a * 108) rfl ts[a] _ 108 Hc.out Try.underlying52 rfl (by kernel_rfl) Hq.out) ?_)
        refine HC.out.mono ?_
        rintro e w' ⟨rfl, b1⟩
        go_wp2_with fail
        exact ⟨⟨a + 1, by omega, by go_num, Hstep, below_after hB b1⟩, by simp [intOf]; omega⟩
    · have Hyes : Hid (IdxTw p n m k ts (-1)) := Lib.hid (.inl ⟨rfl, by have h := HO.out; rw [show a = ts.length by omega] at h; unfold twigsB at h; rwa [List.take_length] at h⟩)
      have hlt' : ¬ (a : Int) < (ts.length : Int) := by omega
      clear hr hgp
      go_wp2_with fail
      go_ret
      exact ⟨_, rfl, Hyes.out, hB⟩
theorem containsTwig_c (p n m k : Int) (B : Option Addr) (l d gp : Nat) (A : Option Addr) (c : Nat) (ts : List (List Nat)) (w : World) (hr : RdT w A ts) (hn : ts.length ≤ 1048576) (hgp : At w gp (.cells #[.int .i64 p, .int .i64 n, .int .i64 m, .int .i64 k, .slice B l d] 33 (0, 0))) (hs : sizesB p n m k = true) :
    Calls Try.prog 53 #[.slice A ts.length c, .func (.func 54) #[] #[.pointer (some ⟨gp, 0, none⟩)]] w fun e w' => e = .returned (.bool (!(ts.all (twigB p n m k)))) ∧ Below w.heap.size w w' := by
  have HC := Lib.hid (indexTwig_c p n m k B l d gp A c ts w hr hn hgp hs)
  clear hr hgp
  go_enter Try.func53, Try.ntmps53
  go_wp2_with fail
  refine HC.out.mono ?_
  rintro e w' ⟨r, rfl, hr, b1⟩
  rcases hr with ⟨rfl, hb⟩ | ⟨h0, hb⟩
  · have Hb := Lib.hid hb
    clear hb
    go_wp2_with fail
    go_ret
    exact ⟨by rw [Hb.out]; rfl, b1⟩
  · have Hb := Lib.hid hb
    have hd : decide (0 ≤ r) = true := by simp only [decide_eq_true_eq]; exact h0
    clear hb h0
    go_wp2_with fail
    go_ret
    exact ⟨by rw [Hb.out]; rfl, b1⟩
set_option maxHeartbeats 4000000 in
theorem implIsBorder_a (p n m k : Int) (A : Option Addr) (c : Nat) (ts : List (List Nat)) (w : World) (hR : RdT w A ts) (hlen : ts.length ≤ 1048576) (hs : sizesB p n m k = false) :
    Calls Try.prog 29 #[.agg #[.int .i64 p, .int .i64 n, .int .i64 m, .int .i64 k, .slice A ts.length c]] w (fun e w' => e = .returned (.bool (borderB p n m k ts)) ∧ Below w.heap.size w w') := by
  have hB := Below.refl w.heap.size w
  have _u0 := hR
  have _u1 := hlen
  clear _u0 _u1
  have HNo : Hid (borderB p n m k ts = false) := Lib.hid (by simp [borderB, hs])
  have HP : Hid (schemeB p n m k [] = false) := Lib.hid (by simp [schemeB, hs])
  clear hs
  go_enter Try.func29, Try.ntmps29
  go_upto_region 0 with (fail)
  refine wp_region_lit ?_
  refine ls_op rfl (fun K' hK' => ?_)
  have lz1 := hB.size
  refine wp_new (some 1) rfl (exec_box 33 _ rfl (#[.int .i64 p, .int .i64 n, .int .i64 m, .int .i64 k, .slice A ts.length c]) rfl) (fun Wz2 nnz3 => ?_)
  have bz4 := nnz3.below (Below.refl _ _) (Nat.le_refl _)
  replace hB := below_after hB bz4
  have hz5 : At Wz2 w.heap.size (.cells #[.int .i64 p, .int .i64 n, .int .i64 m, .int .i64 k, .slice A ts.length c] 33 (0, 0)) := nnz3.at_
  refine hK' _ _ ?_
  clear hK' K' nnz3 bz4
  go_frame
  refine ls_ex (some 2) (.bool false) rfl rfl (exec_assign _ rfl (.bool false) rfl) ?_
  go_frame
  refine wpList_nil ?_
  go_upto_region 1 with (fail)
  refine wp_region_lit ?_
  refine ls_ex (some 3) (.agg #[.int .i64 p, .int .i64 n, .int .i64 m, .int .i64 k, .slice A ts.length c]) rfl rfl (exec_load_all 33 _ rfl w.heap.size rfl _ _ _ hz5 Try.underlying33 rfl 5 (by kernel_rfl) rfl) ?_
  go_frame
  refine ls_op rfl (fun K' hK' => ?_)
  have lz8 := hB.size
  have lz9 := hz5.lt
  refine wp_call2 (some 4) rfl 33 _ _ _ rfl (fun args w => by kernel_rfl) _ _ rfl rfl _ (schemeLike_c p n m k A none ts.length c 0 0 _) (fun e Wz6 h => ?_)
  obtain ⟨rfl, bz7⟩ := h
  replace hB := below_after hB bz7
  replace hz5 := hz5.after bz7
  clear bz7
  refine ⟨_, rfl, ?_⟩
  refine hK' _ _ ?_
  clear hK' K'
  go_frame
  refine ls_op rfl (fun K' hK' => ?_)
  have lz12 := hB.size
  have lz13 := hz5.lt
  refine wp_call1 (some 5) rfl 52 _ _ rfl (fun args w => by kernel_rfl) _ rfl _ (implIsScheme_c p n m k none 0 [] _ (Rd.none_ _ _) (by simp)) (fun e Wz10 h => ?_)
  obtain ⟨rfl, bz11⟩ := h
  replace hB := below_after hB bz11
  replace hz5 := hz5.after bz11
  rw [HP.out]
  clear bz11
  refine ⟨_, rfl, ?_⟩
  refine hK' _ _ ?_
  clear hK' K'
  go_frame
  refine ls_ex (some 6) (.bool true) rfl rfl (exec_not _ _ rfl false rfl) ?_
  go_frame
  refine ls_ex (some 7) (.bool true) rfl rfl (exec_move _ rfl (.bool true) rfl) ?_
  go_frame
  refine ls_skip_g (some 8) rfl rfl ?_
  go_frame
  refine ls_skip_g (some 9) rfl rfl ?_
  go_frame
  refine ls_skip_g (some 10) rfl rfl ?_
  go_frame
  refine ls_skip_g (some 11) rfl rfl ?_
  go_frame
  refine ls_ex (some 12) (.bool true) rfl rfl (exec_pick _ _ _ rfl true rfl (.bool true) rfl) ?_
  go_frame
  refine wpList_nil ?_
  go_upto_region 2 with (fail)
  refine wp_region_lit ?_
  refine ls_ex (some 2) (.bool false) rfl rfl (exec_assign _ rfl (.bool false) rfl) ?_
  go_frame
  refine wpList_nil ?_
  go_wp2_with fail
  go_ret
  exact ⟨by rw [HNo.out]; rfl, hB⟩
set_option maxHeartbeats 4000000 in
theorem implIsBorder_b (p n m k : Int) (A : Option Addr) (c : Nat) (ts : List (List Nat)) (w : World) (hR : RdT w A ts) (hlen : ts.length ≤ 1048576) (hs : sizesB p n m k = true) (hl : 30 < ts.length) :
    Calls Try.prog 29 #[.agg #[.int .i64 p, .int .i64 n, .int .i64 m, .int .i64 k, .slice A ts.length c]] w (fun e w' => e = .returned (.bool (borderB p n m k ts)) ∧ Below w.heap.size w w') := by
  have hB := Below.refl w.heap.size w
  have _u0 := hR
  clear _u0
  have HNo : Hid (borderB p n m k ts = false) := Lib.hid (by simp [borderB, show ¬ ts.length ≤ 30 by omega])
  have HP : Hid (schemeB p n m k [] = true) := Lib.hid (by simp [schemeB, hs])
  clear hs
  go_enter Try.func29, Try.ntmps29
  go_upto_region 0 with (fail)
  refine wp_region_lit ?_
  refine ls_op rfl (fun K' hK' => ?_)
  have lz1 := hB.size
  refine wp_new (some 1) rfl (exec_box 33 _ rfl (#[.int .i64 p, .int .i64 n, .int .i64 m, .int .i64 k, .slice A ts.length c]) rfl) (fun Wz2 nnz3 => ?_)
  have bz4 := nnz3.below (Below.refl _ _) (Nat.le_refl _)
  replace hB := below_after hB bz4
  have hz5 : At Wz2 w.heap.size (.cells #[.int .i64 p, .int .i64 n, .int .i64 m, .int .i64 k, .slice A ts.length c] 33 (0, 0)) := nnz3.at_
  refine hK' _ _ ?_
  clear hK' K' nnz3 bz4
  go_frame
  refine ls_ex (some 2) (.bool false) rfl rfl (exec_assign _ rfl (.bool false) rfl) ?_
  go_frame
  refine wpList_nil ?_
  go_upto_region 1 with (fail)
  refine wp_region_lit ?_
  refine ls_ex (some 3) (.agg #[.int .i64 p, .int .i64 n, .int .i64 m, .int .i64 k, .slice A ts.length c]) rfl rfl (exec_load_all 33 _ rfl w.heap.size rfl _ _ _ hz5 Try.underlying33 rfl 5 (by kernel_rfl) rfl) ?_
  go_frame
  refine ls_op rfl (fun K' hK' => ?_)
  have lz8 := hB.size
  have lz9 := hz5.lt
  refine wp_call2 (some 4) rfl 33 _ _ _ rfl (fun args w => by kernel_rfl) _ _ rfl rfl _ (schemeLike_c p n m k A none ts.length c 0 0 _) (fun e Wz6 h => ?_)
  obtain ⟨rfl, bz7⟩ := h
  replace hB := below_after hB bz7
  replace hz5 := hz5.after bz7
  clear bz7
  refine ⟨_, rfl, ?_⟩
  refine hK' _ _ ?_
  clear hK' K'
  go_frame
  refine ls_op rfl (fun K' hK' => ?_)
  have lz12 := hB.size
  have lz13 := hz5.lt
  refine wp_call1 (some 5) rfl 52 _ _ rfl (fun args w => by kernel_rfl) _ rfl _ (implIsScheme_c p n m k none 0 [] _ (Rd.none_ _ _) (by simp)) (fun e Wz10 h => ?_)
  obtain ⟨rfl, bz11⟩ := h
  replace hB := below_after hB bz11
  replace hz5 := hz5.after bz11
  rw [HP.out]
  clear bz11
  refine ⟨_, rfl, ?_⟩
  refine hK' _ _ ?_
  clear hK' K'
  go_frame
  refine ls_ex (some 6) (.bool false) rfl rfl (exec_not _ _ rfl true rfl) ?_
  go_frame
  refine ls_ex (some 7) (.bool false) rfl rfl (exec_move _ rfl (.bool false) rfl) ?_
  go_frame
  refine ls_ex_g (some 8) (.pointer (some ⟨w.heap.size, 4, none⟩)) rfl rfl (exec_fieldAddr 33 _ 4 rfl _ (by kernel_rfl)) ?_
  go_frame
  refine ls_ex_g (some 9) (.slice A ts.length c) rfl rfl (exec_load_one 31 _ rfl w.heap.size 4 rfl (.slice A ts.length c) _ Try.underlying31 rfl (hz5.at_ 4)) ?_
  go_frame
  refine ls_ex_g (some 10) (.int .i64 ts.length) rfl rfl (exec_len _ 31 52 rfl A ts.length c rfl Try.underlying31) ?_
  go_frame
  refine ls_ex_g (some 11) (.bool true) rfl rfl (exec_gtr _ _ _ _ rfl ts.length 30 rfl rfl true (decide_eq_true (by omega))) ?_
  go_frame
  refine ls_ex (some 12) (.bool true) rfl rfl (exec_pick _ _ _ rfl false rfl (.bool true) rfl) ?_
  go_frame
  refine wpList_nil ?_
  go_upto_region 2 with (fail)
  refine wp_region_lit ?_
  refine ls_ex (some 2) (.bool false) rfl rfl (exec_assign _ rfl (.bool false) rfl) ?_
  go_frame
  refine wpList_nil ?_
  go_wp2_with fail
  go_ret
  exact ⟨by rw [HNo.out]; rfl, hB⟩
set_option maxHeartbeats 4000000 in
theorem implIsBorder_f (p n m k : Int) (A : Option Addr) (c : Nat) (ts : List (List Nat)) (w : World) (hR : RdT w A ts) (hlen : ts.length ≤ 1048576) (hs : sizesB p n m k = true) (hl : ts.length ≤ 30) :
    Calls Try.prog 29 #[.agg #[.int .i64 p, .int .i64 n, .int .i64 m, .int .i64 k, .slice A ts.length c]] w (fun e w' => e = .returned (.bool (borderB p n m k ts)) ∧ Below w.heap.size w w') := by
  have hB := Below.refl w.heap.size w
  have HYes : Hid (borderB p n m k ts = ts.all (twigB p n m k)) := Lib.hid (by simp [borderB, hs, hl])
  have HP : Hid (schemeB p n m k [] = true) := Lib.hid (by simp [schemeB, hs])
  have HS := Lib.hid hs
  clear hs
  go_enter Try.func29, Try.ntmps29
  go_upto_region 0 with (fail)
  refine wp_region_lit ?_
  refine ls_op rfl (fun K' hK' => ?_)
  have lz1 := hB.size
  refine wp_new (some 1) rfl (exec_box 33 _ rfl (#[.int .i64 p, .int .i64 n, .int .i64 m, .int .i64 k, .slice A ts.length c]) rfl) (fun Wz2 nnz3 => ?_)
  have bz4 := nnz3.below (Below.refl _ _) (Nat.le_refl _)
  replace hB := below_after hB bz4
  have hz5 : At Wz2 w.heap.size (.cells #[.int .i64 p, .int .i64 n, .int .i64 m, .int .i64 k, .slice A ts.length c] 33 (0, 0)) := nnz3.at_
  refine hK' _ _ ?_
  clear hK' K' nnz3 bz4
  go_frame
  refine ls_ex (some 2) (.bool false) rfl rfl (exec_assign _ rfl (.bool false) rfl) ?_
  go_frame
  refine wpList_nil ?_
  go_upto_region 1 with (fail)
  refine wp_region_lit ?_
  refine ls_ex (some 3) (.agg #[.int .i64 p, .int .i64 n, .int .i64 m, .int .i64 k, .slice A ts.length c]) rfl rfl (exec_load_all 33 _ rfl w.heap.size rfl _ _ _ hz5 Try.underlying33 rfl 5 (by kernel_rfl) rfl) ?_
  go_frame
  refine ls_op rfl (fun K' hK' => ?_)
  have lz8 := hB.size
  have lz9 := hz5.lt
  refine wp_call2 (some 4) rfl 33 _ _ _ rfl (fun args w => by kernel_rfl) _ _ rfl rfl _ (schemeLike_c p n m k A none ts.length c 0 0 _) (fun e Wz6 h => ?_)
  obtain ⟨rfl, bz7⟩ := h
  replace hB := below_after hB bz7
  replace hz5 := hz5.after bz7
  clear bz7
  refine ⟨_, rfl, ?_⟩
  refine hK' _ _ ?_
  clear hK' K'
  go_frame
  refine ls_op rfl (fun K' hK' => ?_)
  have lz12 := hB.size
  have lz13 := hz5.lt
  refine wp_call1 (some 5) rfl 52 _ _ rfl (fun args w => by kernel_rfl) _ rfl _ (implIsScheme_c p n m k none 0 [] _ (Rd.none_ _ _) (by simp)) (fun e Wz10 h => ?_)
  obtain ⟨rfl, bz11⟩ := h
  replace hB := below_after hB bz11
  replace hz5 := hz5.after bz11
  rw [HP.out]
  clear bz11
  refine ⟨_, rfl, ?_⟩
  refine hK' _ _ ?_
  clear hK' K'
  go_frame
  refine ls_ex (some 6) (.bool false) rfl rfl (exec_not _ _ rfl true rfl) ?_
  go_frame
  refine ls_ex (some 7) (.bool false) rfl rfl (exec_move _ rfl (.bool false) rfl) ?_
  go_frame
  refine ls_ex_g (some 8) (.pointer (some ⟨w.heap.size, 4, none⟩)) rfl rfl (exec_fieldAddr 33 _ 4 rfl _ (by kernel_rfl)) ?_
  go_frame
  refine ls_ex_g (some 9) (.slice A ts.length c) rfl rfl (exec_load_one 31 _ rfl w.heap.size 4 rfl (.slice A ts.length c) _ Try.underlying31 rfl (hz5.at_ 4)) ?_
  go_frame
  refine ls_ex_g (some 10) (.int .i64 ts.length) rfl rfl (exec_len _ 31 52 rfl A ts.length c rfl Try.underlying31) ?_
  go_frame
  refine ls_ex_g (some 11) (.bool false) rfl rfl (exec_gtr _ _ _ _ rfl ts.length 30 rfl rfl false (decide_eq_false (by omega))) ?_
  go_frame
  refine ls_ex (some 12) (.bool false) rfl rfl (exec_pick _ _ _ rfl false rfl (.bool false) rfl) ?_
  go_frame
  refine wpList_nil ?_
  go_upto_region 3 with (fail)
  refine wp_region_lit ?_
  refine ls_ex (some 13) (.pointer (some ⟨w.heap.size, 4, none⟩)) rfl rfl (exec_fieldAddr 33 _ 4 rfl _ (by kernel_rfl)) ?_
  go_frame
  refine ls_ex (some 14) (.slice A ts.length c) rfl rfl (exec_load_one 31 _ rfl w.heap.size 4 rfl (.slice A ts.length c) _ Try.underlying31 rfl (hz5.at_ 4)) ?_
  go_frame
  refine ls_ex (some 15) (.func (.func 54) #[] #[.pointer (some ⟨w.heap.size, 0, none⟩)]) rfl rfl (exec_mkfn1 _ _ rfl (.pointer (some ⟨w.heap.size, 0, none⟩)) rfl) ?_
  go_frame
  refine ls_op rfl (fun K' hK' => ?_)
  have lz16 := hB.size
  have lz17 := hz5.lt
  refine wp_call2 (some 16) rfl 53 _ _ _ rfl (fun args w => by kernel_rfl) _ _ rfl rfl _ (containsTwig_c p n m k A ts.length c w.heap.size A c ts _ (hR.keep hB) hlen hz5 HS.out) (fun e Wz14 h => ?_)
  obtain ⟨rfl, bz15⟩ := h
  replace hB := below_after hB bz15
  replace hz5 := hz5.after bz15
  clear bz15
  refine ⟨_, rfl, ?_⟩
  refine hK' _ _ ?_
  clear hK' K'
  go_frame
  refine ls_ex (some 17) (.bool (!(!(ts.all (twigB p n m k))))) rfl rfl (exec_not _ _ rfl ((!(ts.all (twigB p n m k)))) rfl) ?_
  go_frame
  refine ls_ex (some 2) (.bool (!(!(ts.all (twigB p n m k))))) rfl rfl (exec_assign _ rfl (.bool (!(!(ts.all (twigB p n m k))))) rfl) ?_
  go_frame
  refine wpList_nil ?_
  go_wp2_with fail
  go_ret
  exact ⟨by rw [HYes.out]; simp, hB⟩
theorem implIsBorder_c (p n m k : Int) (A : Option Addr) (c : Nat) (ts : List (List Nat)) (w : World) (hR : RdT w A ts) (hlen : ts.length ≤ 1048576) : Calls Try.prog 29 #[.agg #[.int .i64 p, .int .i64 n, .int .i64 m, .int .i64 k, .slice A ts.length c]] w (fun e w' => e = .returned (.bool (borderB p n m k ts)) ∧ Below w.heap.size w w') := by
  cases hs : sizesB p n m k with
  | false => exact implIsBorder_a p n m k A c ts w hR hlen hs
  | true =>
    by_cases hl : ts.length ≤ 30
    · exact implIsBorder_f p n m k A c ts w hR hlen hs hl
    · exact implIsBorder_b p n m k A c ts w hR hlen hs (by omega)
end Go.Proofs.Ytnlidegmllcdhaa
