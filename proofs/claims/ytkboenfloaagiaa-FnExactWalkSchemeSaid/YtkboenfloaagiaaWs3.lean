/-
  impl.WalkScheme. (Made by mkws3.py.)
-/
import Derived.Test.YtkboenfloaagiaaWs2
namespace Go.Proofs.Ytkboenfloaagiaa
open Go.RowKit
set_option maxRecDepth 100000
theorem isBetweenW_c (a n b : Int) (w : World) : Calls Try.prog 49 #[.int .i64 a, .int .i64 n, .int .i64 b] w fun e w' => e = .returned (.bool (decide (a ≤ n) && decide (n ≤ b))) ∧ w = w' := by
  by_cases h : a ≤ n
  · have h1 : decide (a ≤ n) = true := by simp [h]
    go_enter Try.func49, Try.ntmps49
    go_wp2_with fail
    go_ret
    exact ⟨by simp [h], rfl⟩
  · have h1 : decide (a ≤ n) = false := by simp [h]
    go_enter Try.func49, Try.ntmps49
    go_wp2_with fail
    go_ret
    exact ⟨by simp, rfl⟩
/-! ### Powers -/
theorem nextW_c (b x : Nat) (w : World) (h9 : At w b (.cells #[.int .i64 x] 77 (0, 0))) (hx : x < 2147483647) : Calls Try.prog 51 #[.pointer (some ⟨b, 0, none⟩)] w fun e w' => e = .returned (.int .i64 (nxW x)) ∧ Put w w' b (.cells #[.int .i64 (nxW x)] 77 (0, 0)) := by
  obtain ⟨X1, hX1⟩ : ∃ z9, x * 48271 = z9 := ⟨_, rfl⟩
  have hX1b : X1 < 103662000000000 := by omega
  have HX1 : Hid (IntKind.i64.wrap ((x : Int) * 48271) = (X1 : Int)) := Lib.hid (by rw [IntWalk.i64_in _ (by omega)]; omega)
  have HY1 : Hid ((X1 : Int).tmod 2147483647 = ((nxW x : Nat) : Int)) := Lib.hid (by rw [Int.tmod_eq_emod_of_nonneg (by omega)]; unfold nxW; omega)
  obtain ⟨Y1, hY1⟩ : ∃ z9, nxW x = z9 := ⟨_, rfl⟩
  rw [hY1] at HY1 ⊢
  clear hX1 hY1
  go_enter Try.func51, Try.ntmps51
  go_upto_region 0 with (fail)
  refine wp_region_lit ?_
  refine ls_ex (some 2) (.int .i64 0) rfl rfl (exec_assign _ rfl (.int .i64 0) rfl) ?_
  go_frame
  refine wpList_nil ?_
  go_upto_region 1 with (fail)
  refine wp_region_lit ?_
  refine ls_ex (some 3) (.pointer (some ⟨b, 0, none⟩)) rfl rfl (exec_move _ rfl (.pointer (some ⟨b, 0, none⟩)) rfl) ?_
  go_frame
  refine ls_ex (some 4) (.pointer (some ⟨b, 0, none⟩)) rfl rfl (exec_move _ rfl (.pointer (some ⟨b, 0, none⟩)) rfl) ?_
  go_frame
  refine ls_ex (some 5) (.pointer (some ⟨b, 0, none⟩)) rfl rfl (exec_nilCheck _ rfl ⟨b, 0, none⟩ rfl) ?_
  go_frame
  refine ls_ex (some 6) (.int .i64 x) rfl rfl (exec_load_one 77 _ rfl b 0 rfl (.int .i64 x) _ Try.underlying77 rfl (h9.at_ 0)) ?_
  go_frame
  refine ls_ex (some 7) (.int .i64 X1) rfl rfl (exec_mul _ _ _ _ rfl x 48271 X1 rfl rfl HX1.out) ?_
  go_frame
  refine ls_ex (some 8) (.int .i64 Y1) rfl rfl (exec_rem _ _ _ _ rfl X1 2147483647 Y1 rfl rfl (by decide) HY1.out) ?_
  go_frame
  refine ls_ex (some 9) (.pointer (some ⟨b, 0, none⟩)) rfl rfl (exec_nilCheck _ rfl ⟨b, 0, none⟩ rfl) ?_
  go_frame
  refine ls_op rfl (fun K' hK' => ?_)
  refine wp_store_one 77 _ _ rfl rfl b 0 rfl (.int .i64 Y1) rfl rfl rfl _ _ h9 (by kernel_rfl) (by simp) (fun W9 hput => ?_)
  replace h9 : At W9 b (.cells #[.int .i64 Y1] 77 (0, 0)) := hput.at_
  refine hK' _ _ ?_
  clear hK' K'
  refine wpList_nil ?_
  go_upto_region 2 with (fail)
  refine wp_region_lit ?_
  refine ls_ex (some 10) (.pointer (some ⟨b, 0, none⟩)) rfl rfl (exec_move _ rfl (.pointer (some ⟨b, 0, none⟩)) rfl) ?_
  go_frame
  refine ls_ex (some 11) (.pointer (some ⟨b, 0, none⟩)) rfl rfl (exec_nilCheck _ rfl ⟨b, 0, none⟩ rfl) ?_
  go_frame
  refine ls_ex (some 12) (.int .i64 Y1) rfl rfl (exec_load_one 77 _ rfl b 0 rfl (.int .i64 Y1) _ Try.underlying77 rfl (h9.at_ 0)) ?_
  go_frame
  refine ls_ex (some 2) (.int .i64 Y1) rfl rfl (exec_assign _ rfl (.int .i64 Y1) rfl) ?_
  go_frame
  refine wpList_nil ?_
  go_wp2_with fail
  go_ret
  exact ⟨rfl, hput⟩
theorem exec_build_flip {o : Oper} {a : Act} {w : World} (x y z : Operand) (ho : o.op = .build 80 #[(0, x), (1, y), (2, z)]) (n m k : Int) (hx : a.eval x = .int .i64 n) (hy : a.eval y = .int .i64 m) (hz : a.eval z = .int .i64 k) :
    (execOp a.eval o).run Try.prog w = .ok (.value (.agg #[.int .i64 n, .int .i64 m, .int .i64 k])) w := by
  have hb : Try.prog.built 80 [(0, .int .i64 n), (1, .int .i64 m), (2, .int .i64 k)] = some #[.int .i64 n, .int .i64 m, .int .i64 k] := by kernel_rfl
  unfold execOp
  have := run_build (P := Try.prog) w 80 #[(0, .int .i64 n), (1, .int .i64 m), (2, .int .i64 k)] _ hb
  simp [ho, hx, hy, hz, this]
theorem flB_ne {Q R : List Nat} {i j f : Nat} (h : flB Q R i j f = true) : i ≠ j := by
  unfold flB at h
  simp only [Bool.and_eq_true, decide_eq_true_eq] at h
  exact h.1
attribute [local irreducible] wpList
theorem al_impl_flip {o : Oper} {a : Act} {w : World} (ho : o.op = .alloc 80) : (execOp a.eval o).run Try.prog w = .ok (.value (.pointer (some ⟨w.heap.size, 0, none⟩))) (w.alloc (.cells #[.int .i64 0, .int .i64 0, .int .i64 0] 80 (0, 0))) := by
  unfold execOp
  rw [ho]
  kernel_rfl
theorem al_impl_walkNumber {o : Oper} {a : Act} {w : World} (ho : o.op = .alloc 77) : (execOp a.eval o).run Try.prog w = .ok (.value (.pointer (some ⟨w.heap.size, 0, none⟩))) (w.alloc (.cells #[.int .i64 0] 77 (0, 0))) := by
  unfold execOp
  rw [ho]
  kernel_rfl
set_option maxHeartbeats 4000000 in
theorem implWalk_a (p n m k : Int) (a0 c : Nat) (qs : List (List Nat)) (sd st : Int) (w : World) (hR : Rd w (some ⟨a0, 0, none⟩) qs) (hlen : qs.length ≤ 1048576) (hs : schemeB p n m k qs = false) :
    Calls Try.prog 22 #[.agg #[.int .i64 p, .int .i64 n, .int .i64 m, .int .i64 k, .slice (some ⟨a0, 0, none⟩) qs.length c], .int .i64 sd, .int .i64 st] w (ResS w (wsZ (wsCode p n m k qs sd st) p) (wsZ (wsCode p n m k qs sd st) n) (wsZ (wsCode p n m k qs sd st) m) (wsZ (wsCode p n m k qs sd st) k) (wsL (wsCode p n m k qs sd st) (wst p qs sd.toNat st.toNat).1) (wsCode p n m k qs sd st)) := by
  have hB := Below.refl w.heap.size w
  have HC : Hid (wsCode p n m k qs sd st = 1) := Lib.hid (by unfold wsCode; rw [hs]; rfl)
  have Hs := Lib.hid hs
  clear hs
  go_enter Try.func22, Try.ntmps22
  go_upto_region 0 with (fail)
  refine wp_region_lit ?_
  refine ls_op rfl (fun K' hK' => ?_)
  have lz1 := hB.size
  refine wp_new (some 3) rfl (exec_box 31 _ rfl (#[.int .i64 p, .int .i64 n, .int .i64 m, .int .i64 k, .slice (some ⟨a0, 0, none⟩) qs.length c]) rfl) (fun Wz2 nnz3 => ?_)
  have bz4 := nnz3.below (Below.refl _ _) (Nat.le_refl _)
  replace hB := below_after hB bz4
  have hz5 : At Wz2 w.heap.size (.cells #[.int .i64 p, .int .i64 n, .int .i64 m, .int .i64 k, .slice (some ⟨a0, 0, none⟩) qs.length c] 31 (0, 0)) := nnz3.at_
  refine hK' _ _ ?_
  clear hK' K' nnz3 bz4
  go_frame
  refine ls_op rfl (fun K' hK' => ?_)
  have lz6 := hB.size
  have lz7 := hz5.lt
  refine wp_new (some 6) rfl (al_impl_Scheme rfl) (fun Wz8 nnz9 => ?_)
  have bz10 := nnz9.below (Below.refl _ _) (Nat.le_refl _)
  replace hB := below_after hB bz10
  replace hz5 := hz5.after bz10
  have hz11 : At Wz8 Wz2.heap.size (.cells #[.int .i64 0, .int .i64 0, .int .i64 0, .int .i64 0, .slice none 0 0] 31 (0, 0)) := nnz9.at_
  refine hK' _ _ ?_
  clear hK' K' nnz9 bz10
  go_frame
  refine ls_ex (some 7) (.int .i64 0) rfl rfl (exec_assign _ rfl (.int .i64 0) rfl) ?_
  go_frame
  refine wpList_nil ?_
  go_upto_region 1 with (fail)
  refine wp_region_lit ?_
  refine ls_ex (some 15) (.agg #[.int .i64 p, .int .i64 n, .int .i64 m, .int .i64 k, .slice (some ⟨a0, 0, none⟩) qs.length c]) rfl rfl (exec_load_all 31 _ rfl w.heap.size rfl _ _ _ hz5 Try.underlying31 rfl 5 (by kernel_rfl) rfl) ?_
  go_frame
  refine ls_op rfl (fun K' hK' => ?_)
  have lz14 := hB.size
  have lz15 := hz5.lt
  have lz16 := hz11.lt
  refine wp_call1 (some 16) rfl 27 _ _ rfl (fun args w => by kernel_rfl) _ rfl _ (implIsScheme_c p n m k (some ⟨a0, 0, none⟩) c qs _ (hR.keep hB) (by omega)) (fun e Wz12 h => ?_)
  obtain ⟨rfl, bz13⟩ := h
  replace hB := below_after hB bz13
  replace hz5 := hz5.after bz13
  replace hz11 := hz11.after bz13
  rw [Hs.out]
  clear bz13
  refine ⟨_, rfl, ?_⟩
  refine hK' _ _ ?_
  clear hK' K'
  go_frame
  refine ls_ex (some 17) (.bool true) rfl rfl (exec_not _ _ rfl false rfl) ?_
  go_frame
  refine wpList_nil ?_
  go_upto_region 2 with (fail)
  refine wp_region_lit ?_
  refine ls_ex (some 18) (.agg #[.int .i64 0, .int .i64 0, .int .i64 0, .int .i64 0, .slice none 0 0]) rfl rfl (exec_build_nil 31 rfl _ (by kernel_rfl)) ?_
  go_frame
  refine ls_op rfl (fun K' hK' => ?_)
  refine wp_store_all 31 _ _ rfl rfl Wz2.heap.size rfl #[.int .i64 0, .int .i64 0, .int .i64 0, .int .i64 0, .slice none 0 0] rfl _ _ hz11 5 (by kernel_rfl) rfl rfl (one5 _ _ _ _ _ _ _) (fun Wz17 pz18 => ?_)
  replace hB := pz18.below hB (by omega)
  replace hz5 := pz18.other hz5 (by omega)
  replace hz11 : At Wz17 Wz2.heap.size (.cells #[.int .i64 0, .int .i64 0, .int .i64 0, .int .i64 0, .slice none 0 0] 31 (0, 0)) := pz18.at_
  refine hK' _ _ ?_
  clear hK' K' pz18
  refine ls_ex (some 7) (.int .i64 1) rfl rfl (exec_assign _ rfl (.int .i64 1) rfl) ?_
  go_frame
  refine wpList_nil ?_
  go_wp2_with fail
  refine bodyPost_ret (results_at2 rfl _ _ Wz2.heap.size _ _ _ rfl _ rfl hz11 Try.underlying31 rfl 5 (by kernel_rfl) rfl) rfl ?_
  unfold ResS wsZ wsL
  rw [HC.out]
  exact ⟨_, rfl, Own.nil _ _, hB⟩
set_option maxHeartbeats 4000000 in
theorem implWalk_b (p n m k : Int) (a0 c : Nat) (qs : List (List Nat)) (sd st : Int) (w : World) (hR : Rd w (some ⟨a0, 0, none⟩) qs) (hlen : qs.length ≤ 1048576) (hs : schemeB p n m k qs = true) (h1 : (decide (1 ≤ sd) && decide (sd ≤ 2147483646)) = false) :
    Calls Try.prog 22 #[.agg #[.int .i64 p, .int .i64 n, .int .i64 m, .int .i64 k, .slice (some ⟨a0, 0, none⟩) qs.length c], .int .i64 sd, .int .i64 st] w (ResS w (wsZ (wsCode p n m k qs sd st) p) (wsZ (wsCode p n m k qs sd st) n) (wsZ (wsCode p n m k qs sd st) m) (wsZ (wsCode p n m k qs sd st) k) (wsL (wsCode p n m k qs sd st) (wst p qs sd.toNat st.toNat).1) (wsCode p n m k qs sd st)) := by
  have hB := Below.refl w.heap.size w
  have HC : Hid (wsCode p n m k qs sd st = 2) := Lib.hid (by unfold wsCode; rw [hs, h1]; rfl)
  have Hs := Lib.hid hs
  have H1 := Lib.hid h1
  clear hs h1
  go_enter Try.func22, Try.ntmps22
  go_upto_region 0 with (fail)
  refine wp_region_lit ?_
  refine ls_op rfl (fun K' hK' => ?_)
  have lz1 := hB.size
  refine wp_new (some 3) rfl (exec_box 31 _ rfl (#[.int .i64 p, .int .i64 n, .int .i64 m, .int .i64 k, .slice (some ⟨a0, 0, none⟩) qs.length c]) rfl) (fun Wz2 nnz3 => ?_)
  have bz4 := nnz3.below (Below.refl _ _) (Nat.le_refl _)
  replace hB := below_after hB bz4
  have hz5 : At Wz2 w.heap.size (.cells #[.int .i64 p, .int .i64 n, .int .i64 m, .int .i64 k, .slice (some ⟨a0, 0, none⟩) qs.length c] 31 (0, 0)) := nnz3.at_
  refine hK' _ _ ?_
  clear hK' K' nnz3 bz4
  go_frame
  refine ls_op rfl (fun K' hK' => ?_)
  have lz6 := hB.size
  have lz7 := hz5.lt
  refine wp_new (some 6) rfl (al_impl_Scheme rfl) (fun Wz8 nnz9 => ?_)
  have bz10 := nnz9.below (Below.refl _ _) (Nat.le_refl _)
  replace hB := below_after hB bz10
  replace hz5 := hz5.after bz10
  have hz11 : At Wz8 Wz2.heap.size (.cells #[.int .i64 0, .int .i64 0, .int .i64 0, .int .i64 0, .slice none 0 0] 31 (0, 0)) := nnz9.at_
  refine hK' _ _ ?_
  clear hK' K' nnz9 bz10
  go_frame
  refine ls_ex (some 7) (.int .i64 0) rfl rfl (exec_assign _ rfl (.int .i64 0) rfl) ?_
  go_frame
  refine wpList_nil ?_
  go_upto_region 1 with (fail)
  refine wp_region_lit ?_
  refine ls_ex (some 15) (.agg #[.int .i64 p, .int .i64 n, .int .i64 m, .int .i64 k, .slice (some ⟨a0, 0, none⟩) qs.length c]) rfl rfl (exec_load_all 31 _ rfl w.heap.size rfl _ _ _ hz5 Try.underlying31 rfl 5 (by kernel_rfl) rfl) ?_
  go_frame
  refine ls_op rfl (fun K' hK' => ?_)
  have lz14 := hB.size
  have lz15 := hz5.lt
  have lz16 := hz11.lt
  refine wp_call1 (some 16) rfl 27 _ _ rfl (fun args w => by kernel_rfl) _ rfl _ (implIsScheme_c p n m k (some ⟨a0, 0, none⟩) c qs _ (hR.keep hB) (by omega)) (fun e Wz12 h => ?_)
  obtain ⟨rfl, bz13⟩ := h
  replace hB := below_after hB bz13
  replace hz5 := hz5.after bz13
  replace hz11 := hz11.after bz13
  rw [Hs.out]
  clear bz13
  refine ⟨_, rfl, ?_⟩
  refine hK' _ _ ?_
  clear hK' K'
  go_frame
  refine ls_ex (some 17) (.bool false) rfl rfl (exec_not _ _ rfl true rfl) ?_
  go_frame
  refine wpList_nil ?_
  go_upto_region 3 with (fail)
  refine wp_region_lit ?_
  refine ls_ex (some 19) (.int .i64 sd) rfl rfl (exec_move _ rfl (.int .i64 sd) rfl) ?_
  go_frame
  refine ls_op rfl (fun K' hK' => ?_)
  have lz19 := hB.size
  have lz20 := hz5.lt
  have lz21 := hz11.lt
  refine wp_call3 (some 20) rfl 49 _ _ _ _ rfl (fun args w => by kernel_rfl) _ _ _ rfl rfl rfl _ (isBetweenW_c 1 sd 2147483646 _) (fun e Wz17 h => ?_)
  obtain ⟨rfl, rfl⟩ := h
  rw [H1.out]
  refine ⟨_, rfl, ?_⟩
  refine hK' _ _ ?_
  clear hK' K'
  go_frame
  refine ls_ex (some 21) (.bool true) rfl rfl (exec_not _ _ rfl false rfl) ?_
  go_frame
  refine ls_ex (some 22) (.bool true) rfl rfl (exec_move _ rfl (.bool true) rfl) ?_
  go_frame
  refine ls_skip_g (some 23) rfl rfl ?_
  go_frame
  refine ls_skip_g (some 24) rfl rfl ?_
  go_frame
  refine ls_skip_g (some 25) rfl rfl ?_
  go_frame
  refine ls_ex (some 26) (.bool true) rfl rfl (exec_pick _ _ _ rfl true rfl (.bool true) rfl) ?_
  go_frame
  refine wpList_nil ?_
  go_upto_region 4 with (fail)
  refine wp_region_lit ?_
  refine ls_ex (some 27) (.agg #[.int .i64 0, .int .i64 0, .int .i64 0, .int .i64 0, .slice none 0 0]) rfl rfl (exec_build_nil 31 rfl _ (by kernel_rfl)) ?_
  go_frame
  refine ls_op rfl (fun K' hK' => ?_)
  refine wp_store_all 31 _ _ rfl rfl Wz2.heap.size rfl #[.int .i64 0, .int .i64 0, .int .i64 0, .int .i64 0, .slice none 0 0] rfl _ _ hz11 5 (by kernel_rfl) rfl rfl (one5 _ _ _ _ _ _ _) (fun Wz22 pz23 => ?_)
  replace hB := pz23.below hB (by omega)
  replace hz5 := pz23.other hz5 (by omega)
  replace hz11 : At Wz22 Wz2.heap.size (.cells #[.int .i64 0, .int .i64 0, .int .i64 0, .int .i64 0, .slice none 0 0] 31 (0, 0)) := pz23.at_
  refine hK' _ _ ?_
  clear hK' K' pz23
  refine ls_ex (some 7) (.int .i64 2) rfl rfl (exec_assign _ rfl (.int .i64 2) rfl) ?_
  go_frame
  refine wpList_nil ?_
  go_wp2_with fail
  refine bodyPost_ret (results_at2 rfl _ _ Wz2.heap.size _ _ _ rfl _ rfl hz11 Try.underlying31 rfl 5 (by kernel_rfl) rfl) rfl ?_
  unfold ResS wsZ wsL
  rw [HC.out]
  exact ⟨_, rfl, Own.nil _ _, hB⟩
set_option maxHeartbeats 4000000 in
theorem implWalk_d (p n m k : Int) (a0 c : Nat) (qs : List (List Nat)) (sd st : Int) (w : World) (hR : Rd w (some ⟨a0, 0, none⟩) qs) (hlen : qs.length ≤ 1048576) (hs : schemeB p n m k qs = true) (h1 : (decide (1 ≤ sd) && decide (sd ≤ 2147483646)) = true) (h2 : (decide (0 ≤ st) && decide (st ≤ 200)) = false) :
    Calls Try.prog 22 #[.agg #[.int .i64 p, .int .i64 n, .int .i64 m, .int .i64 k, .slice (some ⟨a0, 0, none⟩) qs.length c], .int .i64 sd, .int .i64 st] w (ResS w (wsZ (wsCode p n m k qs sd st) p) (wsZ (wsCode p n m k qs sd st) n) (wsZ (wsCode p n m k qs sd st) m) (wsZ (wsCode p n m k qs sd st) k) (wsL (wsCode p n m k qs sd st) (wst p qs sd.toNat st.toNat).1) (wsCode p n m k qs sd st)) := by
  have hB := Below.refl w.heap.size w
  have HC : Hid (wsCode p n m k qs sd st = 2) := Lib.hid (by unfold wsCode; rw [hs, h1, h2]; rfl)
  have Hs := Lib.hid hs
  have H1 := Lib.hid h1
  have H2 := Lib.hid h2
  clear hs h1 h2
  go_enter Try.func22, Try.ntmps22
  go_upto_region 0 with (fail)
  refine wp_region_lit ?_
  refine ls_op rfl (fun K' hK' => ?_)
  have lz1 := hB.size
  refine wp_new (some 3) rfl (exec_box 31 _ rfl (#[.int .i64 p, .int .i64 n, .int .i64 m, .int .i64 k, .slice (some ⟨a0, 0, none⟩) qs.length c]) rfl) (fun Wz2 nnz3 => ?_)
  have bz4 := nnz3.below (Below.refl _ _) (Nat.le_refl _)
  replace hB := below_after hB bz4
  have hz5 : At Wz2 w.heap.size (.cells #[.int .i64 p, .int .i64 n, .int .i64 m, .int .i64 k, .slice (some ⟨a0, 0, none⟩) qs.length c] 31 (0, 0)) := nnz3.at_
  refine hK' _ _ ?_
  clear hK' K' nnz3 bz4
  go_frame
  refine ls_op rfl (fun K' hK' => ?_)
  have lz6 := hB.size
  have lz7 := hz5.lt
  refine wp_new (some 6) rfl (al_impl_Scheme rfl) (fun Wz8 nnz9 => ?_)
  have bz10 := nnz9.below (Below.refl _ _) (Nat.le_refl _)
  replace hB := below_after hB bz10
  replace hz5 := hz5.after bz10
  have hz11 : At Wz8 Wz2.heap.size (.cells #[.int .i64 0, .int .i64 0, .int .i64 0, .int .i64 0, .slice none 0 0] 31 (0, 0)) := nnz9.at_
  refine hK' _ _ ?_
  clear hK' K' nnz9 bz10
  go_frame
  refine ls_ex (some 7) (.int .i64 0) rfl rfl (exec_assign _ rfl (.int .i64 0) rfl) ?_
  go_frame
  refine wpList_nil ?_
  go_upto_region 1 with (fail)
  refine wp_region_lit ?_
  refine ls_ex (some 15) (.agg #[.int .i64 p, .int .i64 n, .int .i64 m, .int .i64 k, .slice (some ⟨a0, 0, none⟩) qs.length c]) rfl rfl (exec_load_all 31 _ rfl w.heap.size rfl _ _ _ hz5 Try.underlying31 rfl 5 (by kernel_rfl) rfl) ?_
  go_frame
  refine ls_op rfl (fun K' hK' => ?_)
  have lz14 := hB.size
  have lz15 := hz5.lt
  have lz16 := hz11.lt
  refine wp_call1 (some 16) rfl 27 _ _ rfl (fun args w => by kernel_rfl) _ rfl _ (implIsScheme_c p n m k (some ⟨a0, 0, none⟩) c qs _ (hR.keep hB) (by omega)) (fun e Wz12 h => ?_)
  obtain ⟨rfl, bz13⟩ := h
  replace hB := below_after hB bz13
  replace hz5 := hz5.after bz13
  replace hz11 := hz11.after bz13
  rw [Hs.out]
  clear bz13
  refine ⟨_, rfl, ?_⟩
  refine hK' _ _ ?_
  clear hK' K'
  go_frame
  refine ls_ex (some 17) (.bool false) rfl rfl (exec_not _ _ rfl true rfl) ?_
  go_frame
  refine wpList_nil ?_
  go_upto_region 3 with (fail)
  refine wp_region_lit ?_
  refine ls_ex (some 19) (.int .i64 sd) rfl rfl (exec_move _ rfl (.int .i64 sd) rfl) ?_
  go_frame
  refine ls_op rfl (fun K' hK' => ?_)
  have lz19 := hB.size
  have lz20 := hz5.lt
  have lz21 := hz11.lt
  refine wp_call3 (some 20) rfl 49 _ _ _ _ rfl (fun args w => by kernel_rfl) _ _ _ rfl rfl rfl _ (isBetweenW_c 1 sd 2147483646 _) (fun e Wz17 h => ?_)
  obtain ⟨rfl, rfl⟩ := h
  rw [H1.out]
  refine ⟨_, rfl, ?_⟩
  refine hK' _ _ ?_
  clear hK' K'
  go_frame
  refine ls_ex (some 21) (.bool false) rfl rfl (exec_not _ _ rfl true rfl) ?_
  go_frame
  refine ls_ex (some 22) (.bool false) rfl rfl (exec_move _ rfl (.bool false) rfl) ?_
  go_frame
  refine ls_ex_g (some 23) (.int .i64 st) rfl rfl (exec_move _ rfl (.int .i64 st) rfl) ?_
  go_frame
  refine ls_op_g rfl (fun K' hK' => ?_)
  have lz24 := hB.size
  have lz25 := hz5.lt
  have lz26 := hz11.lt
  refine wp_call3 (some 24) rfl 49 _ _ _ _ rfl (fun args w => by kernel_rfl) _ _ _ rfl rfl rfl _ (isBetweenW_c 0 st 200 _) (fun e Wz22 h => ?_)
  obtain ⟨rfl, rfl⟩ := h
  rw [H2.out]
  refine ⟨_, rfl, ?_⟩
  refine hK' _ _ ?_
  clear hK' K'
  go_frame
  refine ls_ex_g (some 25) (.bool true) rfl rfl (exec_not _ _ rfl false rfl) ?_
  go_frame
  refine ls_ex (some 26) (.bool true) rfl rfl (exec_pick _ _ _ rfl false rfl (.bool true) rfl) ?_
  go_frame
  refine wpList_nil ?_
  go_upto_region 4 with (fail)
  refine wp_region_lit ?_
  refine ls_ex (some 27) (.agg #[.int .i64 0, .int .i64 0, .int .i64 0, .int .i64 0, .slice none 0 0]) rfl rfl (exec_build_nil 31 rfl _ (by kernel_rfl)) ?_
  go_frame
  refine ls_op rfl (fun K' hK' => ?_)
  refine wp_store_all 31 _ _ rfl rfl Wz2.heap.size rfl #[.int .i64 0, .int .i64 0, .int .i64 0, .int .i64 0, .slice none 0 0] rfl _ _ hz11 5 (by kernel_rfl) rfl rfl (one5 _ _ _ _ _ _ _) (fun Wz27 pz28 => ?_)
  replace hB := pz28.below hB (by omega)
  replace hz5 := pz28.other hz5 (by omega)
  replace hz11 : At Wz27 Wz2.heap.size (.cells #[.int .i64 0, .int .i64 0, .int .i64 0, .int .i64 0, .slice none 0 0] 31 (0, 0)) := pz28.at_
  refine hK' _ _ ?_
  clear hK' K' pz28
  refine ls_ex (some 7) (.int .i64 2) rfl rfl (exec_assign _ rfl (.int .i64 2) rfl) ?_
  go_frame
  refine wpList_nil ?_
  go_wp2_with fail
  refine bodyPost_ret (results_at2 rfl _ _ Wz2.heap.size _ _ _ rfl _ rfl hz11 Try.underlying31 rfl 5 (by kernel_rfl) rfl) rfl ?_
  unfold ResS wsZ wsL
  rw [HC.out]
  exact ⟨_, rfl, Own.nil _ _, hB⟩
set_option maxHeartbeats 51200000 in
theorem implWalk_y (p n m k : Int) (a0 c : Nat) (qs : List (List Nat)) (sd st : Int) (w : World) (hR : Rd w (some ⟨a0, 0, none⟩) qs) (hlen : qs.length ≤ 1048576) (hs : schemeB p n m k qs = true) (h1 : (decide (1 ≤ sd) && decide (sd ≤ 2147483646)) = true) (h2 : (decide (0 ≤ st) && decide (st ≤ 200)) = true) :
    Calls Try.prog 22 #[.agg #[.int .i64 p, .int .i64 n, .int .i64 m, .int .i64 k, .slice (some ⟨a0, 0, none⟩) qs.length c], .int .i64 sd, .int .i64 st] w (ResS w (wsZ (wsCode p n m k qs sd st) p) (wsZ (wsCode p n m k qs sd st) n) (wsZ (wsCode p n m k qs sd st) m) (wsZ (wsCode p n m k qs sd st) k) (wsL (wsCode p n m k qs sd st) (wst p qs sd.toNat st.toNat).1) (wsCode p n m k qs sd st)) := by
  have hB := Below.refl w.heap.size w
  have HC : Hid (wsCode p n m k qs sd st = 0) := Lib.hid (by unfold wsCode; rw [hs, h1, h2]; rfl)
  have h1' := h1
  have h2' := h2
  simp only [Bool.and_eq_true, decide_eq_true_eq] at h1' h2'
  obtain ⟨S, rfl⟩ := Int.eq_ofNat_of_zero_le (show 0 ≤ sd by omega)
  obtain ⟨T, rfl⟩ := Int.eq_ofNat_of_zero_le (show 0 ≤ st by omega)
  have hpr := (sizesB_parts (schemeB_sizes hs)).1
  have hp2 : 2 ≤ p ∧ p ≤ 5 := ⟨prime_two hpr, (primeB_5 hpr).2⟩
  have hl30 := schemeB_len hs
  have Hs := Lib.hid hs
  have H1 := Lib.hid h1
  have H2 := Lib.hid h2
  clear hs h1 h2 hpr
  go_enter Try.func22, Try.ntmps22
  go_upto_region 0 with (fail)
  refine wp_region_lit ?_
  refine ls_op rfl (fun K' hK' => ?_)
  have lz1 := hB.size
  refine wp_new (some 3) rfl (exec_box 31 _ rfl (#[.int .i64 p, .int .i64 n, .int .i64 m, .int .i64 k, .slice (some ⟨a0, 0, none⟩) qs.length c]) rfl) (fun Wz2 nnz3 => ?_)
  have bz4 := nnz3.below (Below.refl _ _) (Nat.le_refl _)
  replace hB := below_after hB bz4
  have hz5 : At Wz2 w.heap.size (.cells #[.int .i64 p, .int .i64 n, .int .i64 m, .int .i64 k, .slice (some ⟨a0, 0, none⟩) qs.length c] 31 (0, 0)) := nnz3.at_
  refine hK' _ _ ?_
  clear hK' K' nnz3 bz4
  go_frame
  refine ls_op rfl (fun K' hK' => ?_)
  have lz6 := hB.size
  have lz7 := hz5.lt
  refine wp_new (some 6) rfl (al_impl_Scheme rfl) (fun Wz8 nnz9 => ?_)
  have bz10 := nnz9.below (Below.refl _ _) (Nat.le_refl _)
  replace hB := below_after hB bz10
  replace hz5 := hz5.after bz10
  have hz11 : At Wz8 Wz2.heap.size (.cells #[.int .i64 0, .int .i64 0, .int .i64 0, .int .i64 0, .slice none 0 0] 31 (0, 0)) := nnz9.at_
  refine hK' _ _ ?_
  clear hK' K' nnz9 bz10
  go_frame
  refine ls_ex (some 7) (.int .i64 0) rfl rfl (exec_assign _ rfl (.int .i64 0) rfl) ?_
  go_frame
  refine wpList_nil ?_
  go_upto_region 1 with (fail)
  refine wp_region_lit ?_
  refine ls_ex (some 15) (.agg #[.int .i64 p, .int .i64 n, .int .i64 m, .int .i64 k, .slice (some ⟨a0, 0, none⟩) qs.length c]) rfl rfl (exec_load_all 31 _ rfl w.heap.size rfl _ _ _ hz5 Try.underlying31 rfl 5 (by kernel_rfl) rfl) ?_
  go_frame
  refine ls_op rfl (fun K' hK' => ?_)
  have lz14 := hB.size
  have lz15 := hz5.lt
  have lz16 := hz11.lt
  refine wp_call1 (some 16) rfl 27 _ _ rfl (fun args w => by kernel_rfl) _ rfl _ (implIsScheme_c p n m k (some ⟨a0, 0, none⟩) c qs _ (hR.keep hB) (by omega)) (fun e Wz12 h => ?_)
  obtain ⟨rfl, bz13⟩ := h
  replace hB := below_after hB bz13
  replace hz5 := hz5.after bz13
  replace hz11 := hz11.after bz13
  rw [Hs.out]
  clear bz13
  refine ⟨_, rfl, ?_⟩
  refine hK' _ _ ?_
  clear hK' K'
  go_frame
  refine ls_ex (some 17) (.bool false) rfl rfl (exec_not _ _ rfl true rfl) ?_
  go_frame
  refine wpList_nil ?_
  go_upto_region 3 with (fail)
  refine wp_region_lit ?_
  refine ls_ex (some 19) (.int .i64 S) rfl rfl (exec_move _ rfl (.int .i64 S) rfl) ?_
  go_frame
  refine ls_op rfl (fun K' hK' => ?_)
  have lz19 := hB.size
  have lz20 := hz5.lt
  have lz21 := hz11.lt
  refine wp_call3 (some 20) rfl 49 _ _ _ _ rfl (fun args w => by kernel_rfl) _ _ _ rfl rfl rfl _ (isBetweenW_c 1 S 2147483646 _) (fun e Wz17 h => ?_)
  obtain ⟨rfl, rfl⟩ := h
  rw [H1.out]
  refine ⟨_, rfl, ?_⟩
  refine hK' _ _ ?_
  clear hK' K'
  go_frame
  refine ls_ex (some 21) (.bool false) rfl rfl (exec_not _ _ rfl true rfl) ?_
  go_frame
  refine ls_ex (some 22) (.bool false) rfl rfl (exec_move _ rfl (.bool false) rfl) ?_
  go_frame
  refine ls_ex_g (some 23) (.int .i64 T) rfl rfl (exec_move _ rfl (.int .i64 T) rfl) ?_
  go_frame
  refine ls_op_g rfl (fun K' hK' => ?_)
  have lz24 := hB.size
  have lz25 := hz5.lt
  have lz26 := hz11.lt
  refine wp_call3 (some 24) rfl 49 _ _ _ _ rfl (fun args w => by kernel_rfl) _ _ _ rfl rfl rfl _ (isBetweenW_c 0 T 200 _) (fun e Wz22 h => ?_)
  obtain ⟨rfl, rfl⟩ := h
  rw [H2.out]
  refine ⟨_, rfl, ?_⟩
  refine hK' _ _ ?_
  clear hK' K'
  go_frame
  refine ls_ex_g (some 25) (.bool false) rfl rfl (exec_not _ _ rfl true rfl) ?_
  go_frame
  refine ls_ex (some 26) (.bool false) rfl rfl (exec_pick _ _ _ rfl false rfl (.bool false) rfl) ?_
  go_frame
  refine wpList_nil ?_
  go_upto_region 5 with (fail)
  refine wp_region_lit ?_
  refine ls_ex (some 28) (.agg #[.int .i64 p, .int .i64 n, .int .i64 m, .int .i64 k, .slice (some ⟨a0, 0, none⟩) qs.length c]) rfl rfl (exec_load_all 31 _ rfl w.heap.size rfl _ _ _ hz5 Try.underlying31 rfl 5 (by kernel_rfl) rfl) ?_
  go_frame
  refine ls_ex (some 29) (.pointer (some ⟨w.heap.size, 4, none⟩)) rfl rfl (exec_fieldAddr 31 _ 4 rfl _ (by kernel_rfl)) ?_
  go_frame
  refine ls_ex (some 30) (.slice (some ⟨a0, 0, none⟩) qs.length c) rfl rfl (exec_load_one 29 _ rfl w.heap.size 4 rfl (.slice (some ⟨a0, 0, none⟩) qs.length c) _ Try.underlying29 rfl (hz5.at_ 4)) ?_
  go_frame
  refine ls_op rfl (fun K' hK' => ?_)
  have lz27 := hB.size
  have lz28 := hz5.lt
  have lz29 := hz11.lt
  refine wp_new (some 31) rfl (exec_bs1PP _ rfl (some ⟨a0, 0, none⟩) qs.length c rfl) (fun Wz30 nnz31 => ?_)
  have bz32 := nnz31.below (Below.refl _ _) (Nat.le_refl _)
  replace hB := below_after hB bz32
  replace hz5 := hz5.after bz32
  replace hz11 := hz11.after bz32
  have hlz33 : At Wz30 Wz12.heap.size (.cells #[.slice (some ⟨a0, 0, none⟩) qs.length c] 29 (0, 0)) := nnz31.at_
  refine hK' _ _ ?_
  clear hK' K' nnz31 bz32
  go_frame
  refine ls_op rfl (fun K' hK' => ?_)
  have lz36 := hB.size
  have lz37 := hz5.lt
  have lz38 := hz11.lt
  have lz39 := hlz33.lt
  have lo3 := hB.size
  refine wp_call2 (some 32) rfl 50 _ _ _ rfl (fun args w => by kernel_rfl) _ _ rfl rfl _ (withProducts1_c p n m k _ rfl (Wz12.heap.size) (some ⟨a0, 0, none⟩) c qs _ hlz33 (hR.keep hB) (fun h => by cases h) (by omega)) (fun e Wz34 h => ?_)
  obtain ⟨v3, rfl, ho, bz35⟩ := h
  replace hB := below_after hB bz35
  replace hz5 := hz5.after bz35
  replace hz11 := hz11.after bz35
  replace hlz33 := hlz33.after bz35
  obtain ⟨A3, c3, rfl⟩ := Own.rdN2 ho (n := qs.length) rfl
  clear bz35
  refine ⟨_, rfl, ?_⟩
  refine hK' _ _ ?_
  clear hK' K'
  go_frame
  refine ls_ex (some 33) (.int .i64 S) rfl rfl (exec_move _ rfl (.int .i64 S) rfl) ?_
  go_frame
  refine ls_op rfl (fun K' hK' => ?_)
  have lz40 := hB.size
  have lz41 := hz5.lt
  have lz42 := hz11.lt
  have lz43 := hlz33.lt
  have naz48 := ho.away_new
  refine wp_new (some 8) rfl (al_impl_Scheme rfl) (fun Wz44 nnz45 => ?_)
  have bz46 := nnz45.below (Below.refl _ _) (Nat.le_refl _)
  replace hB := below_after hB bz46
  replace hz5 := hz5.after bz46
  replace hz11 := hz11.after bz46
  replace hlz33 := hlz33.after bz46
  replace ho := ho.below bz46
  have hz47 : At Wz44 Wz34.heap.size (.cells #[.int .i64 0, .int .i64 0, .int .i64 0, .int .i64 0, .slice none 0 0] 31 (0, 0)) := nnz45.at_
  refine hK' _ _ ?_
  clear hK' K' nnz45 bz46
  go_frame
  refine ls_op rfl (fun K' hK' => ?_)
  have lz49 := hB.size
  have lz50 := hz5.lt
  have lz51 := hz11.lt
  have lz52 := hlz33.lt
  have lz53 := hz47.lt
  have naz58 := ho.away_new
  refine wp_new (some 9) rfl (al_impl_walkNumber rfl) (fun Wz54 nnz55 => ?_)
  have bz56 := nnz55.below (Below.refl _ _) (Nat.le_refl _)
  replace hB := below_after hB bz56
  replace hz5 := hz5.after bz56
  replace hz11 := hz11.after bz56
  replace hlz33 := hlz33.after bz56
  replace ho := ho.below bz56
  replace hz47 := hz47.after bz56
  have hz57 : At Wz54 Wz44.heap.size (.cells #[.int .i64 0] 77 (0, 0)) := nnz55.at_
  refine hK' _ _ ?_
  clear hK' K' nnz55 bz56
  go_frame
  refine ls_op rfl (fun K' hK' => ?_)
  refine wp_store_all 31 _ _ rfl rfl Wz34.heap.size rfl #[.int .i64 p, .int .i64 n, .int .i64 m, .int .i64 k, .slice A3 qs.length c3] rfl _ _ hz47 5 (by kernel_rfl) rfl rfl (one5 _ _ _ _ _ _ _) (fun Wz59 pz60 => ?_)
  replace hB := pz60.below hB (by omega)
  replace hz5 := pz60.other hz5 (by omega)
  replace hz11 := pz60.other hz11 (by omega)
  replace hlz33 := pz60.other hlz33 (by omega)
  replace ho := ho.put pz60 naz48
  replace hz57 := pz60.other hz57 (by omega)
  replace hz47 : At Wz59 Wz34.heap.size (.cells #[.int .i64 p, .int .i64 n, .int .i64 m, .int .i64 k, .slice A3 qs.length c3] 31 (0, 0)) := pz60.at_
  refine hK' _ _ ?_
  clear hK' K' pz60
  refine ls_op rfl (fun K' hK' => ?_)
  refine wp_store_one 77 _ _ rfl rfl Wz44.heap.size 0 rfl (.int .i64 S) rfl rfl rfl _ _ hz57 (by kernel_rfl) (by simp) (fun Wz61 pz62 => ?_)
  replace hB := pz62.below hB (by omega)
  replace hz5 := pz62.other hz5 (by omega)
  replace hz11 := pz62.other hz11 (by omega)
  replace hlz33 := pz62.other hlz33 (by omega)
  replace ho := ho.put pz62 naz58
  replace hz47 := pz62.other hz47 (by omega)
  replace hz57 : At Wz61 Wz44.heap.size (.cells #[.int .i64 S] 77 (0, 0)) := pz62.at_
  refine hK' _ _ ?_
  clear hK' K' pz62
  refine wpList_nil ?_
  go_upto_region 6 with (fail)
  refine wp_region_lit ?_
  refine ls_ex (some 34) (.int .i64 T) rfl rfl (exec_move _ rfl (.int .i64 T) rfl) ?_
  go_frame
  refine ls_ex (some 35) (.int .i64 0) rfl rfl (exec_move _ rfl (.int .i64 0) rfl) ?_
  go_frame
  refine wpList_nil ?_
  go_wp2_with fail
  go_loopw [35] (fun s35 wr => ∃ (t : Nat) (L : List (List Nat)) (x : Nat) (v : Value), t ≤ T ∧ s35 = .int .i64 t ∧ Hid (wst p qs S t = (L, x)) ∧ x < 2147483647 ∧ Below w.heap.size w wr ∧ At wr w.heap.size (.cells #[.int .i64 p, .int .i64 n, .int .i64 m, .int .i64 k, .slice (some ⟨a0, 0, none⟩) qs.length c] 31 (0, 0)) ∧ At wr Wz2.heap.size (.cells #[.int .i64 0, .int .i64 0, .int .i64 0, .int .i64 0, .slice none 0 0] 31 (0, 0)) ∧ At wr Wz34.heap.size (.cells #[.int .i64 p, .int .i64 n, .int .i64 m, .int .i64 k, v] 31 (0, 0)) ∧ At wr Wz44.heap.size (.cells #[.int .i64 (x : Nat)] 77 (0, 0)) ∧ Own wr w.heap.size v L) (fun s35 _ => T - (intOf s35).toNat)
  case atStart => exact ⟨0, qs, S, _, by omega, rfl, Lib.hid rfl, by omega, hB, hz5, hz11, hz47, hz57, ho.mono (by omega)⟩
  case round =>
    clear hB hz5 hz11 hlz33 ho hz47 hz57
    obtain ⟨t, L, x, v, ht, rfl, HW, hx, hB, h3, h6, h8, h9, ho⟩ := hrel
    have hok := wst_ok (p := p) (qs := qs) (x := S) hR.good hp2 (by omega) t
    rw [HW.out] at hok
    simp only at hok
    have HLb := Lib.hid hok.1
    have hLn := hok.2.1
    clear hok
    by_cases hlt : t < T
    · by_cases hN : L.length = 0
      · obtain ⟨U, hU⟩ : ∃ z9, nxW x = z9 := ⟨_, rfl⟩
        obtain ⟨V, hV⟩ : ∃ z9, nxW U = z9 := ⟨_, rfl⟩
        obtain ⟨Y, hY⟩ : ∃ z9, nxW V = z9 := ⟨_, rfl⟩
        have hUb : U < 2147483647 := by rw [← hU]; exact nxW_lt _
        have hVb : V < 2147483647 := by rw [← hV]; exact nxW_lt _
        have hYb : Y < 2147483647 := by rw [← hY]; exact nxW_lt _
        have HU := Lib.hid hU
        have HV := Lib.hid hV
        have HY := Lib.hid hY
        obtain ⟨A9, c9, rfl⟩ := Own.rdN2 ho (n := L.length) rfl
        have HFL : Hid ((wst p qs S T).1 = L) := Lib.hid (by rw [List.eq_nil_of_length_eq_zero hN]; exact wst_nil (by rw [HW.out]; exact List.eq_nil_of_length_eq_zero hN) ht)
        clear hU hV hY
        go_upto_region 7 with (fail)
        refine wp_region_lit ?_
        refine ls_ex (some 36) (.bool true) rfl rfl (exec_lss _ _ _ _ rfl t T rfl rfl true (decide_eq_true (by omega))) ?_
        go_frame
        refine wpList_nil ?_
        go_upto_region 8 with (fail)
        refine wp_region_lit ?_
        refine ls_op rfl (fun K' hK' => ?_)
        have lz65 := hB.size
        have lz66 := h3.lt
        have lz67 := h6.lt
        have lz68 := h8.lt
        have lz69 := h9.lt
        refine wp_call1 (some 37) rfl 51 _ _ rfl (fun args w => by kernel_rfl) _ rfl _ (nextW_c Wz44.heap.size x _ h9 (by omega)) (fun e Wz63 h => ?_)
        obtain ⟨rfl, pz64⟩ := h
        rw [HU.out] at pz64
        replace hB := pz64.below hB (by omega)
        replace h3 := pz64.other h3 (by omega)
        replace h6 := pz64.other h6 (by omega)
        replace h8 := pz64.other h8 (by omega)
        replace ho := ho.put pz64 (ho.off h9 (by decide))
        replace h9 : At Wz63 Wz44.heap.size (.cells #[.int .i64 (U : Nat)] 77 (0, 0)) := pz64.at_
        rw [HU.out]
        refine ⟨_, rfl, ?_⟩
        refine hK' _ _ ?_
        clear hK' K' pz64
        go_frame
        refine ls_op rfl (fun K' hK' => ?_)
        have lz72 := hB.size
        have lz73 := h3.lt
        have lz74 := h6.lt
        have lz75 := h8.lt
        have lz76 := h9.lt
        refine wp_call1 (some 38) rfl 51 _ _ rfl (fun args w => by kernel_rfl) _ rfl _ (nextW_c Wz44.heap.size U _ h9 (by omega)) (fun e Wz70 h => ?_)
        obtain ⟨rfl, pz71⟩ := h
        rw [HV.out] at pz71
        replace hB := pz71.below hB (by omega)
        replace h3 := pz71.other h3 (by omega)
        replace h6 := pz71.other h6 (by omega)
        replace h8 := pz71.other h8 (by omega)
        replace ho := ho.put pz71 (ho.off h9 (by decide))
        replace h9 : At Wz70 Wz44.heap.size (.cells #[.int .i64 (V : Nat)] 77 (0, 0)) := pz71.at_
        rw [HV.out]
        refine ⟨_, rfl, ?_⟩
        refine hK' _ _ ?_
        clear hK' K' pz71
        go_frame
        refine ls_op rfl (fun K' hK' => ?_)
        have lz79 := hB.size
        have lz80 := h3.lt
        have lz81 := h6.lt
        have lz82 := h8.lt
        have lz83 := h9.lt
        refine wp_call1 (some 39) rfl 51 _ _ rfl (fun args w => by kernel_rfl) _ rfl _ (nextW_c Wz44.heap.size V _ h9 (by omega)) (fun e Wz77 h => ?_)
        obtain ⟨rfl, pz78⟩ := h
        rw [HY.out] at pz78
        replace hB := pz78.below hB (by omega)
        replace h3 := pz78.other h3 (by omega)
        replace h6 := pz78.other h6 (by omega)
        replace h8 := pz78.other h8 (by omega)
        replace ho := ho.put pz78 (ho.off h9 (by decide))
        replace h9 : At Wz77 Wz44.heap.size (.cells #[.int .i64 (Y : Nat)] 77 (0, 0)) := pz78.at_
        rw [HY.out]
        refine ⟨_, rfl, ?_⟩
        refine hK' _ _ ?_
        clear hK' K' pz78
        go_frame
        refine ls_ex (some 10) (.int .i64 (U : Nat)) rfl rfl (exec_assign _ rfl (.int .i64 (U : Nat)) rfl) ?_
        go_frame
        refine ls_ex (some 11) (.int .i64 (V : Nat)) rfl rfl (exec_assign _ rfl (.int .i64 (V : Nat)) rfl) ?_
        go_frame
        refine ls_ex (some 12) (.int .i64 (Y : Nat)) rfl rfl (exec_assign _ rfl (.int .i64 (Y : Nat)) rfl) ?_
        go_frame
        refine wpList_nil ?_
        go_upto_region 9 with (fail)
        refine wp_region_lit ?_
        refine ls_ex (some 40) (.pointer (some ⟨Wz34.heap.size, 4, none⟩)) rfl rfl (exec_fieldAddr 31 _ 4 rfl _ (by kernel_rfl)) ?_
        go_frame
        refine ls_ex (some 41) (.slice A9 L.length c9) rfl rfl (exec_load_one 29 _ rfl Wz34.heap.size 4 rfl (.slice A9 L.length c9) _ Try.underlying29 rfl (h8.at_ 4)) ?_
        go_frame
        refine ls_ex (some 42) (.int .i64 L.length) rfl rfl (exec_len _ 29 65 rfl A9 L.length c9 rfl Try.underlying29) ?_
        go_frame
        refine ls_ex (some 13) (.int .i64 L.length) rfl rfl (exec_assign _ rfl (.int .i64 L.length) rfl) ?_
        go_frame
        refine wpList_nil ?_
        go_upto_region 10 with (fail)
        refine wp_region_lit ?_
        refine ls_ex (some 43) (.int .i64 L.length) rfl rfl (exec_move _ rfl (.int .i64 L.length) rfl) ?_
        go_frame
        refine ls_ex (some 44) (.bool true) rfl rfl (exec_eql _ _ _ _ rfl L.length 0 rfl rfl true (by rw [hN]; rfl)) ?_
        go_frame
        refine wpList_nil ?_
        go_upto_region 15 with (fail)
        refine wp_region_lit ?_
        refine ls_ex (some 61) (.agg #[.int .i64 p, .int .i64 n, .int .i64 m, .int .i64 k, .slice A9 L.length c9]) rfl rfl (exec_load_all 31 _ rfl Wz34.heap.size rfl _ _ _ h8 Try.underlying31 rfl 5 (by kernel_rfl) rfl) ?_
        go_frame
        refine ls_op rfl (fun K' hK' => ?_)
        refine wp_store_all 31 _ _ rfl rfl Wz2.heap.size rfl #[.int .i64 p, .int .i64 n, .int .i64 m, .int .i64 k, .slice A9 L.length c9] rfl _ _ h6 5 (by kernel_rfl) rfl rfl (one5 _ _ _ _ _ _ _) (fun Wz84 pz85 => ?_)
        replace hB := pz85.below hB (by omega)
        replace h3 := pz85.other h3 (by omega)
        replace h8 := pz85.other h8 (by omega)
        replace h9 := pz85.other h9 (by omega)
        replace ho := ho.put pz85 (ho.off h6 (by decide))
        replace h6 : At Wz84 Wz2.heap.size (.cells #[.int .i64 p, .int .i64 n, .int .i64 m, .int .i64 k, .slice A9 L.length c9] 31 (0, 0)) := pz85.at_
        refine hK' _ _ ?_
        clear hK' K' pz85
        refine ls_ex (some 7) (.int .i64 0) rfl rfl (exec_assign _ rfl (.int .i64 0) rfl) ?_
        go_frame
        refine wpList_nil ?_
        go_wp2_with fail
        refine bodyPost_ret (results_at2 rfl _ _ Wz2.heap.size _ _ _ rfl _ rfl h6 Try.underlying31 rfl 5 (by kernel_rfl) rfl) rfl ?_
        unfold ResS wsZ wsL
        rw [HC.out]
        exact ⟨_, rfl, by rw [if_pos rfl, Int.toNat_natCast, Int.toNat_natCast, HFL.out]; exact ho.mono (by omega), hB⟩
      · rcases Bool.eq_false_or_eq_true (flB (L[nxW x % L.length]?.getD []) (L[nxW (nxW x) % L.length]?.getD []) (nxW x % L.length) (nxW (nxW x) % L.length) (nxW (nxW (nxW x)) % 3)) with hfl0 | hfl0
        · obtain ⟨U, hU⟩ : ∃ z9, nxW x = z9 := ⟨_, rfl⟩
          obtain ⟨V, hV⟩ : ∃ z9, nxW U = z9 := ⟨_, rfl⟩
          obtain ⟨Y, hY⟩ : ∃ z9, nxW V = z9 := ⟨_, rfl⟩
          have hUb : U < 2147483647 := by rw [← hU]; exact nxW_lt _
          have hVb : V < 2147483647 := by rw [← hV]; exact nxW_lt _
          have hYb : Y < 2147483647 := by rw [← hY]; exact nxW_lt _
          have HU := Lib.hid hU
          have HV := Lib.hid hV
          have HY := Lib.hid hY
          obtain ⟨A9, c9, rfl⟩ := Own.rdN2 ho (n := L.length) rfl
          obtain ⟨g, rfl, hg⟩ := ho.blk (by omega)
          obtain ⟨I, hI⟩ : ∃ z9, U % L.length = z9 := ⟨_, rfl⟩
          obtain ⟨J, hJ⟩ : ∃ z9, V % L.length = z9 := ⟨_, rfl⟩
          obtain ⟨F, hF⟩ : ∃ z9, Y % 3 = z9 := ⟨_, rfl⟩
          have hI3 : I < L.length := by rw [← hI]; exact Nat.mod_lt _ (by omega)
          have hJ3 : J < L.length := by rw [← hJ]; exact Nat.mod_lt _ (by omega)
          have hF3 : F < 3 := by rw [← hF]; exact Nat.mod_lt _ (by omega)
          obtain ⟨Q, hQ⟩ : ∃ z9, L[I]? = some z9 := ⟨_, List.getElem?_eq_getElem hI3⟩
          obtain ⟨R, hRj⟩ : ∃ z9, L[J]? = some z9 := ⟨_, List.getElem?_eq_getElem hJ3⟩
          have HI : Hid ((U : Int).tmod (L.length : Int) = (I : Int)) := Lib.hid (by rw [Int.tmod_eq_emod_of_nonneg (by omega), ← hI]; rfl)
          have HJ : Hid ((V : Int).tmod (L.length : Int) = (J : Int)) := Lib.hid (by rw [Int.tmod_eq_emod_of_nonneg (by omega), ← hJ]; rfl)
          have HF : Hid ((Y : Int).tmod 3 = (F : Int)) := Lib.hid (by rw [Int.tmod_eq_emod_of_nonneg (by omega), ← hF]; rfl)
          have hfl := hfl0
          rw [hU, hV, hY, hI, hJ, hF, hQ, hRj, Option.getD_some, Option.getD_some] at hfl
          clear hfl0
          have HS : Hid (wst p qs S (t + 1) = (flL p 1 L I J F Q R, Y)) := Lib.hid (by have h9 := wst_yes HW.out (by rw [hU]; exact hI) (by rw [hU, hV]; exact hJ) (by rw [hU, hV, hY]; exact hF) hQ hRj hfl; rwa [hU, hV, hY] at h9)
          obtain ⟨FL, hFL⟩ : ∃ z9, flL p 1 L I J F Q R = z9 := ⟨_, rfl⟩
          rw [hFL] at HS
          obtain ⟨M8, hM8⟩ : ∃ z9, FL.length = z9 := ⟨_, rfl⟩
          have HM8 := Lib.hid hM8
          have HFL8 := Lib.hid hFL
          have hne : I ≠ J := flB_ne hfl
          clear hFL hM8
          have HQ := Lib.hid hQ
          have HRj := Lib.hid hRj
          have Hfl := Lib.hid hfl
          have hLz : ((L.length : Int)) ≠ 0 := by omega
          clear hU hV hY hI hJ hF hQ hRj
          go_upto_region 7 with (fail)
          refine wp_region_lit ?_
          refine ls_ex (some 36) (.bool true) rfl rfl (exec_lss _ _ _ _ rfl t T rfl rfl true (decide_eq_true (by omega))) ?_
          go_frame
          refine wpList_nil ?_
          go_upto_region 8 with (fail)
          refine wp_region_lit ?_
          refine ls_op rfl (fun K' hK' => ?_)
          have lz88 := hB.size
          have lz89 := h3.lt
          have lz90 := h6.lt
          have lz91 := h8.lt
          have lz92 := h9.lt
          refine wp_call1 (some 37) rfl 51 _ _ rfl (fun args w => by kernel_rfl) _ rfl _ (nextW_c Wz44.heap.size x _ h9 (by omega)) (fun e Wz86 h => ?_)
          obtain ⟨rfl, pz87⟩ := h
          rw [HU.out] at pz87
          replace hB := pz87.below hB (by omega)
          replace h3 := pz87.other h3 (by omega)
          replace h6 := pz87.other h6 (by omega)
          replace h8 := pz87.other h8 (by omega)
          replace ho := ho.put pz87 (ho.off h9 (by decide))
          replace h9 : At Wz86 Wz44.heap.size (.cells #[.int .i64 (U : Nat)] 77 (0, 0)) := pz87.at_
          rw [HU.out]
          refine ⟨_, rfl, ?_⟩
          refine hK' _ _ ?_
          clear hK' K' pz87
          go_frame
          refine ls_op rfl (fun K' hK' => ?_)
          have lz95 := hB.size
          have lz96 := h3.lt
          have lz97 := h6.lt
          have lz98 := h8.lt
          have lz99 := h9.lt
          refine wp_call1 (some 38) rfl 51 _ _ rfl (fun args w => by kernel_rfl) _ rfl _ (nextW_c Wz44.heap.size U _ h9 (by omega)) (fun e Wz93 h => ?_)
          obtain ⟨rfl, pz94⟩ := h
          rw [HV.out] at pz94
          replace hB := pz94.below hB (by omega)
          replace h3 := pz94.other h3 (by omega)
          replace h6 := pz94.other h6 (by omega)
          replace h8 := pz94.other h8 (by omega)
          replace ho := ho.put pz94 (ho.off h9 (by decide))
          replace h9 : At Wz93 Wz44.heap.size (.cells #[.int .i64 (V : Nat)] 77 (0, 0)) := pz94.at_
          rw [HV.out]
          refine ⟨_, rfl, ?_⟩
          refine hK' _ _ ?_
          clear hK' K' pz94
          go_frame
          refine ls_op rfl (fun K' hK' => ?_)
          have lz102 := hB.size
          have lz103 := h3.lt
          have lz104 := h6.lt
          have lz105 := h8.lt
          have lz106 := h9.lt
          refine wp_call1 (some 39) rfl 51 _ _ rfl (fun args w => by kernel_rfl) _ rfl _ (nextW_c Wz44.heap.size V _ h9 (by omega)) (fun e Wz100 h => ?_)
          obtain ⟨rfl, pz101⟩ := h
          rw [HY.out] at pz101
          replace hB := pz101.below hB (by omega)
          replace h3 := pz101.other h3 (by omega)
          replace h6 := pz101.other h6 (by omega)
          replace h8 := pz101.other h8 (by omega)
          replace ho := ho.put pz101 (ho.off h9 (by decide))
          replace h9 : At Wz100 Wz44.heap.size (.cells #[.int .i64 (Y : Nat)] 77 (0, 0)) := pz101.at_
          rw [HY.out]
          refine ⟨_, rfl, ?_⟩
          refine hK' _ _ ?_
          clear hK' K' pz101
          go_frame
          refine ls_ex (some 10) (.int .i64 (U : Nat)) rfl rfl (exec_assign _ rfl (.int .i64 (U : Nat)) rfl) ?_
          go_frame
          refine ls_ex (some 11) (.int .i64 (V : Nat)) rfl rfl (exec_assign _ rfl (.int .i64 (V : Nat)) rfl) ?_
          go_frame
          refine ls_ex (some 12) (.int .i64 (Y : Nat)) rfl rfl (exec_assign _ rfl (.int .i64 (Y : Nat)) rfl) ?_
          go_frame
          refine wpList_nil ?_
          go_upto_region 9 with (fail)
          refine wp_region_lit ?_
          refine ls_ex (some 40) (.pointer (some ⟨Wz34.heap.size, 4, none⟩)) rfl rfl (exec_fieldAddr 31 _ 4 rfl _ (by kernel_rfl)) ?_
          go_frame
          refine ls_ex (some 41) (.slice (some ⟨g, 0, none⟩) L.length c9) rfl rfl (exec_load_one 29 _ rfl Wz34.heap.size 4 rfl (.slice (some ⟨g, 0, none⟩) L.length c9) _ Try.underlying29 rfl (h8.at_ 4)) ?_
          go_frame
          refine ls_ex (some 42) (.int .i64 L.length) rfl rfl (exec_len _ 29 65 rfl ((some ⟨g, 0, none⟩)) L.length c9 rfl Try.underlying29) ?_
          go_frame
          refine ls_ex (some 13) (.int .i64 L.length) rfl rfl (exec_assign _ rfl (.int .i64 L.length) rfl) ?_
          go_frame
          refine wpList_nil ?_
          go_upto_region 10 with (fail)
          refine wp_region_lit ?_
          refine ls_ex (some 43) (.int .i64 L.length) rfl rfl (exec_move _ rfl (.int .i64 L.length) rfl) ?_
          go_frame
          refine ls_ex (some 44) (.bool false) rfl rfl (exec_eql _ _ _ _ rfl L.length 0 rfl rfl false (beq_eq_false_iff_ne.2 (by omega))) ?_
          go_frame
          refine wpList_nil ?_
          go_upto_region 11 with (fail)
          refine wp_region_y (zs := []) (S := fun w' => Below w.heap.size w w') (S2 := fun w' => True) (by kernel_rfl) ?_
          change wpAnyY _ _ _ _ _ _ _ _ _ _ (World.drew _)
          generalize hwdz107 : World.drew _ = wdz107
          replace hB : Below w.heap.size w wdz107 := by rw [← hwdz107]; exact hB.drew
          replace h3 : At wdz107 w.heap.size (.cells #[.int .i64 p, .int .i64 n, .int .i64 m, .int .i64 k, .slice (some ⟨a0, 0, none⟩) qs.length c] 31 (0, 0)) := by rw [← hwdz107]; exact h3
          replace h6 : At wdz107 Wz2.heap.size (.cells #[.int .i64 0, .int .i64 0, .int .i64 0, .int .i64 0, .slice none 0 0] 31 (0, 0)) := by rw [← hwdz107]; exact h6
          replace h8 : At wdz107 Wz34.heap.size (.cells #[.int .i64 p, .int .i64 n, .int .i64 m, .int .i64 k, .slice (some ⟨g, 0, none⟩) L.length c9] 31 (0, 0)) := by rw [← hwdz107]; exact h8
          replace h9 : At wdz107 Wz44.heap.size (.cells #[.int .i64 (Y : Nat)] 77 (0, 0)) := by rw [← hwdz107]; exact h9
          replace ho : Own wdz107 w.heap.size (.slice (some ⟨g, 0, none⟩) L.length c9) (L) := by rw [← hwdz107]; exact ho.drew
          clear hwdz107
          refine y_yield 0 (some 45) (.int .i64 (U : Nat)) rfl (by kernel_rfl) (by kernel_rfl) (by kernel_rfl) (fun _ _ _ h => h) rfl rfl hB (fun w' h' => exec_move _ rfl (.int .i64 (U : Nat)) rfl) ?_
          go_frame
          refine y_yield 1 (some 46) (.int .i64 L.length) rfl (by kernel_rfl) (by kernel_rfl) (by kernel_rfl) (fun _ _ _ h => h) rfl rfl hB (fun w' h' => exec_move _ rfl (.int .i64 L.length) rfl) ?_
          go_frame
          refine y_yield 2 (some 47) (.int .i64 (I : Nat)) rfl (by kernel_rfl) (by kernel_rfl) (by kernel_rfl) (fun _ _ _ h => h) rfl rfl hB (fun w' h' => exec_rem _ _ _ _ rfl U L.length I rfl rfl hLz HI.out) ?_
          go_frame
          refine y_yield 3 (some 48) (.int .i64 (V : Nat)) rfl (by kernel_rfl) (by kernel_rfl) (by kernel_rfl) (fun _ _ _ h => h) rfl rfl hB (fun w' h' => exec_move _ rfl (.int .i64 (V : Nat)) rfl) ?_
          go_frame
          refine y_yield 4 (some 49) (.int .i64 L.length) rfl (by kernel_rfl) (by kernel_rfl) (by kernel_rfl) (fun _ _ _ h => h) rfl rfl hB (fun w' h' => exec_move _ rfl (.int .i64 L.length) rfl) ?_
          go_frame
          refine y_yield 5 (some 50) (.int .i64 (J : Nat)) rfl (by kernel_rfl) (by kernel_rfl) (by kernel_rfl) (fun _ _ _ h => h) rfl rfl hB (fun w' h' => exec_rem _ _ _ _ rfl V L.length J rfl rfl hLz HJ.out) ?_
          go_frame
          refine y_yield 6 (some 51) (.int .i64 (Y : Nat)) rfl (by kernel_rfl) (by kernel_rfl) (by kernel_rfl) (fun _ _ _ h => h) rfl rfl hB (fun w' h' => exec_move _ rfl (.int .i64 (Y : Nat)) rfl) ?_
          go_frame
          refine y_yield 7 (some 52) (.int .i64 (F : Nat)) rfl (by kernel_rfl) (by kernel_rfl) (by kernel_rfl) (fun _ _ _ h => h) rfl rfl hB (fun w' h' => exec_rem _ _ _ _ rfl Y 3 F rfl rfl (by decide) HF.out) ?_
          go_frame
          refine y_yield 8 (some 53) (.agg #[.int .i64 (I : Nat), .int .i64 (J : Nat), .int .i64 (F : Nat)]) rfl (by kernel_rfl) (by kernel_rfl) (by kernel_rfl) (fun _ _ _ h => h) rfl rfl hB (fun w' h' => exec_build_flip _ _ _ rfl _ _ _ rfl rfl rfl) ?_
          go_frame
          refine y_oper 9 (by kernel_rfl) rfl rfl (fun K' hK' => ?_)
          have lz108 := hB.size
          have lz109 := h3.lt
          have lz110 := h6.lt
          have lz111 := h8.lt
          have lz112 := h9.lt
          have naz117 := ho.away_new
          refine wp_new (some 14) rfl (al_impl_flip rfl) (fun Wz113 nnz114 => ?_)
          have bz115 := nnz114.below (Below.refl _ _) (Nat.le_refl _)
          replace hB := below_after hB bz115
          replace h3 := h3.after bz115
          replace h6 := h6.after bz115
          replace h8 := h8.after bz115
          replace h9 := h9.after bz115
          replace ho := ho.below bz115
          have hz116 : At Wz113 wdz107.heap.size (.cells #[.int .i64 0, .int .i64 0, .int .i64 0] 80 (0, 0)) := nnz114.at_
          refine hK' _ _ hB (fun _ => trivial) ?_
          clear hK' K' nnz114 bz115
          go_frame
          refine y_oper 10 (by kernel_rfl) rfl rfl (fun K' hK' => ?_)
          refine wp_store_all 80 _ _ rfl rfl wdz107.heap.size rfl #[.int .i64 (I : Nat), .int .i64 (J : Nat), .int .i64 (F : Nat)] rfl _ _ hz116 3 (by kernel_rfl) rfl rfl (by intro x hx; simp at hx; rcases hx with rfl | rfl | rfl <;> rfl) (fun Wz118 pz119 => ?_)
          replace hB := pz119.below hB (by omega)
          replace h3 := pz119.other h3 (by omega)
          replace h6 := pz119.other h6 (by omega)
          replace h8 := pz119.other h8 (by omega)
          replace h9 := pz119.other h9 (by omega)
          replace ho := ho.put pz119 naz117
          replace hz116 : At Wz118 wdz107.heap.size (.cells #[.int .i64 (I : Nat), .int .i64 (J : Nat), .int .i64 (F : Nat)] 80 (0, 0)) := pz119.at_
          refine hK' _ _ hB (fun _ => trivial) ?_
          clear hK' K' pz119
          refine y_done (by kernel_rfl) ?_ _
          go_upto_region 12 with (fail)
          refine wp_region_lit ?_
          refine ls_ex (some 54) (.agg #[.int .i64 (I : Nat), .int .i64 (J : Nat), .int .i64 (F : Nat)]) rfl rfl (exec_load_all 80 _ rfl wdz107.heap.size rfl _ _ _ hz116 Try.underlying80 rfl 3 (by kernel_rfl) rfl) ?_
          go_frame
          refine ls_ex (some 55) (.agg #[.int .i64 p, .int .i64 n, .int .i64 m, .int .i64 k, .slice (some ⟨g, 0, none⟩) L.length c9]) rfl rfl (exec_load_all 31 _ rfl Wz34.heap.size rfl _ _ _ h8 Try.underlying31 rfl 5 (by kernel_rfl) rfl) ?_
          go_frame
          refine ls_op rfl (fun K' hK' => ?_)
          have lz122 := hB.size
          have lz123 := h3.lt
          have lz124 := h6.lt
          have lz125 := h8.lt
          have lz126 := h9.lt
          have lz127 := hz116.lt
          refine wp_call2 (some 56) rfl 52 _ _ _ rfl (fun args w => by kernel_rfl) _ _ rfl rfl _ (isOf_c p n m k g 0 c9 L I J F Q R _ (ho.rd' HLb.out) HQ.out HRj.out hF3 (by omega)) (fun e Wz120 h => ?_)
          obtain ⟨rfl, bz121⟩ := h
          replace hB := below_after hB bz121
          replace h3 := h3.after bz121
          replace h6 := h6.after bz121
          replace h8 := h8.after bz121
          replace h9 := h9.after bz121
          replace ho := ho.below bz121
          replace hz116 := hz116.after bz121
          rw [Hfl.out]
          clear bz121
          refine ⟨_, rfl, ?_⟩
          refine hK' _ _ ?_
          clear hK' K'
          go_frame
          refine wpList_nil ?_
          go_upto_region 13 with (fail)
          refine wp_region_lit ?_
          refine ls_ex (some 57) (.agg #[.int .i64 p, .int .i64 n, .int .i64 m, .int .i64 k, .slice (some ⟨g, 0, none⟩) L.length c9]) rfl rfl (exec_load_all 31 _ rfl Wz34.heap.size rfl _ _ _ h8 Try.underlying31 rfl 5 (by kernel_rfl) rfl) ?_
          go_frame
          refine ls_ex (some 58) (.agg #[.int .i64 (I : Nat), .int .i64 (J : Nat), .int .i64 (F : Nat)]) rfl rfl (exec_load_all 80 _ rfl wdz107.heap.size rfl _ _ _ hz116 Try.underlying80 rfl 3 (by kernel_rfl) rfl) ?_
          go_frame
          refine ls_op rfl (fun K' hK' => ?_)
          have lz130 := hB.size
          have lz131 := h3.lt
          have lz132 := h6.lt
          have lz133 := h8.lt
          have lz134 := h9.lt
          have lz135 := hz116.lt
          have lo8 := hB.size
          refine wp_call3 (some 59) rfl 53 _ _ _ _ rfl (fun args w => by kernel_rfl) _ _ _ rfl rfl rfl _ (flipped_c p n m k 1 g 0 c9 L I J F Q R _ (ho.rd' HLb.out) HQ.out HRj.out hF3 hne (by omega) (by omega) (by omega)) (fun e Wz128 h => ?_)
          obtain ⟨v8, rfl, ho8, bz129⟩ := h
          replace hB := below_after hB bz129
          replace h3 := h3.after bz129
          replace h6 := h6.after bz129
          replace h8 := h8.after bz129
          replace h9 := h9.after bz129
          replace ho := ho.below bz129
          replace hz116 := hz116.after bz129
          clear ho
          have ho := ho8
          clear ho8
          rw [HFL8.out] at ho
          obtain ⟨A8, c8, rfl⟩ := Own.rdN2 ho (n := M8) HM8.out
          clear bz129
          refine ⟨_, rfl, ?_⟩
          refine hK' _ _ ?_
          clear hK' K'
          go_frame
          refine ls_op rfl (fun K' hK' => ?_)
          refine wp_store_all 31 _ _ rfl rfl Wz34.heap.size rfl #[.int .i64 p, .int .i64 n, .int .i64 m, .int .i64 k, .slice A8 M8 c8] rfl _ _ h8 5 (by kernel_rfl) rfl rfl (one5 _ _ _ _ _ _ _) (fun Wz136 pz137 => ?_)
          replace hB := pz137.below hB (by omega)
          replace h3 := pz137.other h3 (by omega)
          replace h6 := pz137.other h6 (by omega)
          replace h9 := pz137.other h9 (by omega)
          replace hz116 := pz137.other hz116 (by omega)
          replace ho := ho.put pz137 (ho.off h8 (by decide))
          replace h8 : At Wz136 Wz34.heap.size (.cells #[.int .i64 p, .int .i64 n, .int .i64 m, .int .i64 k, .slice A8 M8 c8] 31 (0, 0)) := pz137.at_
          refine hK' _ _ ?_
          clear hK' K' pz137
          refine wpList_nil ?_
          go_upto_region 14 with (fail)
          refine wp_region_lit ?_
          refine ls_ex (some 60) (.int .i64 (t + 1)) rfl rfl (exec_add _ _ _ _ rfl t 1 (t + 1) rfl rfl (IntWalk.i64_in _ (by omega))) ?_
          go_frame
          refine ls_ex (some 35) (.int .i64 (t + 1)) rfl rfl (exec_move _ rfl (.int .i64 (t + 1)) rfl) ?_
          go_frame
          refine wpList_nil ?_
          go_wp2_with fail
          go_roundw
          case rel => exact ⟨t + 1, _, _, _, by omega, by go_num, HS, hYb, hB, h3, h6, h8, h9, ho.mono (by omega)⟩
          case measure => simp [intOf]; omega
        · obtain ⟨U, hU⟩ : ∃ z9, nxW x = z9 := ⟨_, rfl⟩
          obtain ⟨V, hV⟩ : ∃ z9, nxW U = z9 := ⟨_, rfl⟩
          obtain ⟨Y, hY⟩ : ∃ z9, nxW V = z9 := ⟨_, rfl⟩
          have hUb : U < 2147483647 := by rw [← hU]; exact nxW_lt _
          have hVb : V < 2147483647 := by rw [← hV]; exact nxW_lt _
          have hYb : Y < 2147483647 := by rw [← hY]; exact nxW_lt _
          have HU := Lib.hid hU
          have HV := Lib.hid hV
          have HY := Lib.hid hY
          obtain ⟨A9, c9, rfl⟩ := Own.rdN2 ho (n := L.length) rfl
          obtain ⟨g, rfl, hg⟩ := ho.blk (by omega)
          obtain ⟨I, hI⟩ : ∃ z9, U % L.length = z9 := ⟨_, rfl⟩
          obtain ⟨J, hJ⟩ : ∃ z9, V % L.length = z9 := ⟨_, rfl⟩
          obtain ⟨F, hF⟩ : ∃ z9, Y % 3 = z9 := ⟨_, rfl⟩
          have hI3 : I < L.length := by rw [← hI]; exact Nat.mod_lt _ (by omega)
          have hJ3 : J < L.length := by rw [← hJ]; exact Nat.mod_lt _ (by omega)
          have hF3 : F < 3 := by rw [← hF]; exact Nat.mod_lt _ (by omega)
          obtain ⟨Q, hQ⟩ : ∃ z9, L[I]? = some z9 := ⟨_, List.getElem?_eq_getElem hI3⟩
          obtain ⟨R, hRj⟩ : ∃ z9, L[J]? = some z9 := ⟨_, List.getElem?_eq_getElem hJ3⟩
          have HI : Hid ((U : Int).tmod (L.length : Int) = (I : Int)) := Lib.hid (by rw [Int.tmod_eq_emod_of_nonneg (by omega), ← hI]; rfl)
          have HJ : Hid ((V : Int).tmod (L.length : Int) = (J : Int)) := Lib.hid (by rw [Int.tmod_eq_emod_of_nonneg (by omega), ← hJ]; rfl)
          have HF : Hid ((Y : Int).tmod 3 = (F : Int)) := Lib.hid (by rw [Int.tmod_eq_emod_of_nonneg (by omega), ← hF]; rfl)
          have hfl := hfl0
          rw [hU, hV, hY, hI, hJ, hF, hQ, hRj, Option.getD_some, Option.getD_some] at hfl
          clear hfl0
          have HS : Hid (wst p qs S (t + 1) = (L, Y)) := Lib.hid (by have h9 := wst_no HW.out (by rw [hU]; exact hI) (by rw [hU, hV]; exact hJ) (by rw [hU, hV, hY]; exact hF) hQ hRj hfl; rwa [hU, hV, hY] at h9)
          have HQ := Lib.hid hQ
          have HRj := Lib.hid hRj
          have Hfl := Lib.hid hfl
          have hLz : ((L.length : Int)) ≠ 0 := by omega
          clear hU hV hY hI hJ hF hQ hRj
          go_upto_region 7 with (fail)
          refine wp_region_lit ?_
          refine ls_ex (some 36) (.bool true) rfl rfl (exec_lss _ _ _ _ rfl t T rfl rfl true (decide_eq_true (by omega))) ?_
          go_frame
          refine wpList_nil ?_
          go_upto_region 8 with (fail)
          refine wp_region_lit ?_
          refine ls_op rfl (fun K' hK' => ?_)
          have lz140 := hB.size
          have lz141 := h3.lt
          have lz142 := h6.lt
          have lz143 := h8.lt
          have lz144 := h9.lt
          refine wp_call1 (some 37) rfl 51 _ _ rfl (fun args w => by kernel_rfl) _ rfl _ (nextW_c Wz44.heap.size x _ h9 (by omega)) (fun e Wz138 h => ?_)
          obtain ⟨rfl, pz139⟩ := h
          rw [HU.out] at pz139
          replace hB := pz139.below hB (by omega)
          replace h3 := pz139.other h3 (by omega)
          replace h6 := pz139.other h6 (by omega)
          replace h8 := pz139.other h8 (by omega)
          replace ho := ho.put pz139 (ho.off h9 (by decide))
          replace h9 : At Wz138 Wz44.heap.size (.cells #[.int .i64 (U : Nat)] 77 (0, 0)) := pz139.at_
          rw [HU.out]
          refine ⟨_, rfl, ?_⟩
          refine hK' _ _ ?_
          clear hK' K' pz139
          go_frame
          refine ls_op rfl (fun K' hK' => ?_)
          have lz147 := hB.size
          have lz148 := h3.lt
          have lz149 := h6.lt
          have lz150 := h8.lt
          have lz151 := h9.lt
          refine wp_call1 (some 38) rfl 51 _ _ rfl (fun args w => by kernel_rfl) _ rfl _ (nextW_c Wz44.heap.size U _ h9 (by omega)) (fun e Wz145 h => ?_)
          obtain ⟨rfl, pz146⟩ := h
          rw [HV.out] at pz146
          replace hB := pz146.below hB (by omega)
          replace h3 := pz146.other h3 (by omega)
          replace h6 := pz146.other h6 (by omega)
          replace h8 := pz146.other h8 (by omega)
          replace ho := ho.put pz146 (ho.off h9 (by decide))
          replace h9 : At Wz145 Wz44.heap.size (.cells #[.int .i64 (V : Nat)] 77 (0, 0)) := pz146.at_
          rw [HV.out]
          refine ⟨_, rfl, ?_⟩
          refine hK' _ _ ?_
          clear hK' K' pz146
          go_frame
          refine ls_op rfl (fun K' hK' => ?_)
          have lz154 := hB.size
          have lz155 := h3.lt
          have lz156 := h6.lt
          have lz157 := h8.lt
          have lz158 := h9.lt
          refine wp_call1 (some 39) rfl 51 _ _ rfl (fun args w => by kernel_rfl) _ rfl _ (nextW_c Wz44.heap.size V _ h9 (by omega)) (fun e Wz152 h => ?_)
          obtain ⟨rfl, pz153⟩ := h
          rw [HY.out] at pz153
          replace hB := pz153.below hB (by omega)
          replace h3 := pz153.other h3 (by omega)
          replace h6 := pz153.other h6 (by omega)
          replace h8 := pz153.other h8 (by omega)
          replace ho := ho.put pz153 (ho.off h9 (by decide))
          replace h9 : At Wz152 Wz44.heap.size (.cells #[.int .i64 (Y : Nat)] 77 (0, 0)) := pz153.at_
          rw [HY.out]
          refine ⟨_, rfl, ?_⟩
          refine hK' _ _ ?_
          clear hK' K' pz153
          go_frame
          refine ls_ex (some 10) (.int .i64 (U : Nat)) rfl rfl (exec_assign _ rfl (.int .i64 (U : Nat)) rfl) ?_
          go_frame
          refine ls_ex (some 11) (.int .i64 (V : Nat)) rfl rfl (exec_assign _ rfl (.int .i64 (V : Nat)) rfl) ?_
          go_frame
          refine ls_ex (some 12) (.int .i64 (Y : Nat)) rfl rfl (exec_assign _ rfl (.int .i64 (Y : Nat)) rfl) ?_
          go_frame
          refine wpList_nil ?_
          go_upto_region 9 with (fail)
          refine wp_region_lit ?_
          refine ls_ex (some 40) (.pointer (some ⟨Wz34.heap.size, 4, none⟩)) rfl rfl (exec_fieldAddr 31 _ 4 rfl _ (by kernel_rfl)) ?_
          go_frame
          refine ls_ex (some 41) (.slice (some ⟨g, 0, none⟩) L.length c9) rfl rfl (exec_load_one 29 _ rfl Wz34.heap.size 4 rfl (.slice (some ⟨g, 0, none⟩) L.length c9) _ Try.underlying29 rfl (h8.at_ 4)) ?_
          go_frame
          refine ls_ex (some 42) (.int .i64 L.length) rfl rfl (exec_len _ 29 65 rfl ((some ⟨g, 0, none⟩)) L.length c9 rfl Try.underlying29) ?_
          go_frame
          refine ls_ex (some 13) (.int .i64 L.length) rfl rfl (exec_assign _ rfl (.int .i64 L.length) rfl) ?_
          go_frame
          refine wpList_nil ?_
          go_upto_region 10 with (fail)
          refine wp_region_lit ?_
          refine ls_ex (some 43) (.int .i64 L.length) rfl rfl (exec_move _ rfl (.int .i64 L.length) rfl) ?_
          go_frame
          refine ls_ex (some 44) (.bool false) rfl rfl (exec_eql _ _ _ _ rfl L.length 0 rfl rfl false (beq_eq_false_iff_ne.2 (by omega))) ?_
          go_frame
          refine wpList_nil ?_
          go_upto_region 11 with (fail)
          refine wp_region_y (zs := []) (S := fun w' => Below w.heap.size w w') (S2 := fun w' => True) (by kernel_rfl) ?_
          change wpAnyY _ _ _ _ _ _ _ _ _ _ (World.drew _)
          generalize hwdz159 : World.drew _ = wdz159
          replace hB : Below w.heap.size w wdz159 := by rw [← hwdz159]; exact hB.drew
          replace h3 : At wdz159 w.heap.size (.cells #[.int .i64 p, .int .i64 n, .int .i64 m, .int .i64 k, .slice (some ⟨a0, 0, none⟩) qs.length c] 31 (0, 0)) := by rw [← hwdz159]; exact h3
          replace h6 : At wdz159 Wz2.heap.size (.cells #[.int .i64 0, .int .i64 0, .int .i64 0, .int .i64 0, .slice none 0 0] 31 (0, 0)) := by rw [← hwdz159]; exact h6
          replace h8 : At wdz159 Wz34.heap.size (.cells #[.int .i64 p, .int .i64 n, .int .i64 m, .int .i64 k, .slice (some ⟨g, 0, none⟩) L.length c9] 31 (0, 0)) := by rw [← hwdz159]; exact h8
          replace h9 : At wdz159 Wz44.heap.size (.cells #[.int .i64 (Y : Nat)] 77 (0, 0)) := by rw [← hwdz159]; exact h9
          replace ho : Own wdz159 w.heap.size (.slice (some ⟨g, 0, none⟩) L.length c9) (L) := by rw [← hwdz159]; exact ho.drew
          clear hwdz159
          refine y_yield 0 (some 45) (.int .i64 (U : Nat)) rfl (by kernel_rfl) (by kernel_rfl) (by kernel_rfl) (fun _ _ _ h => h) rfl rfl hB (fun w' h' => exec_move _ rfl (.int .i64 (U : Nat)) rfl) ?_
          go_frame
          refine y_yield 1 (some 46) (.int .i64 L.length) rfl (by kernel_rfl) (by kernel_rfl) (by kernel_rfl) (fun _ _ _ h => h) rfl rfl hB (fun w' h' => exec_move _ rfl (.int .i64 L.length) rfl) ?_
          go_frame
          refine y_yield 2 (some 47) (.int .i64 (I : Nat)) rfl (by kernel_rfl) (by kernel_rfl) (by kernel_rfl) (fun _ _ _ h => h) rfl rfl hB (fun w' h' => exec_rem _ _ _ _ rfl U L.length I rfl rfl hLz HI.out) ?_
          go_frame
          refine y_yield 3 (some 48) (.int .i64 (V : Nat)) rfl (by kernel_rfl) (by kernel_rfl) (by kernel_rfl) (fun _ _ _ h => h) rfl rfl hB (fun w' h' => exec_move _ rfl (.int .i64 (V : Nat)) rfl) ?_
          go_frame
          refine y_yield 4 (some 49) (.int .i64 L.length) rfl (by kernel_rfl) (by kernel_rfl) (by kernel_rfl) (fun _ _ _ h => h) rfl rfl hB (fun w' h' => exec_move _ rfl (.int .i64 L.length) rfl) ?_
          go_frame
          refine y_yield 5 (some 50) (.int .i64 (J : Nat)) rfl (by kernel_rfl) (by kernel_rfl) (by kernel_rfl) (fun _ _ _ h => h) rfl rfl hB (fun w' h' => exec_rem _ _ _ _ rfl V L.length J rfl rfl hLz HJ.out) ?_
          go_frame
          refine y_yield 6 (some 51) (.int .i64 (Y : Nat)) rfl (by kernel_rfl) (by kernel_rfl) (by kernel_rfl) (fun _ _ _ h => h) rfl rfl hB (fun w' h' => exec_move _ rfl (.int .i64 (Y : Nat)) rfl) ?_
          go_frame
          refine y_yield 7 (some 52) (.int .i64 (F : Nat)) rfl (by kernel_rfl) (by kernel_rfl) (by kernel_rfl) (fun _ _ _ h => h) rfl rfl hB (fun w' h' => exec_rem _ _ _ _ rfl Y 3 F rfl rfl (by decide) HF.out) ?_
          go_frame
          refine y_yield 8 (some 53) (.agg #[.int .i64 (I : Nat), .int .i64 (J : Nat), .int .i64 (F : Nat)]) rfl (by kernel_rfl) (by kernel_rfl) (by kernel_rfl) (fun _ _ _ h => h) rfl rfl hB (fun w' h' => exec_build_flip _ _ _ rfl _ _ _ rfl rfl rfl) ?_
          go_frame
          refine y_oper 9 (by kernel_rfl) rfl rfl (fun K' hK' => ?_)
          have lz160 := hB.size
          have lz161 := h3.lt
          have lz162 := h6.lt
          have lz163 := h8.lt
          have lz164 := h9.lt
          have naz169 := ho.away_new
          refine wp_new (some 14) rfl (al_impl_flip rfl) (fun Wz165 nnz166 => ?_)
          have bz167 := nnz166.below (Below.refl _ _) (Nat.le_refl _)
          replace hB := below_after hB bz167
          replace h3 := h3.after bz167
          replace h6 := h6.after bz167
          replace h8 := h8.after bz167
          replace h9 := h9.after bz167
          replace ho := ho.below bz167
          have hz168 : At Wz165 wdz159.heap.size (.cells #[.int .i64 0, .int .i64 0, .int .i64 0] 80 (0, 0)) := nnz166.at_
          refine hK' _ _ hB (fun _ => trivial) ?_
          clear hK' K' nnz166 bz167
          go_frame
          refine y_oper 10 (by kernel_rfl) rfl rfl (fun K' hK' => ?_)
          refine wp_store_all 80 _ _ rfl rfl wdz159.heap.size rfl #[.int .i64 (I : Nat), .int .i64 (J : Nat), .int .i64 (F : Nat)] rfl _ _ hz168 3 (by kernel_rfl) rfl rfl (by intro x hx; simp at hx; rcases hx with rfl | rfl | rfl <;> rfl) (fun Wz170 pz171 => ?_)
          replace hB := pz171.below hB (by omega)
          replace h3 := pz171.other h3 (by omega)
          replace h6 := pz171.other h6 (by omega)
          replace h8 := pz171.other h8 (by omega)
          replace h9 := pz171.other h9 (by omega)
          replace ho := ho.put pz171 naz169
          replace hz168 : At Wz170 wdz159.heap.size (.cells #[.int .i64 (I : Nat), .int .i64 (J : Nat), .int .i64 (F : Nat)] 80 (0, 0)) := pz171.at_
          refine hK' _ _ hB (fun _ => trivial) ?_
          clear hK' K' pz171
          refine y_done (by kernel_rfl) ?_ _
          go_upto_region 12 with (fail)
          refine wp_region_lit ?_
          refine ls_ex (some 54) (.agg #[.int .i64 (I : Nat), .int .i64 (J : Nat), .int .i64 (F : Nat)]) rfl rfl (exec_load_all 80 _ rfl wdz159.heap.size rfl _ _ _ hz168 Try.underlying80 rfl 3 (by kernel_rfl) rfl) ?_
          go_frame
          refine ls_ex (some 55) (.agg #[.int .i64 p, .int .i64 n, .int .i64 m, .int .i64 k, .slice (some ⟨g, 0, none⟩) L.length c9]) rfl rfl (exec_load_all 31 _ rfl Wz34.heap.size rfl _ _ _ h8 Try.underlying31 rfl 5 (by kernel_rfl) rfl) ?_
          go_frame
          refine ls_op rfl (fun K' hK' => ?_)
          have lz174 := hB.size
          have lz175 := h3.lt
          have lz176 := h6.lt
          have lz177 := h8.lt
          have lz178 := h9.lt
          have lz179 := hz168.lt
          refine wp_call2 (some 56) rfl 52 _ _ _ rfl (fun args w => by kernel_rfl) _ _ rfl rfl _ (isOf_c p n m k g 0 c9 L I J F Q R _ (ho.rd' HLb.out) HQ.out HRj.out hF3 (by omega)) (fun e Wz172 h => ?_)
          obtain ⟨rfl, bz173⟩ := h
          replace hB := below_after hB bz173
          replace h3 := h3.after bz173
          replace h6 := h6.after bz173
          replace h8 := h8.after bz173
          replace h9 := h9.after bz173
          replace ho := ho.below bz173
          replace hz168 := hz168.after bz173
          rw [Hfl.out]
          clear bz173
          refine ⟨_, rfl, ?_⟩
          refine hK' _ _ ?_
          clear hK' K'
          go_frame
          refine wpList_nil ?_
          go_upto_region 14 with (fail)
          refine wp_region_lit ?_
          refine ls_ex (some 60) (.int .i64 (t + 1)) rfl rfl (exec_add _ _ _ _ rfl t 1 (t + 1) rfl rfl (IntWalk.i64_in _ (by omega))) ?_
          go_frame
          refine ls_ex (some 35) (.int .i64 (t + 1)) rfl rfl (exec_move _ rfl (.int .i64 (t + 1)) rfl) ?_
          go_frame
          refine wpList_nil ?_
          go_wp2_with fail
          go_roundw
          case rel => exact ⟨t + 1, _, _, _, by omega, by go_num, HS, hYb, hB, h3, h6, h8, h9, ho⟩
          case measure => simp [intOf]; omega
    · obtain ⟨A9, c9, rfl⟩ := Own.rdN2 ho (n := L.length) rfl
      have HFL : Hid ((wst p qs S T).1 = L) := Lib.hid (by rw [show T = t by omega, HW.out])
      go_upto_region 7 with (fail)
      refine wp_region_lit ?_
      refine ls_ex (some 36) (.bool false) rfl rfl (exec_lss _ _ _ _ rfl t T rfl rfl false (decide_eq_false (by omega))) ?_
      go_frame
      refine wpList_nil ?_
      go_upto_region 15 with (fail)
      refine wp_region_lit ?_
      refine ls_ex (some 61) (.agg #[.int .i64 p, .int .i64 n, .int .i64 m, .int .i64 k, .slice A9 L.length c9]) rfl rfl (exec_load_all 31 _ rfl Wz34.heap.size rfl _ _ _ h8 Try.underlying31 rfl 5 (by kernel_rfl) rfl) ?_
      go_frame
      refine ls_op rfl (fun K' hK' => ?_)
      refine wp_store_all 31 _ _ rfl rfl Wz2.heap.size rfl #[.int .i64 p, .int .i64 n, .int .i64 m, .int .i64 k, .slice A9 L.length c9] rfl _ _ h6 5 (by kernel_rfl) rfl rfl (one5 _ _ _ _ _ _ _) (fun Wz180 pz181 => ?_)
      replace hB := pz181.below hB (by omega)
      replace h3 := pz181.other h3 (by omega)
      replace h8 := pz181.other h8 (by omega)
      replace h9 := pz181.other h9 (by omega)
      replace ho := ho.put pz181 (ho.off h6 (by decide))
      replace h6 : At Wz180 Wz2.heap.size (.cells #[.int .i64 p, .int .i64 n, .int .i64 m, .int .i64 k, .slice A9 L.length c9] 31 (0, 0)) := pz181.at_
      refine hK' _ _ ?_
      clear hK' K' pz181
      refine ls_ex (some 7) (.int .i64 0) rfl rfl (exec_assign _ rfl (.int .i64 0) rfl) ?_
      go_frame
      refine wpList_nil ?_
      go_wp2_with fail
      refine bodyPost_ret (results_at2 rfl _ _ Wz2.heap.size _ _ _ rfl _ rfl h6 Try.underlying31 rfl 5 (by kernel_rfl) rfl) rfl ?_
      unfold ResS wsZ wsL
      rw [HC.out]
      exact ⟨_, rfl, by rw [if_pos rfl, Int.toNat_natCast, Int.toNat_natCast, HFL.out]; exact ho.mono (by omega), hB⟩
end Go.Proofs.Ytkboenfloaagiaa
