/-
  MethodOfScheme of both sides. (Made by mkmt5.py.)
-/
import Derived.Test.YtkjdlmeolnohbaaMt4
import Derived.Test.YtkjdlmeolnohbaaBos
import Derived.Test.YtkjdlmeolnohbaaHeldT
namespace Go.Proofs.Ytkjdlmeolnohbaa
open Go.RowKit
set_option maxRecDepth 100000
attribute [local irreducible] wpList
set_option maxHeartbeats 4000000 in
theorem l09Of_c (p n m k : Int) (a9 : Addr) (c : Nat) (qs : List (List Nat)) (w : World) (hR : Rd w (some a9) qs) (hlen : qs.length ≤ 1000) (hn : sizeB n = true) (hm : sizeB m = true) (hk : sizeB k = true) :
    Calls Try.prog 41 #[.agg #[.int .i64 p, .int .i64 n, .int .i64 m, .int .i64 k, .slice (some a9) qs.length c]] w (fun e w' => ∃ v, e = .returned (.agg #[.int .i64 p, .int .i64 (n * m), .int .i64 (m * k), .int .i64 (n * k), v]) ∧ Own w' w.heap.size v qs ∧ Below w.heap.size w w') := by
  have hB := Below.refl w.heap.size w
  have HN := Lib.hid hn
  have HM := Lib.hid hm
  have HK := Lib.hid hk
  clear hn hm hk
  go_enter Try.func41, Try.ntmps41
  go_upto_region 0 with (fail)
  refine wp_region_lit ?_
  refine ls_op rfl (fun K' hK' => ?_)
  have lz1 := hB.size
  refine wp_new (some 1) rfl (exec_box 41 _ rfl (#[.int .i64 p, .int .i64 n, .int .i64 m, .int .i64 k, .slice (some a9) qs.length c]) rfl) (fun Wz2 nnz3 => ?_)
  have bz4 := nnz3.below (Below.refl _ _) (Nat.le_refl _)
  replace hB := below_after hB bz4
  have hz5 : At Wz2 w.heap.size (.cells #[.int .i64 p, .int .i64 n, .int .i64 m, .int .i64 k, .slice (some a9) qs.length c] 41 (0, 0)) := nnz3.at_
  refine hK' _ _ ?_
  clear hK' K' nnz3 bz4
  go_frame
  refine ls_op rfl (fun K' hK' => ?_)
  have lz6 := hB.size
  have lz7 := hz5.lt
  refine wp_new (some 2) rfl (al_impl_Method rfl) (fun Wz8 nnz9 => ?_)
  have bz10 := nnz9.below (Below.refl _ _) (Nat.le_refl _)
  replace hB := below_after hB bz10
  replace hz5 := hz5.after bz10
  have hz11 : At Wz8 Wz2.heap.size (.cells #[.int .i64 0, .int .i64 0, .int .i64 0, .int .i64 0, .slice none 0 0] 29 (0, 0)) := nnz9.at_
  refine hK' _ _ ?_
  clear hK' K' nnz9 bz10
  go_frame
  refine wpList_nil ?_
  go_upto_region 1 with (fail)
  refine wp_region_lit ?_
  refine ls_ex (some 7) (.agg #[.int .i64 p, .int .i64 n, .int .i64 m, .int .i64 k, .slice (some a9) qs.length c]) rfl rfl (exec_load_all 41 _ rfl w.heap.size rfl _ _ _ hz5 Try.underlying41 rfl 5 (by kernel_rfl) rfl) ?_
  go_frame
  refine ls_op rfl (fun K' hK' => ?_)
  have lz14 := hB.size
  have lz15 := hz5.lt
  have lz16 := hz11.lt
  refine wp_call1 (some 8) rfl 66 _ _ rfl (fun args w => by kernel_rfl) _ rfl _ (l01Lengths_c p n m k _ _ HN.out HM.out HK.out) (fun e Wz12 h => ?_)
  obtain ⟨rfl, bz13⟩ := h
  replace hB := below_after hB bz13
  replace hz5 := hz5.after bz13
  replace hz11 := hz11.after bz13
  clear bz13
  refine ⟨_, rfl, ?_⟩
  refine hK' _ _ ?_
  clear hK' K'
  go_frame
  refine ls_ex (some 6) (.tuple #[.int .i64 (n * m), .int .i64 (m * k), .int .i64 (n * k)]) rfl rfl (exec_move _ rfl (.tuple #[.int .i64 (n * m), .int .i64 (m * k), .int .i64 (n * k)]) rfl) ?_
  go_frame
  refine ls_ex (some 9) (.int .i64 (n * m)) rfl rfl (exec_extract _ 0 rfl #[.int .i64 (n * m), .int .i64 (m * k), .int .i64 (n * k)] (by rfl) _ rfl) ?_
  go_frame
  refine ls_ex (some 10) (.int .i64 (m * k)) rfl rfl (exec_extract _ 1 rfl #[.int .i64 (n * m), .int .i64 (m * k), .int .i64 (n * k)] (by rfl) _ rfl) ?_
  go_frame
  refine ls_ex (some 11) (.int .i64 (n * k)) rfl rfl (exec_extract _ 2 rfl #[.int .i64 (n * m), .int .i64 (m * k), .int .i64 (n * k)] (by rfl) _ rfl) ?_
  go_frame
  refine ls_ex (some 3) (.int .i64 (n * m)) rfl rfl (exec_assign _ rfl (.int .i64 (n * m)) rfl) ?_
  go_frame
  refine ls_ex (some 4) (.int .i64 (m * k)) rfl rfl (exec_assign _ rfl (.int .i64 (m * k)) rfl) ?_
  go_frame
  refine ls_ex (some 5) (.int .i64 (n * k)) rfl rfl (exec_assign _ rfl (.int .i64 (n * k)) rfl) ?_
  go_frame
  refine wpList_nil ?_
  go_upto_region 2 with (fail)
  refine wp_region_y (zs := [10]) (S := fun w' => Below w.heap.size w w' ∧ At w' w.heap.size (.cells #[.int .i64 p, .int .i64 n, .int .i64 m, .int .i64 k, .slice (some a9) qs.length c] 41 (0, 0))) (S2 := fun w' => True) (by kernel_rfl) ?_
  change wpAnyY _ _ _ _ _ _ _ _ _ _ (World.drew _)
  generalize hwdz17 : World.drew _ = wdz17
  replace hB : Below w.heap.size w wdz17 := by rw [← hwdz17]; exact hB.drew
  replace hz5 : At wdz17 w.heap.size (.cells #[.int .i64 p, .int .i64 n, .int .i64 m, .int .i64 k, .slice (some a9) qs.length c] 41 (0, 0)) := by rw [← hwdz17]; exact hz5
  replace hz11 : At wdz17 Wz2.heap.size (.cells #[.int .i64 0, .int .i64 0, .int .i64 0, .int .i64 0, .slice none 0 0] 29 (0, 0)) := by rw [← hwdz17]; exact hz11
  clear hwdz17
  refine y_yield 0 (some 12) (.pointer (some ⟨w.heap.size, 0, none⟩)) rfl (by kernel_rfl) (by kernel_rfl) (by kernel_rfl) (fun _ _ _ h => h) rfl rfl ⟨hB, hz5⟩ (fun w' h' => exec_fieldAddr 41 _ 0 rfl _ (by kernel_rfl)) ?_
  go_frame
  refine y_yield 1 (some 13) (.int .i64 p) rfl (by kernel_rfl) (by kernel_rfl) (by kernel_rfl) (fun _ _ _ h => h) rfl rfl ⟨hB, hz5⟩ (fun w' h' => exec_load_one 2 _ rfl w.heap.size 0 rfl (.int .i64 p) _ Try.underlying2 rfl (h'.2.at_ 0)) ?_
  go_frame
  refine y_yield 2 (some 14) (.int .i64 (n * m)) rfl (by kernel_rfl) (by kernel_rfl) (by kernel_rfl) (fun _ _ _ h => h) rfl rfl ⟨hB, hz5⟩ (fun w' h' => exec_move _ rfl (.int .i64 (n * m)) rfl) ?_
  go_frame
  refine y_yield 3 (some 15) (.int .i64 (m * k)) rfl (by kernel_rfl) (by kernel_rfl) (by kernel_rfl) (fun _ _ _ h => h) rfl rfl ⟨hB, hz5⟩ (fun w' h' => exec_move _ rfl (.int .i64 (m * k)) rfl) ?_
  go_frame
  refine y_yield 4 (some 16) (.int .i64 (n * k)) rfl (by kernel_rfl) (by kernel_rfl) (by kernel_rfl) (fun _ _ _ h => h) rfl rfl ⟨hB, hz5⟩ (fun w' h' => exec_move _ rfl (.int .i64 (n * k)) rfl) ?_
  go_frame
  refine y_yield 6 (some 18) (.pointer (some ⟨w.heap.size, 4, none⟩)) rfl (by kernel_rfl) (by kernel_rfl) (by kernel_rfl) (fun _ _ _ h => h) rfl rfl ⟨hB, hz5⟩ (fun w' h' => exec_fieldAddr 41 _ 4 rfl _ (by kernel_rfl)) ?_
  go_frame
  refine y_yield 7 (some 19) (.slice (some a9) qs.length c) rfl (by kernel_rfl) (by kernel_rfl) (by kernel_rfl) (fun _ _ _ h => h) rfl rfl ⟨hB, hz5⟩ (fun w' h' => exec_load_one 27 _ rfl w.heap.size 4 rfl (.slice (some a9) qs.length c) _ Try.underlying27 rfl (h'.2.at_ 4)) ?_
  go_frame
  refine y_oper 5 (by kernel_rfl) rfl rfl (fun K' hK' => ?_)
  have lz22 := hB.size
  have lz23 := hz5.lt
  have lz24 := hz11.lt
  refine wp_new (some 17) rfl (exec_bs0 rfl) (fun Wz19 nnz20 => ?_)
  have bz21 := nnz20.below (Below.refl _ _) (Nat.le_refl _)
  replace hB := below_after hB bz21
  replace hz5 := hz5.after bz21
  replace hz11 := hz11.after bz21
  have hoz18 : Own Wz19 wdz17.heap.size (.slice (some ⟨wdz17.heap.size, 0, none⟩) 0 0) [] := own_bs0 nnz20
  refine hK' _ _ ⟨hB, hz5⟩ (fun _ => trivial) ?_
  clear hK' K' nnz20 bz21
  go_frame
  refine y_oper 8 (by kernel_rfl) rfl rfl (fun K' hK' => ?_)
  have lz27 := hB.size
  have lz28 := hz5.lt
  have lz29 := hz11.lt
  have lz30 : wdz17.heap.size < Wz19.heap.size := (hoz18.lt rfl).2
  have lz31 : wdz17.heap.size ≤ wdz17.heap.size := (hoz18.lt rfl).1
  refine wp_append_rd (some 20) rfl _ _ rfl (.slice (some ⟨wdz17.heap.size, 0, none⟩) 0 0) ([]) (qs) rfl hoz18 ((some a9)) c rfl (hR.keep hB) ((by simp)) (by simp; omega) (by omega) (fun v8 Wz25 ho8 grz26 => ?_)
  replace hB := below_grown hB grz26 hoz18 (by omega)
  replace hz5 := hz5.grown grz26 (hoz18.ne_lt (by omega))
  replace hz11 := hz11.grown grz26 (hoz18.ne_lt (by omega))
  rw [List.nil_append] at ho8
  obtain ⟨A8, c8, rfl⟩ := Own.rdN2 ho8 (n := qs.length) rfl
  refine hK' _ _ ⟨hB, hz5⟩ (fun _ => trivial) ?_
  clear hK' K' grz26 hoz18
  go_frame
  refine y_yield 9 (some 21) (.agg #[.int .i64 p, .int .i64 (n * m), .int .i64 (m * k), .int .i64 (n * k), .slice A8 qs.length c8]) rfl (by kernel_rfl) (by kernel_rfl) (by kernel_rfl) (fun _ _ _ h => h) rfl rfl ⟨hB, hz5⟩ (fun w' h' => exec_build_meth _ _ _ _ _ rfl p (n * m) (m * k) (n * k) A8 qs.length c8 rfl rfl rfl rfl rfl) ?_
  go_frame
  refine y_oper 10 (by kernel_rfl) rfl rfl (fun K' hK' => ?_)
  refine wp_store_all 29 _ _ rfl rfl Wz2.heap.size rfl #[.int .i64 p, .int .i64 (n * m), .int .i64 (m * k), .int .i64 (n * k), .slice A8 qs.length c8] rfl _ _ hz11 5 (by kernel_rfl) rfl rfl (one5 _ _ _ _ _ _ _) (fun Wz32 pz33 => ?_)
  replace hB := pz33.below hB (by omega)
  replace hz5 := pz33.other hz5 (by omega)
  replace ho8 := ho8.put pz33 (ho8.ne_lt (by omega))
  replace hz11 : At Wz32 Wz2.heap.size (.cells #[.int .i64 p, .int .i64 (n * m), .int .i64 (m * k), .int .i64 (n * k), .slice A8 qs.length c8] 29 (0, 0)) := pz33.at_
  refine hK' _ _ ⟨hB, hz5⟩ (fun h => absurd (by decide) h) ?_
  clear hK' K' pz33
  refine y_done (by kernel_rfl) ?_ _
  go_wp2_with fail
  refine bodyPost_ret (results_at rfl _ _ Wz2.heap.size _ _ _ rfl hz11 Try.underlying29 rfl 5 (by kernel_rfl) rfl) rfl ?_
  exact ⟨_, rfl, ho8.mono (by omega), hB⟩
set_option maxHeartbeats 4000000 in
theorem specMos_no (p n m k : Int) (a9 : Addr) (c : Nat) (qs : List (List Nat)) (w : World) (hR : Rd w (some a9) qs) (hlen : qs.length ≤ 1048576) (hs : schemeB p n m k qs = false) :
    Calls Try.prog 17 #[.agg #[.int .i64 p, .int .i64 n, .int .i64 m, .int .i64 k, .slice (some a9) qs.length c]] w (ResH w (hZ (mosCode p n m k qs) p) (hZ (mosCode p n m k qs) (n * m)) (hZ (mosCode p n m k qs) (m * k)) (hZ (mosCode p n m k qs) (n * k)) (hL (mosCode p n m k qs) qs) (mosCode p n m k qs)) := by
  have hB := Below.refl w.heap.size w
  have HC : Hid (mosCode p n m k qs = 1) := Lib.hid (by unfold mosCode; rw [hs]; rfl)
  have Hs := Lib.hid hs
  clear hs
  go_enter Try.func17, Try.ntmps17
  go_upto_region 0 with (fail)
  refine wp_region_lit ?_
  refine ls_op rfl (fun K' hK' => ?_)
  have lz1 := hB.size
  refine wp_new (some 1) rfl (exec_box 41 _ rfl (#[.int .i64 p, .int .i64 n, .int .i64 m, .int .i64 k, .slice (some a9) qs.length c]) rfl) (fun Wz2 nnz3 => ?_)
  have bz4 := nnz3.below (Below.refl _ _) (Nat.le_refl _)
  replace hB := below_after hB bz4
  have hz5 : At Wz2 w.heap.size (.cells #[.int .i64 p, .int .i64 n, .int .i64 m, .int .i64 k, .slice (some a9) qs.length c] 41 (0, 0)) := nnz3.at_
  refine hK' _ _ ?_
  clear hK' K' nnz3 bz4
  go_frame
  refine ls_op rfl (fun K' hK' => ?_)
  have lz6 := hB.size
  have lz7 := hz5.lt
  refine wp_new (some 2) rfl (al_impl_Method rfl) (fun Wz8 nnz9 => ?_)
  have bz10 := nnz9.below (Below.refl _ _) (Nat.le_refl _)
  replace hB := below_after hB bz10
  replace hz5 := hz5.after bz10
  have hz11 : At Wz8 Wz2.heap.size (.cells #[.int .i64 0, .int .i64 0, .int .i64 0, .int .i64 0, .slice none 0 0] 29 (0, 0)) := nnz9.at_
  refine hK' _ _ ?_
  clear hK' K' nnz9 bz10
  go_frame
  refine ls_ex (some 3) (.int .i64 0) rfl rfl (exec_assign _ rfl (.int .i64 0) rfl) ?_
  go_frame
  refine wpList_nil ?_
  go_upto_region 1 with (fail)
  refine wp_region_lit ?_
  refine ls_ex (some 4) (.agg #[.int .i64 p, .int .i64 n, .int .i64 m, .int .i64 k, .slice (some a9) qs.length c]) rfl rfl (exec_load_all 41 _ rfl w.heap.size rfl _ _ _ hz5 Try.underlying41 rfl 5 (by kernel_rfl) rfl) ?_
  go_frame
  refine ls_op rfl (fun K' hK' => ?_)
  have lz14 := hB.size
  have lz15 := hz5.lt
  have lz16 := hz11.lt
  refine wp_call1 (some 5) rfl 40 _ _ rfl (fun args w => by kernel_rfl) _ rfl _ (l01Is_c p n m k _ c qs _ (hR.keep hB) hlen) (fun e Wz12 h => ?_)
  obtain ⟨rfl, bz13⟩ := h
  replace hB := below_after hB bz13
  replace hz5 := hz5.after bz13
  replace hz11 := hz11.after bz13
  rw [Hs.out]
  clear bz13
  refine ⟨_, rfl, ?_⟩
  refine hK' _ _ ?_
  clear hK' K'
  go_frame
  refine ls_ex (some 6) (.bool true) rfl rfl (exec_not _ _ rfl false rfl) ?_
  go_frame
  refine wpList_nil ?_
  go_upto_region 2 with (fail)
  refine wp_region_lit ?_
  refine ls_ex (some 7) (.agg #[.int .i64 0, .int .i64 0, .int .i64 0, .int .i64 0, .slice none 0 0]) rfl rfl (exec_build_nil 29 rfl _ (by kernel_rfl)) ?_
  go_frame
  refine ls_op rfl (fun K' hK' => ?_)
  refine wp_store_all 29 _ _ rfl rfl Wz2.heap.size rfl #[.int .i64 0, .int .i64 0, .int .i64 0, .int .i64 0, .slice none 0 0] rfl _ _ hz11 5 (by kernel_rfl) rfl rfl (one5 _ _ _ _ _ _ _) (fun Wz17 pz18 => ?_)
  replace hB := pz18.below hB (by omega)
  replace hz5 := pz18.other hz5 (by omega)
  replace hz11 : At Wz17 Wz2.heap.size (.cells #[.int .i64 0, .int .i64 0, .int .i64 0, .int .i64 0, .slice none 0 0] 29 (0, 0)) := pz18.at_
  refine hK' _ _ ?_
  clear hK' K' pz18
  refine ls_ex (some 3) (.int .i64 1) rfl rfl (exec_assign _ rfl (.int .i64 1) rfl) ?_
  go_frame
  refine wpList_nil ?_
  go_wp2_with fail
  refine bodyPost_ret (results_at2 rfl _ _ Wz2.heap.size _ _ _ rfl _ rfl hz11 Try.underlying29 rfl 5 (by kernel_rfl) rfl) rfl ?_
  unfold ResH hZ hL
  rw [HC.out]
  exact ⟨_, rfl, Own.nil _ _, hB⟩
set_option maxHeartbeats 12800000 in
theorem specMos_yes (p n m k : Int) (a9 : Addr) (c : Nat) (qs : List (List Nat)) (w : World) (hR : Rd w (some a9) qs) (hlen : qs.length ≤ 1048576) (hs : schemeB p n m k qs = true) :
    Calls Try.prog 17 #[.agg #[.int .i64 p, .int .i64 n, .int .i64 m, .int .i64 k, .slice (some a9) qs.length c]] w (ResH w (hZ (mosCode p n m k qs) p) (hZ (mosCode p n m k qs) (n * m)) (hZ (mosCode p n m k qs) (m * k)) (hZ (mosCode p n m k qs) (n * k)) (hL (mosCode p n m k qs) qs) (mosCode p n m k qs)) := by
  have hB := Below.refl w.heap.size w
  have HC : Hid (mosCode p n m k qs = 0) := Lib.hid (by unfold mosCode; rw [hs]; rfl)
  have Hs := Lib.hid hs
  have hl30 := schemeB_len hs
  have HN := Lib.hid (sizesB_parts (schemeB_sizes hs)).2.1
  have HM := Lib.hid (sizesB_parts (schemeB_sizes hs)).2.2.1
  have HK := Lib.hid (sizesB_parts (schemeB_sizes hs)).2.2.2
  clear hs
  go_enter Try.func17, Try.ntmps17
  go_upto_region 0 with (fail)
  refine wp_region_lit ?_
  refine ls_op rfl (fun K' hK' => ?_)
  have lz1 := hB.size
  refine wp_new (some 1) rfl (exec_box 41 _ rfl (#[.int .i64 p, .int .i64 n, .int .i64 m, .int .i64 k, .slice (some a9) qs.length c]) rfl) (fun Wz2 nnz3 => ?_)
  have bz4 := nnz3.below (Below.refl _ _) (Nat.le_refl _)
  replace hB := below_after hB bz4
  have hz5 : At Wz2 w.heap.size (.cells #[.int .i64 p, .int .i64 n, .int .i64 m, .int .i64 k, .slice (some a9) qs.length c] 41 (0, 0)) := nnz3.at_
  refine hK' _ _ ?_
  clear hK' K' nnz3 bz4
  go_frame
  refine ls_op rfl (fun K' hK' => ?_)
  have lz6 := hB.size
  have lz7 := hz5.lt
  refine wp_new (some 2) rfl (al_impl_Method rfl) (fun Wz8 nnz9 => ?_)
  have bz10 := nnz9.below (Below.refl _ _) (Nat.le_refl _)
  replace hB := below_after hB bz10
  replace hz5 := hz5.after bz10
  have hz11 : At Wz8 Wz2.heap.size (.cells #[.int .i64 0, .int .i64 0, .int .i64 0, .int .i64 0, .slice none 0 0] 29 (0, 0)) := nnz9.at_
  refine hK' _ _ ?_
  clear hK' K' nnz9 bz10
  go_frame
  refine ls_ex (some 3) (.int .i64 0) rfl rfl (exec_assign _ rfl (.int .i64 0) rfl) ?_
  go_frame
  refine wpList_nil ?_
  go_upto_region 1 with (fail)
  refine wp_region_lit ?_
  refine ls_ex (some 4) (.agg #[.int .i64 p, .int .i64 n, .int .i64 m, .int .i64 k, .slice (some a9) qs.length c]) rfl rfl (exec_load_all 41 _ rfl w.heap.size rfl _ _ _ hz5 Try.underlying41 rfl 5 (by kernel_rfl) rfl) ?_
  go_frame
  refine ls_op rfl (fun K' hK' => ?_)
  have lz14 := hB.size
  have lz15 := hz5.lt
  have lz16 := hz11.lt
  refine wp_call1 (some 5) rfl 40 _ _ rfl (fun args w => by kernel_rfl) _ rfl _ (l01Is_c p n m k _ c qs _ (hR.keep hB) hlen) (fun e Wz12 h => ?_)
  obtain ⟨rfl, bz13⟩ := h
  replace hB := below_after hB bz13
  replace hz5 := hz5.after bz13
  replace hz11 := hz11.after bz13
  rw [Hs.out]
  clear bz13
  refine ⟨_, rfl, ?_⟩
  refine hK' _ _ ?_
  clear hK' K'
  go_frame
  refine ls_ex (some 6) (.bool false) rfl rfl (exec_not _ _ rfl true rfl) ?_
  go_frame
  refine wpList_nil ?_
  go_upto_region 3 with (fail)
  refine wp_region_lit ?_
  refine ls_ex (some 8) (.agg #[.int .i64 p, .int .i64 n, .int .i64 m, .int .i64 k, .slice (some a9) qs.length c]) rfl rfl (exec_load_all 41 _ rfl w.heap.size rfl _ _ _ hz5 Try.underlying41 rfl 5 (by kernel_rfl) rfl) ?_
  go_frame
  refine ls_op rfl (fun K' hK' => ?_)
  have lz19 := hB.size
  have lz20 := hz5.lt
  have lz21 := hz11.lt
  refine wp_call1 (some 9) rfl 41 _ _ rfl (fun args w => by kernel_rfl) _ rfl _ (l09Of_c p n m k a9 c qs _ (hR.keep hB) (by omega) HN.out HM.out HK.out) (fun e Wz17 h => ?_)
  obtain ⟨v7, rfl, ho, bz18⟩ := h
  replace hB := below_after hB bz18
  replace hz5 := hz5.after bz18
  replace hz11 := hz11.after bz18
  obtain ⟨A7, c7, rfl⟩ := Own.rdN2 ho (n := qs.length) rfl
  clear bz18
  refine ⟨_, rfl, ?_⟩
  refine hK' _ _ ?_
  clear hK' K'
  go_frame
  refine ls_op rfl (fun K' hK' => ?_)
  refine wp_store_all 29 _ _ rfl rfl Wz2.heap.size rfl #[.int .i64 p, .int .i64 (n * m), .int .i64 (m * k), .int .i64 (n * k), .slice A7 qs.length c7] rfl _ _ hz11 5 (by kernel_rfl) rfl rfl (one5 _ _ _ _ _ _ _) (fun Wz22 pz23 => ?_)
  replace hB := pz23.below hB (by omega)
  replace hz5 := pz23.other hz5 (by omega)
  replace ho := ho.put pz23 (ho.off hz11 (by decide))
  replace hz11 : At Wz22 Wz2.heap.size (.cells #[.int .i64 p, .int .i64 (n * m), .int .i64 (m * k), .int .i64 (n * k), .slice A7 qs.length c7] 29 (0, 0)) := pz23.at_
  refine hK' _ _ ?_
  clear hK' K' pz23
  refine ls_ex (some 3) (.int .i64 0) rfl rfl (exec_assign _ rfl (.int .i64 0) rfl) ?_
  go_frame
  refine wpList_nil ?_
  go_wp2_with fail
  refine bodyPost_ret (results_at2 rfl _ _ Wz2.heap.size _ _ _ rfl _ rfl hz11 Try.underlying29 rfl 5 (by kernel_rfl) rfl) rfl ?_
  unfold ResH hZ hL
  rw [HC.out]
  exact ⟨_, rfl, ho.mono (by omega), hB⟩
theorem specMethodOfScheme_c (p n m k : Int) (a9 : Addr) (c : Nat) (qs : List (List Nat)) (w : World) (hR : Rd w (some a9) qs) (hlen : qs.length ≤ 1048576) : Calls Try.prog 17 #[.agg #[.int .i64 p, .int .i64 n, .int .i64 m, .int .i64 k, .slice (some a9) qs.length c]] w (ResH w (hZ (mosCode p n m k qs) p) (hZ (mosCode p n m k qs) (n * m)) (hZ (mosCode p n m k qs) (m * k)) (hZ (mosCode p n m k qs) (n * k)) (hL (mosCode p n m k qs) qs) (mosCode p n m k qs)) := by
  cases hs : schemeB p n m k qs with
  | false => exact specMos_no p n m k a9 c qs w hR hlen hs
  | true => exact specMos_yes p n m k a9 c qs w hR hlen hs
set_option maxHeartbeats 4000000 in
theorem implMos_no (p n m k : Int) (a9 : Addr) (c : Nat) (qs : List (List Nat)) (w : World) (hR : Rd w (some a9) qs) (hlen : qs.length ≤ 1048576) (hs : schemeB p n m k qs = false) :
    Calls Try.prog 19 #[.agg #[.int .i64 p, .int .i64 n, .int .i64 m, .int .i64 k, .slice (some a9) qs.length c]] w (ResH w (hZ (mosCode p n m k qs) p) (hZ (mosCode p n m k qs) (n * m)) (hZ (mosCode p n m k qs) (m * k)) (hZ (mosCode p n m k qs) (n * k)) (hL (mosCode p n m k qs) qs) (mosCode p n m k qs)) := by
  have hB := Below.refl w.heap.size w
  have HC : Hid (mosCode p n m k qs = 1) := Lib.hid (by unfold mosCode; rw [hs]; rfl)
  have Hs := Lib.hid hs
  clear hs
  go_enter Try.func19, Try.ntmps19
  go_upto_region 0 with (fail)
  refine wp_region_lit ?_
  refine ls_op rfl (fun K' hK' => ?_)
  have lz1 := hB.size
  refine wp_new (some 1) rfl (exec_box 41 _ rfl (#[.int .i64 p, .int .i64 n, .int .i64 m, .int .i64 k, .slice (some a9) qs.length c]) rfl) (fun Wz2 nnz3 => ?_)
  have bz4 := nnz3.below (Below.refl _ _) (Nat.le_refl _)
  replace hB := below_after hB bz4
  have hz5 : At Wz2 w.heap.size (.cells #[.int .i64 p, .int .i64 n, .int .i64 m, .int .i64 k, .slice (some a9) qs.length c] 41 (0, 0)) := nnz3.at_
  refine hK' _ _ ?_
  clear hK' K' nnz3 bz4
  go_frame
  refine ls_op rfl (fun K' hK' => ?_)
  have lz6 := hB.size
  have lz7 := hz5.lt
  refine wp_new (some 2) rfl (al_impl_Method rfl) (fun Wz8 nnz9 => ?_)
  have bz10 := nnz9.below (Below.refl _ _) (Nat.le_refl _)
  replace hB := below_after hB bz10
  replace hz5 := hz5.after bz10
  have hz11 : At Wz8 Wz2.heap.size (.cells #[.int .i64 0, .int .i64 0, .int .i64 0, .int .i64 0, .slice none 0 0] 29 (0, 0)) := nnz9.at_
  refine hK' _ _ ?_
  clear hK' K' nnz9 bz10
  go_frame
  refine ls_ex (some 3) (.int .i64 0) rfl rfl (exec_assign _ rfl (.int .i64 0) rfl) ?_
  go_frame
  refine wpList_nil ?_
  go_upto_region 1 with (fail)
  refine wp_region_lit ?_
  refine ls_ex (some 4) (.agg #[.int .i64 p, .int .i64 n, .int .i64 m, .int .i64 k, .slice (some a9) qs.length c]) rfl rfl (exec_load_all 41 _ rfl w.heap.size rfl _ _ _ hz5 Try.underlying41 rfl 5 (by kernel_rfl) rfl) ?_
  go_frame
  refine ls_op rfl (fun K' hK' => ?_)
  have lz14 := hB.size
  have lz15 := hz5.lt
  have lz16 := hz11.lt
  refine wp_call1 (some 5) rfl 42 _ _ rfl (fun args w => by kernel_rfl) _ rfl _ (implIsScheme_c p n m k _ c qs _ (hR.keep hB) hlen) (fun e Wz12 h => ?_)
  obtain ⟨rfl, bz13⟩ := h
  replace hB := below_after hB bz13
  replace hz5 := hz5.after bz13
  replace hz11 := hz11.after bz13
  rw [Hs.out]
  clear bz13
  refine ⟨_, rfl, ?_⟩
  refine hK' _ _ ?_
  clear hK' K'
  go_frame
  refine ls_ex (some 6) (.bool true) rfl rfl (exec_not _ _ rfl false rfl) ?_
  go_frame
  refine wpList_nil ?_
  go_upto_region 2 with (fail)
  refine wp_region_lit ?_
  refine ls_ex (some 7) (.agg #[.int .i64 0, .int .i64 0, .int .i64 0, .int .i64 0, .slice none 0 0]) rfl rfl (exec_build_nil 29 rfl _ (by kernel_rfl)) ?_
  go_frame
  refine ls_op rfl (fun K' hK' => ?_)
  refine wp_store_all 29 _ _ rfl rfl Wz2.heap.size rfl #[.int .i64 0, .int .i64 0, .int .i64 0, .int .i64 0, .slice none 0 0] rfl _ _ hz11 5 (by kernel_rfl) rfl rfl (one5 _ _ _ _ _ _ _) (fun Wz17 pz18 => ?_)
  replace hB := pz18.below hB (by omega)
  replace hz5 := pz18.other hz5 (by omega)
  replace hz11 : At Wz17 Wz2.heap.size (.cells #[.int .i64 0, .int .i64 0, .int .i64 0, .int .i64 0, .slice none 0 0] 29 (0, 0)) := pz18.at_
  refine hK' _ _ ?_
  clear hK' K' pz18
  refine ls_ex (some 3) (.int .i64 1) rfl rfl (exec_assign _ rfl (.int .i64 1) rfl) ?_
  go_frame
  refine wpList_nil ?_
  go_wp2_with fail
  refine bodyPost_ret (results_at2 rfl _ _ Wz2.heap.size _ _ _ rfl _ rfl hz11 Try.underlying29 rfl 5 (by kernel_rfl) rfl) rfl ?_
  unfold ResH hZ hL
  rw [HC.out]
  exact ⟨_, rfl, Own.nil _ _, hB⟩
set_option maxHeartbeats 12800000 in
theorem implMos_yes (p n m k : Int) (a9 : Addr) (c : Nat) (qs : List (List Nat)) (w : World) (hR : Rd w (some a9) qs) (hlen : qs.length ≤ 1048576) (hs : schemeB p n m k qs = true) :
    Calls Try.prog 19 #[.agg #[.int .i64 p, .int .i64 n, .int .i64 m, .int .i64 k, .slice (some a9) qs.length c]] w (ResH w (hZ (mosCode p n m k qs) p) (hZ (mosCode p n m k qs) (n * m)) (hZ (mosCode p n m k qs) (m * k)) (hZ (mosCode p n m k qs) (n * k)) (hL (mosCode p n m k qs) qs) (mosCode p n m k qs)) := by
  have hB := Below.refl w.heap.size w
  have HC : Hid (mosCode p n m k qs = 0) := Lib.hid (by unfold mosCode; rw [hs]; rfl)
  have Hs := Lib.hid hs
  have hl30 := schemeB_len hs
  have HN := Lib.hid (sizesB_parts (schemeB_sizes hs)).2.1
  have HM := Lib.hid (sizesB_parts (schemeB_sizes hs)).2.2.1
  have HK := Lib.hid (sizesB_parts (schemeB_sizes hs)).2.2.2
  clear hs
  go_enter Try.func19, Try.ntmps19
  go_upto_region 0 with (fail)
  refine wp_region_lit ?_
  refine ls_op rfl (fun K' hK' => ?_)
  have lz1 := hB.size
  refine wp_new (some 1) rfl (exec_box 41 _ rfl (#[.int .i64 p, .int .i64 n, .int .i64 m, .int .i64 k, .slice (some a9) qs.length c]) rfl) (fun Wz2 nnz3 => ?_)
  have bz4 := nnz3.below (Below.refl _ _) (Nat.le_refl _)
  replace hB := below_after hB bz4
  have hz5 : At Wz2 w.heap.size (.cells #[.int .i64 p, .int .i64 n, .int .i64 m, .int .i64 k, .slice (some a9) qs.length c] 41 (0, 0)) := nnz3.at_
  refine hK' _ _ ?_
  clear hK' K' nnz3 bz4
  go_frame
  refine ls_op rfl (fun K' hK' => ?_)
  have lz6 := hB.size
  have lz7 := hz5.lt
  refine wp_new (some 2) rfl (al_impl_Method rfl) (fun Wz8 nnz9 => ?_)
  have bz10 := nnz9.below (Below.refl _ _) (Nat.le_refl _)
  replace hB := below_after hB bz10
  replace hz5 := hz5.after bz10
  have hz11 : At Wz8 Wz2.heap.size (.cells #[.int .i64 0, .int .i64 0, .int .i64 0, .int .i64 0, .slice none 0 0] 29 (0, 0)) := nnz9.at_
  refine hK' _ _ ?_
  clear hK' K' nnz9 bz10
  go_frame
  refine ls_ex (some 3) (.int .i64 0) rfl rfl (exec_assign _ rfl (.int .i64 0) rfl) ?_
  go_frame
  refine wpList_nil ?_
  go_upto_region 1 with (fail)
  refine wp_region_lit ?_
  refine ls_ex (some 4) (.agg #[.int .i64 p, .int .i64 n, .int .i64 m, .int .i64 k, .slice (some a9) qs.length c]) rfl rfl (exec_load_all 41 _ rfl w.heap.size rfl _ _ _ hz5 Try.underlying41 rfl 5 (by kernel_rfl) rfl) ?_
  go_frame
  refine ls_op rfl (fun K' hK' => ?_)
  have lz14 := hB.size
  have lz15 := hz5.lt
  have lz16 := hz11.lt
  refine wp_call1 (some 5) rfl 42 _ _ rfl (fun args w => by kernel_rfl) _ rfl _ (implIsScheme_c p n m k _ c qs _ (hR.keep hB) hlen) (fun e Wz12 h => ?_)
  obtain ⟨rfl, bz13⟩ := h
  replace hB := below_after hB bz13
  replace hz5 := hz5.after bz13
  replace hz11 := hz11.after bz13
  rw [Hs.out]
  clear bz13
  refine ⟨_, rfl, ?_⟩
  refine hK' _ _ ?_
  clear hK' K'
  go_frame
  refine ls_ex (some 6) (.bool false) rfl rfl (exec_not _ _ rfl true rfl) ?_
  go_frame
  refine wpList_nil ?_
  go_upto_region 3 with (fail)
  refine wp_region_y (zs := [8]) (S := fun w' => Below w.heap.size w w' ∧ At w' w.heap.size (.cells #[.int .i64 p, .int .i64 n, .int .i64 m, .int .i64 k, .slice (some a9) qs.length c] 41 (0, 0))) (S2 := fun w' => True) (by kernel_rfl) ?_
  change wpAnyY _ _ _ _ _ _ _ _ _ _ (World.drew _)
  generalize hwdz17 : World.drew _ = wdz17
  replace hB : Below w.heap.size w wdz17 := by rw [← hwdz17]; exact hB.drew
  replace hz5 : At wdz17 w.heap.size (.cells #[.int .i64 p, .int .i64 n, .int .i64 m, .int .i64 k, .slice (some a9) qs.length c] 41 (0, 0)) := by rw [← hwdz17]; exact hz5
  replace hz11 : At wdz17 Wz2.heap.size (.cells #[.int .i64 0, .int .i64 0, .int .i64 0, .int .i64 0, .slice none 0 0] 29 (0, 0)) := by rw [← hwdz17]; exact hz11
  clear hwdz17
  refine y_yield 0 (some 8) (.pointer (some ⟨w.heap.size, 0, none⟩)) rfl (by kernel_rfl) (by kernel_rfl) (by kernel_rfl) (fun _ _ _ h => h) rfl rfl ⟨hB, hz5⟩ (fun w' h' => exec_fieldAddr 41 _ 0 rfl _ (by kernel_rfl)) ?_
  go_frame
  refine y_yield 1 (some 9) (.int .i64 p) rfl (by kernel_rfl) (by kernel_rfl) (by kernel_rfl) (fun _ _ _ h => h) rfl rfl ⟨hB, hz5⟩ (fun w' h' => exec_load_one 2 _ rfl w.heap.size 0 rfl (.int .i64 p) _ Try.underlying2 rfl (h'.2.at_ 0)) ?_
  go_frame
  refine y_yield 2 (some 10) (.agg #[.int .i64 p, .int .i64 n, .int .i64 m, .int .i64 k, .slice (some a9) qs.length c]) rfl (by kernel_rfl) (by kernel_rfl) (by kernel_rfl) (fun _ _ _ h => h) rfl rfl ⟨hB, hz5⟩ (fun w' h' => exec_load_all 41 _ rfl w.heap.size rfl _ _ _ h'.2 Try.underlying41 rfl 5 (by kernel_rfl) rfl) ?_
  go_frame
  refine y_yield 4 (some 12) (.pointer (some ⟨w.heap.size, 4, none⟩)) rfl (by kernel_rfl) (by kernel_rfl) (by kernel_rfl) (fun _ _ _ h => h) rfl rfl ⟨hB, hz5⟩ (fun w' h' => exec_fieldAddr 41 _ 4 rfl _ (by kernel_rfl)) ?_
  go_frame
  refine y_yield 5 (some 13) (.slice (some a9) qs.length c) rfl (by kernel_rfl) (by kernel_rfl) (by kernel_rfl) (fun _ _ _ h => h) rfl rfl ⟨hB, hz5⟩ (fun w' h' => exec_load_one 27 _ rfl w.heap.size 4 rfl (.slice (some a9) qs.length c) _ Try.underlying27 rfl (h'.2.at_ 4)) ?_
  go_frame
  refine y_oper 3 (by kernel_rfl) rfl rfl (fun K' hK' => ?_)
  have lz20 := hB.size
  have lz21 := hz5.lt
  have lz22 := hz11.lt
  refine wp_call1 (some 11) rfl 43 _ _ rfl (fun args w => by kernel_rfl) _ rfl _ (boxOfScheme_c p n m k _ _ _ _ HN.out HM.out HK.out) (fun e Wz18 h => ?_)
  obtain ⟨rfl, bz19⟩ := h
  replace hB := below_after hB bz19
  replace hz5 := hz5.after bz19
  replace hz11 := hz11.after bz19
  clear bz19
  refine ⟨_, rfl, ?_⟩
  refine hK' _ _ ⟨hB, hz5⟩ (fun _ => trivial) ?_
  clear hK' K'
  go_frame
  refine y_oper 6 (by kernel_rfl) rfl rfl (fun K' hK' => ?_)
  have lz25 := hB.size
  have lz26 := hz5.lt
  have lz27 := hz11.lt
  refine wp_call1 (some 14) rfl 36 _ _ rfl (fun args w => by kernel_rfl) _ rfl _ (cloneP_c _ c qs _ (hR.keep hB) (by omega)) (fun e Wz23 h => ?_)
  obtain ⟨v8, rfl, ho, bz24⟩ := h
  replace hB := below_after hB bz24
  replace hz5 := hz5.after bz24
  replace hz11 := hz11.after bz24
  obtain ⟨A8, c8, rfl⟩ := Own.rdN2 ho (n := qs.length) rfl
  clear bz24
  refine ⟨_, rfl, ?_⟩
  refine hK' _ _ ⟨hB, hz5⟩ (fun _ => trivial) ?_
  clear hK' K'
  go_frame
  refine y_oper 7 (by kernel_rfl) rfl rfl (fun K' hK' => ?_)
  have lz30 := hB.size
  have lz31 := hz5.lt
  have lz32 := hz11.lt
  refine wp_call3 (some 15) rfl 37 _ _ _ _ rfl (fun args w => by kernel_rfl) _ _ _ rfl rfl rfl _ (methodOf_c p (n * m) (m * k) (n * k) A8 qs.length c8 _) (fun e Wz28 h => ?_)
  obtain ⟨rfl, bz29⟩ := h
  replace hB := below_after hB bz29
  replace hz5 := hz5.after bz29
  replace hz11 := hz11.after bz29
  replace ho := ho.below bz29
  clear bz29
  refine ⟨_, rfl, ?_⟩
  refine hK' _ _ ⟨hB, hz5⟩ (fun _ => trivial) ?_
  clear hK' K'
  go_frame
  refine y_oper 8 (by kernel_rfl) rfl rfl (fun K' hK' => ?_)
  refine wp_store_all 29 _ _ rfl rfl Wz2.heap.size rfl #[.int .i64 p, .int .i64 (n * m), .int .i64 (m * k), .int .i64 (n * k), .slice A8 qs.length c8] rfl _ _ hz11 5 (by kernel_rfl) rfl rfl (one5 _ _ _ _ _ _ _) (fun Wz33 pz34 => ?_)
  replace hB := pz34.below hB (by omega)
  replace hz5 := pz34.other hz5 (by omega)
  replace ho := ho.put pz34 (ho.off hz11 (by decide))
  replace hz11 : At Wz33 Wz2.heap.size (.cells #[.int .i64 p, .int .i64 (n * m), .int .i64 (m * k), .int .i64 (n * k), .slice A8 qs.length c8] 29 (0, 0)) := pz34.at_
  refine hK' _ _ ⟨hB, hz5⟩ (fun h => absurd (by decide) h) ?_
  clear hK' K' pz34
  refine y_oper 9 (by kernel_rfl) rfl rfl (fun K' hK' => ?_)
  refine wp_exec (some 3) rfl (.int .i64 0) (exec_assign _ rfl (.int .i64 0) rfl) ?_
  refine hK' _ _ ⟨hB, hz5⟩ (fun _ => trivial) ?_
  clear hK' K'
  go_frame
  refine y_done (by kernel_rfl) ?_ _
  go_wp2_with fail
  refine bodyPost_ret (results_at2 rfl _ _ Wz2.heap.size _ _ _ rfl _ rfl hz11 Try.underlying29 rfl 5 (by kernel_rfl) rfl) rfl ?_
  unfold ResH hZ hL
  rw [HC.out]
  exact ⟨_, rfl, ho.mono (by omega), hB⟩
theorem implMethodOfScheme_c (p n m k : Int) (a9 : Addr) (c : Nat) (qs : List (List Nat)) (w : World) (hR : Rd w (some a9) qs) (hlen : qs.length ≤ 1048576) : Calls Try.prog 19 #[.agg #[.int .i64 p, .int .i64 n, .int .i64 m, .int .i64 k, .slice (some a9) qs.length c]] w (ResH w (hZ (mosCode p n m k qs) p) (hZ (mosCode p n m k qs) (n * m)) (hZ (mosCode p n m k qs) (m * k)) (hZ (mosCode p n m k qs) (n * k)) (hL (mosCode p n m k qs) qs) (mosCode p n m k qs)) := by
  cases hs : schemeB p n m k qs with
  | false => exact implMos_no p n m k a9 c qs w hR hlen hs
  | true => exact implMos_yes p n m k a9 c qs w hR hlen hs
end Go.Proofs.Ytkjdlmeolnohbaa
