/-
  impl.SplitProduct. (Made by mksp.py.)
-/
import Derived.Test.YtbgoopmmdbhogaaSp2
namespace Go.Proofs.Ytbgoopmmdbhogaa
open Go.RowKit
set_option maxRecDepth 100000
set_option maxHeartbeats 4000000 in
theorem implSplit_d1 (p n m k : Int) (b0 off0 : Nat) (cap : Nat) (qs : List (List Nat)) (i : Nat) (form : List Nat) (w : World) (hR : Rd w (some ⟨b0, off0, none⟩) qs) (hlen : qs.length ≤ 1048576) (hfm : Bytes 9 form) (hs : schemeB p n m k qs = true) (hilt : i < qs.length) (hm : formB p form (m * k) = false) :
    Calls Try.prog 18 #[.agg #[.int .i64 p, .int .i64 n, .int .i64 m, .int .i64 k, .slice (some ⟨b0, off0, none⟩) qs.length cap], .int .i64 i, .int .i64 1, .agg (u8s form)] w (ResS w (spZ p n m k qs i 1 form p) (spZ p n m k qs i 1 form n) (spZ p n m k qs i 1 form m) (spZ p n m k qs i 1 form k) (spR p n m k qs i 1 form) (spCode p n m k qs i 1 form)) := by
  have HIs := Lib.hid (fun w hr => implIsScheme_c p n m k (some ⟨b0, off0, none⟩) cap qs w hr hlen)
  have hB := Below.refl w.heap.size w
  have Hs := Lib.hid hs
  have hpr := (sizesB_parts (schemeB_sizes hs)).1
  have h5 := primeB_5 hpr
  have hp0 : 0 < p := h5.1
  have hsn := (sizesB_parts (schemeB_sizes hs)).2.1
  have hsm := (sizesB_parts (schemeB_sizes hs)).2.2.1
  have hsk := (sizesB_parts (schemeB_sizes hs)).2.2.2
  have hin : inI (i : Int) qs.length = true := by simp [inI]; omega
  have Hi := Lib.hid hin
  have h31 := schemeB_len hs
  have hbi := hR.good _ (List.getElem_mem hilt)
  have hel : qs[i]?.getD [] = qs[i] := by simp [hilt]
  have Hc := Lib.hid (fun W (hb : Below w.heap.size w W) => Rd.cells27 (hR.keep hb) hilt)
  have Hm := Lib.hid hm
  have Hcode : Hid (spCode p n m k qs i 1 form = 2) := Lib.hid (by unfold spCode; rw [if_pos hs, hin, show inI 1 3 = true from rfl, show lenF n m k (1 : Int).toNat = m * k from rfl, hm]; simp)
  have Hz : Hid (∀ x, spZ p n m k qs i 1 form x = 0) := Lib.hid (fun x => by simp [spZ, Hcode.out])
  have Hr : Hid (spR p n m k qs i 1 form = []) := Lib.hid (by simp [spR, Hcode.out])
  clear hs hm hin
  generalize qs[i] = q at *
  obtain ⟨QA, QB, QC, rfl, hQA, hQB, hQC⟩ := parts3 hbi
  have hq := bytes3 hQA hQB hQC
  go_enter Try.func18, Try.ntmps18
  go_upto_region 0 with (fail)
  refine wp_region_lit ?_
  refine ls_op rfl (fun K' hK' => ?_)
  have lz1 := hB.size
  refine wp_new (some 4) rfl (exec_box 28 _ rfl (#[.int .i64 p, .int .i64 n, .int .i64 m, .int .i64 k, .slice (some ⟨b0, off0, none⟩) qs.length cap]) rfl) (fun Wz2 nnz3 => ?_)
  have bz4 := nnz3.below (Below.refl _ _) (Nat.le_refl _)
  replace hB := below_after hB bz4
  have hz5 : At Wz2 w.heap.size (.cells #[.int .i64 p, .int .i64 n, .int .i64 m, .int .i64 k, .slice (some ⟨b0, off0, none⟩) qs.length cap] 28 (0, 0)) := nnz3.at_
  refine hK' _ _ ?_
  clear hK' K' nnz3 bz4
  go_frame
  refine ls_op rfl (fun K' hK' => ?_)
  have lz6 := hB.size
  have lz7 := hz5.lt
  refine wp_new (some 7) rfl (exec_box 39 _ rfl (u8s (form)) rfl) (fun Wz8 nnz9 => ?_)
  have bz10 := nnz9.below (Below.refl _ _) (Nat.le_refl _)
  replace hB := below_after hB bz10
  replace hz5 := hz5.after bz10
  have hz11 : At Wz8 Wz2.heap.size (.cells (u8s (form)) 39 (0, 0)) := nnz9.at_
  refine hK' _ _ ?_
  clear hK' K' nnz9 bz10
  go_frame
  refine ls_op rfl (fun K' hK' => ?_)
  have lz12 := hB.size
  have lz13 := hz5.lt
  have lz14 := hz11.lt
  refine wp_new (some 8) rfl (al_impl_Scheme rfl) (fun Wz15 nnz16 => ?_)
  have bz17 := nnz16.below (Below.refl _ _) (Nat.le_refl _)
  replace hB := below_after hB bz17
  replace hz5 := hz5.after bz17
  replace hz11 := hz11.after bz17
  have hz18 : At Wz15 Wz8.heap.size (.cells #[.int .i64 0, .int .i64 0, .int .i64 0, .int .i64 0, .slice none 0 0] 28 (0, 0)) := nnz16.at_
  refine hK' _ _ ?_
  clear hK' K' nnz16 bz17
  go_frame
  refine ls_ex (some 9) (.int .i64 0) rfl rfl (exec_assign _ rfl (.int .i64 0) rfl) ?_
  go_frame
  refine wpList_nil ?_
  go_upto_region 1 with (fail)
  refine wp_region_lit ?_
  refine ls_ex (some 13) (.agg #[.int .i64 p, .int .i64 n, .int .i64 m, .int .i64 k, .slice (some ⟨b0, off0, none⟩) qs.length cap]) rfl rfl (exec_load_all 28 _ rfl w.heap.size rfl _ _ _ hz5 Try.underlying28 rfl 5 (by kernel_rfl) rfl) ?_
  go_frame
  refine ls_op rfl (fun K' hK' => ?_)
  have lz21 := hB.size
  have lz22 := hz5.lt
  have lz23 := hz11.lt
  have lz24 := hz18.lt
  refine wp_call1 (some 14) rfl 25 _ _ rfl (fun args w => by kernel_rfl) _ rfl _ (HIs.out _ (hR.keep hB)) (fun e Wz19 h => ?_)
  obtain ⟨rfl, bz20⟩ := h
  replace hB := below_after hB bz20
  replace hz5 := hz5.after bz20
  replace hz11 := hz11.after bz20
  replace hz18 := hz18.after bz20
  rw [Hs.out]
  clear bz20
  refine ⟨_, rfl, ?_⟩
  refine hK' _ _ ?_
  clear hK' K'
  go_frame
  refine ls_ex (some 15) (.bool false) rfl rfl (exec_not _ _ rfl true rfl) ?_
  go_frame
  refine wpList_nil ?_
  go_upto_region 3 with (fail)
  refine wp_region_y (zs := []) (S := fun w' => Below w.heap.size w w' ∧ At w' w.heap.size (.cells #[.int .i64 p, .int .i64 n, .int .i64 m, .int .i64 k, .slice (some ⟨b0, off0, none⟩) qs.length cap] 28 (0, 0)) ∧ At w' Wz2.heap.size (.cells (u8s (form)) 39 (0, 0))) (S2 := fun w' => True) (by kernel_rfl) ?_
  change wpAnyY _ _ _ _ _ _ _ _ _ _ (World.drew _)
  generalize hwdz25 : World.drew _ = wdz25
  replace hB : Below w.heap.size w wdz25 := by rw [← hwdz25]; exact hB.drew
  replace hz5 : At wdz25 w.heap.size (.cells #[.int .i64 p, .int .i64 n, .int .i64 m, .int .i64 k, .slice (some ⟨b0, off0, none⟩) qs.length cap] 28 (0, 0)) := by rw [← hwdz25]; exact hz5
  replace hz11 : At wdz25 Wz2.heap.size (.cells (u8s (form)) 39 (0, 0)) := by rw [← hwdz25]; exact hz11
  replace hz18 : At wdz25 Wz8.heap.size (.cells #[.int .i64 0, .int .i64 0, .int .i64 0, .int .i64 0, .slice none 0 0] 28 (0, 0)) := by rw [← hwdz25]; exact hz18
  clear hwdz25
  refine y_yield 0 (some 17) (.agg #[.int .i64 p, .int .i64 n, .int .i64 m, .int .i64 k, .slice (some ⟨b0, off0, none⟩) qs.length cap]) rfl (by kernel_rfl) (by kernel_rfl) (by kernel_rfl) (fun _ _ _ h => h) rfl rfl ⟨hB, hz5, hz11⟩ (fun w' h' => exec_load_all 28 _ rfl w.heap.size rfl _ _ _ h'.2.1 Try.underlying28 rfl 5 (by kernel_rfl) rfl) ?_
  go_frame
  refine y_yield 1 (some 18) (.int .i64 i) rfl (by kernel_rfl) (by kernel_rfl) (by kernel_rfl) (fun _ _ _ h => h) rfl rfl ⟨hB, hz5, hz11⟩ (fun w' h' => exec_move _ rfl (.int .i64 i) rfl) ?_
  go_frame
  refine y_oper 2 (by kernel_rfl) rfl rfl (fun K' hK' => ?_)
  have lz28 := hB.size
  have lz29 := hz5.lt
  have lz30 := hz11.lt
  have lz31 := hz18.lt
  refine wp_call2 (some 19) rfl 36 _ _ _ rfl (fun args w => by kernel_rfl) _ _ rfl rfl _ (isProductIndex_c p n m k _ cap qs.length i _) (fun e Wz26 h => ?_)
  obtain ⟨rfl, bz27⟩ := h
  replace hB := below_after hB bz27
  replace hz5 := hz5.after bz27
  replace hz11 := hz11.after bz27
  replace hz18 := hz18.after bz27
  rw [Hi.out]
  clear bz27
  refine ⟨_, rfl, ?_⟩
  refine hK' _ _ ⟨hB, hz5, hz11⟩ (fun _ => trivial) ?_
  clear hK' K'
  go_frame
  refine y_yield 3 (some 20) (.bool false) rfl (by kernel_rfl) (by kernel_rfl) (by kernel_rfl) (fun _ _ _ h => h) rfl rfl ⟨hB, hz5, hz11⟩ (fun w' h' => exec_not _ _ rfl true rfl) ?_
  go_frame
  refine y_yield 4 (some 21) (.bool false) rfl (by kernel_rfl) (by kernel_rfl) (by kernel_rfl) (fun _ _ _ h => h) rfl rfl ⟨hB, hz5, hz11⟩ (fun w' h' => exec_move _ rfl (.bool false) rfl) ?_
  go_frame
  refine y_yield 5 (some 22) (.int .i64 1) rfl (by kernel_rfl) (by kernel_rfl) (by kernel_rfl) (fun _ _ _ h => h) rfl rfl ⟨hB, hz5, hz11⟩ (fun w' h' => exec_move _ rfl (.int .i64 1) rfl) ?_
  go_frame
  refine y_oper 6 (by kernel_rfl) rfl rfl (fun K' hK' => ?_)
  have lz34 := hB.size
  have lz35 := hz5.lt
  have lz36 := hz11.lt
  have lz37 := hz18.lt
  refine wp_call2 (some 23) rfl 47 _ _ _ rfl (fun args w => by kernel_rfl) _ _ rfl rfl _ (isIdx_c 1 3 _) (fun e Wz32 h => ?_)
  obtain ⟨rfl, rfl⟩ := h
  rw [show inI 1 3 = true from rfl]
  refine ⟨_, rfl, ?_⟩
  refine hK' _ _ ⟨hB, hz5, hz11⟩ (fun _ => trivial) ?_
  clear hK' K'
  go_frame
  refine y_yield 7 (some 24) (.bool false) rfl (by kernel_rfl) (by kernel_rfl) (by kernel_rfl) (fun _ _ _ h => h) rfl rfl ⟨hB, hz5, hz11⟩ (fun w' h' => exec_not _ _ rfl true rfl) ?_
  go_frame
  refine y_yield 8 (some 25) (.bool false) rfl (by kernel_rfl) (by kernel_rfl) (by kernel_rfl) (fun _ _ _ h => h) rfl rfl ⟨hB, hz5, hz11⟩ (fun w' h' => exec_pick _ _ _ rfl false rfl (.bool false) rfl) ?_
  go_frame
  refine y_yield 9 (some 26) (.bool false) rfl (by kernel_rfl) (by kernel_rfl) (by kernel_rfl) (fun _ _ _ h => h) rfl rfl ⟨hB, hz5, hz11⟩ (fun w' h' => exec_move _ rfl (.bool false) rfl) ?_
  go_frame
  refine y_yield 10 (some 27) (.pointer (some ⟨w.heap.size, 0, none⟩)) rfl (by kernel_rfl) (by kernel_rfl) (by kernel_rfl) (fun _ _ _ h => h) rfl rfl ⟨hB, hz5, hz11⟩ (fun w' h' => exec_fieldAddr 28 _ 0 rfl _ (by kernel_rfl)) ?_
  go_frame
  refine y_yield 11 (some 28) (.int .i64 p) rfl (by kernel_rfl) (by kernel_rfl) (by kernel_rfl) (fun _ _ _ h => h) rfl rfl ⟨hB, hz5, hz11⟩ (fun w' h' => exec_load_one 2 _ rfl w.heap.size 0 rfl (.int .i64 p) _ Try.underlying2 rfl (h'.2.1.at_ 0)) ?_
  go_frame
  refine y_yield 12 (some 29) (.agg #[.int .i64 p, .int .i64 n, .int .i64 m, .int .i64 k, .slice (some ⟨b0, off0, none⟩) qs.length cap]) rfl (by kernel_rfl) (by kernel_rfl) (by kernel_rfl) (fun _ _ _ h => h) rfl rfl ⟨hB, hz5, hz11⟩ (fun w' h' => exec_load_all 28 _ rfl w.heap.size rfl _ _ _ h'.2.1 Try.underlying28 rfl 5 (by kernel_rfl) rfl) ?_
  go_frame
  refine y_yield 14 (some 31) (.int .i64 1) rfl (by kernel_rfl) (by kernel_rfl) (by kernel_rfl) (fun _ _ _ h => h) rfl rfl ⟨hB, hz5, hz11⟩ (fun w' h' => exec_move _ rfl (.int .i64 1) rfl) ?_
  go_frame
  refine y_yield 16 (some 33) (.agg (u8s (form))) rfl (by kernel_rfl) (by kernel_rfl) (by kernel_rfl) (fun _ _ _ h => h) rfl rfl ⟨hB, hz5, hz11⟩ (fun w' h' => exec_load_all 39 _ rfl Wz2.heap.size rfl _ _ _ h'.2.2 Try.underlying39 rfl 9 (by kernel_rfl) ((u8s_size _).trans hfm.len)) ?_
  go_frame
  refine y_oper 13 (by kernel_rfl) rfl rfl (fun K' hK' => ?_)
  have lz40 := hB.size
  have lz41 := hz5.lt
  have lz42 := hz11.lt
  have lz43 := hz18.lt
  refine wp_call1 (some 30) rfl 49 _ _ rfl (fun args w => by kernel_rfl) _ rfl _ (shapesOf_c p n m k _ _) (fun e Wz38 h => ?_)
  obtain ⟨rfl, bz39⟩ := h
  replace hB := below_after hB bz39
  replace hz5 := hz5.after bz39
  replace hz11 := hz11.after bz39
  replace hz18 := hz18.after bz39
  clear bz39
  refine ⟨_, rfl, ?_⟩
  refine hK' _ _ ⟨hB, hz5, hz11⟩ (fun _ => trivial) ?_
  clear hK' K'
  go_frame
  refine y_yield 15 (some 32) (.agg #[.int .i64 m, .int .i64 k]) rfl (by kernel_rfl) (by kernel_rfl) (by kernel_rfl) (fun _ _ _ h => h) rfl rfl ⟨hB, hz5, hz11⟩ (fun w' h' => exec_index_part 77 76 _ _ rfl 3 1 2 _ #[.int .i64 m, .int .i64 k] _ rfl rfl Try.underlying77 Try.underlying76 rfl (by kernel_rfl) (by omega) rfl) ?_
  go_frame
  refine y_oper 17 (by kernel_rfl) rfl rfl (fun K' hK' => ?_)
  have lz46 := hB.size
  have lz47 := hz5.lt
  have lz48 := hz11.lt
  have lz49 := hz18.lt
  refine wp_call3 (some 34) rfl 48 _ _ _ _ rfl (fun args w => by kernel_rfl) _ _ _ rfl rfl rfl _ (isForm_c p m k form hp0 hsm hsk hfm _) (fun e Wz44 h => ?_)
  obtain ⟨rfl, bz45⟩ := h
  replace hB := below_after hB bz45
  replace hz5 := hz5.after bz45
  replace hz11 := hz11.after bz45
  replace hz18 := hz18.after bz45
  rw [Hm.out]
  clear bz45
  refine ⟨_, rfl, ?_⟩
  refine hK' _ _ ⟨hB, hz5, hz11⟩ (fun _ => trivial) ?_
  clear hK' K'
  go_frame
  refine y_yield 18 (some 35) (.bool true) rfl (by kernel_rfl) (by kernel_rfl) (by kernel_rfl) (fun _ _ _ h => h) rfl rfl ⟨hB, hz5, hz11⟩ (fun w' h' => exec_not _ _ rfl false rfl) ?_
  go_frame
  refine y_yield 19 (some 36) (.bool true) rfl (by kernel_rfl) (by kernel_rfl) (by kernel_rfl) (fun _ _ _ h => h) rfl rfl ⟨hB, hz5, hz11⟩ (fun w' h' => exec_pick _ _ _ rfl false rfl (.bool true) rfl) ?_
  go_frame
  refine y_done (by kernel_rfl) ?_ _
  go_upto_region 4 with (fail)
  refine wp_region_lit ?_
  refine ls_ex (some 37) (.agg #[.int .i64 0, .int .i64 0, .int .i64 0, .int .i64 0, .slice none 0 0]) rfl rfl (exec_build_nil 28 rfl _ (by kernel_rfl)) ?_
  go_frame
  refine ls_op rfl (fun K' hK' => ?_)
  refine wp_store_all 28 _ _ rfl rfl Wz8.heap.size rfl #[.int .i64 0, .int .i64 0, .int .i64 0, .int .i64 0, .slice none 0 0] rfl _ _ hz18 5 (by kernel_rfl) rfl rfl (one5 _ _ _ _ _ _ _) (fun Wz50 pz51 => ?_)
  replace hB := pz51.below hB (by omega)
  replace hz5 := pz51.other hz5 (by omega)
  replace hz11 := pz51.other hz11 (by omega)
  replace hz18 : At Wz50 Wz8.heap.size (.cells #[.int .i64 0, .int .i64 0, .int .i64 0, .int .i64 0, .slice none 0 0] 28 (0, 0)) := pz51.at_
  refine hK' _ _ ?_
  clear hK' K' pz51
  refine ls_ex (some 9) (.int .i64 2) rfl rfl (exec_assign _ rfl (.int .i64 2) rfl) ?_
  go_frame
  refine wpList_nil ?_
  go_wp2_with fail
  refine bodyPost_ret (results_at2 rfl _ _ (Wz8.heap.size) _ _ _ rfl _ rfl hz18 Try.underlying28 rfl 5 (by kernel_rfl) rfl) rfl ?_
  exact ⟨.slice none 0 0, by rw [Hz.out, Hz.out, Hz.out, Hz.out, Hcode.out]; rfl, by rw [Hr.out]; exact Own.nil _ _, hB⟩
set_option maxHeartbeats 4000000 in
theorem implSplit_e1 (p n m k : Int) (b0 off0 : Nat) (cap : Nat) (qs : List (List Nat)) (i : Nat) (form : List Nat) (w : World) (hR : Rd w (some ⟨b0, off0, none⟩) qs) (hlen : qs.length ≤ 1048576) (hfm : Bytes 9 form) (hs : schemeB p n m k qs = true) (hilt : i < qs.length) (hm : formB p form (m * k) = true) (hz : zeroB form = true) :
    Calls Try.prog 18 #[.agg #[.int .i64 p, .int .i64 n, .int .i64 m, .int .i64 k, .slice (some ⟨b0, off0, none⟩) qs.length cap], .int .i64 i, .int .i64 1, .agg (u8s form)] w (ResS w (spZ p n m k qs i 1 form p) (spZ p n m k qs i 1 form n) (spZ p n m k qs i 1 form m) (spZ p n m k qs i 1 form k) (spR p n m k qs i 1 form) (spCode p n m k qs i 1 form)) := by
  have HIs := Lib.hid (fun w hr => implIsScheme_c p n m k (some ⟨b0, off0, none⟩) cap qs w hr hlen)
  have hB := Below.refl w.heap.size w
  have Hs := Lib.hid hs
  have hpr := (sizesB_parts (schemeB_sizes hs)).1
  have h5 := primeB_5 hpr
  have hp0 : 0 < p := h5.1
  have hsn := (sizesB_parts (schemeB_sizes hs)).2.1
  have hsm := (sizesB_parts (schemeB_sizes hs)).2.2.1
  have hsk := (sizesB_parts (schemeB_sizes hs)).2.2.2
  have hin : inI (i : Int) qs.length = true := by simp [inI]; omega
  have Hi := Lib.hid hin
  have h31 := schemeB_len hs
  have hbi := hR.good _ (List.getElem_mem hilt)
  have hel : qs[i]?.getD [] = qs[i] := by simp [hilt]
  have Hc := Lib.hid (fun W (hb : Below w.heap.size w W) => Rd.cells27 (hR.keep hb) hilt)
  have Hm := Lib.hid hm
  have Hcode : Hid (spCode p n m k qs i 1 form = 5) := Lib.hid (by unfold spCode; rw [if_pos hs, hin, show inI 1 3 = true from rfl, show lenF n m k (1 : Int).toNat = m * k from rfl, hm]; simp [hz])
  have Hz : Hid (∀ x, spZ p n m k qs i 1 form x = 0) := Lib.hid (fun x => by simp [spZ, Hcode.out])
  have Hr : Hid (spR p n m k qs i 1 form = []) := Lib.hid (by simp [spR, Hcode.out])
  have Hzf : Hid ((form == List.replicate 9 0) = true) := Lib.hid hz
  clear hs hm hin hz
  generalize qs[i] = q at *
  obtain ⟨QA, QB, QC, rfl, hQA, hQB, hQC⟩ := parts3 hbi
  have hq := bytes3 hQA hQB hQC
  go_enter Try.func18, Try.ntmps18
  go_upto_region 0 with (fail)
  refine wp_region_lit ?_
  refine ls_op rfl (fun K' hK' => ?_)
  have lz1 := hB.size
  refine wp_new (some 4) rfl (exec_box 28 _ rfl (#[.int .i64 p, .int .i64 n, .int .i64 m, .int .i64 k, .slice (some ⟨b0, off0, none⟩) qs.length cap]) rfl) (fun Wz2 nnz3 => ?_)
  have bz4 := nnz3.below (Below.refl _ _) (Nat.le_refl _)
  replace hB := below_after hB bz4
  have hz5 : At Wz2 w.heap.size (.cells #[.int .i64 p, .int .i64 n, .int .i64 m, .int .i64 k, .slice (some ⟨b0, off0, none⟩) qs.length cap] 28 (0, 0)) := nnz3.at_
  refine hK' _ _ ?_
  clear hK' K' nnz3 bz4
  go_frame
  refine ls_op rfl (fun K' hK' => ?_)
  have lz6 := hB.size
  have lz7 := hz5.lt
  refine wp_new (some 7) rfl (exec_box 39 _ rfl (u8s (form)) rfl) (fun Wz8 nnz9 => ?_)
  have bz10 := nnz9.below (Below.refl _ _) (Nat.le_refl _)
  replace hB := below_after hB bz10
  replace hz5 := hz5.after bz10
  have hz11 : At Wz8 Wz2.heap.size (.cells (u8s (form)) 39 (0, 0)) := nnz9.at_
  refine hK' _ _ ?_
  clear hK' K' nnz9 bz10
  go_frame
  refine ls_op rfl (fun K' hK' => ?_)
  have lz12 := hB.size
  have lz13 := hz5.lt
  have lz14 := hz11.lt
  refine wp_new (some 8) rfl (al_impl_Scheme rfl) (fun Wz15 nnz16 => ?_)
  have bz17 := nnz16.below (Below.refl _ _) (Nat.le_refl _)
  replace hB := below_after hB bz17
  replace hz5 := hz5.after bz17
  replace hz11 := hz11.after bz17
  have hz18 : At Wz15 Wz8.heap.size (.cells #[.int .i64 0, .int .i64 0, .int .i64 0, .int .i64 0, .slice none 0 0] 28 (0, 0)) := nnz16.at_
  refine hK' _ _ ?_
  clear hK' K' nnz16 bz17
  go_frame
  refine ls_ex (some 9) (.int .i64 0) rfl rfl (exec_assign _ rfl (.int .i64 0) rfl) ?_
  go_frame
  refine wpList_nil ?_
  go_upto_region 1 with (fail)
  refine wp_region_lit ?_
  refine ls_ex (some 13) (.agg #[.int .i64 p, .int .i64 n, .int .i64 m, .int .i64 k, .slice (some ⟨b0, off0, none⟩) qs.length cap]) rfl rfl (exec_load_all 28 _ rfl w.heap.size rfl _ _ _ hz5 Try.underlying28 rfl 5 (by kernel_rfl) rfl) ?_
  go_frame
  refine ls_op rfl (fun K' hK' => ?_)
  have lz21 := hB.size
  have lz22 := hz5.lt
  have lz23 := hz11.lt
  have lz24 := hz18.lt
  refine wp_call1 (some 14) rfl 25 _ _ rfl (fun args w => by kernel_rfl) _ rfl _ (HIs.out _ (hR.keep hB)) (fun e Wz19 h => ?_)
  obtain ⟨rfl, bz20⟩ := h
  replace hB := below_after hB bz20
  replace hz5 := hz5.after bz20
  replace hz11 := hz11.after bz20
  replace hz18 := hz18.after bz20
  rw [Hs.out]
  clear bz20
  refine ⟨_, rfl, ?_⟩
  refine hK' _ _ ?_
  clear hK' K'
  go_frame
  refine ls_ex (some 15) (.bool false) rfl rfl (exec_not _ _ rfl true rfl) ?_
  go_frame
  refine wpList_nil ?_
  go_upto_region 3 with (fail)
  refine wp_region_y (zs := []) (S := fun w' => Below w.heap.size w w' ∧ At w' w.heap.size (.cells #[.int .i64 p, .int .i64 n, .int .i64 m, .int .i64 k, .slice (some ⟨b0, off0, none⟩) qs.length cap] 28 (0, 0)) ∧ At w' Wz2.heap.size (.cells (u8s (form)) 39 (0, 0))) (S2 := fun w' => True) (by kernel_rfl) ?_
  change wpAnyY _ _ _ _ _ _ _ _ _ _ (World.drew _)
  generalize hwdz25 : World.drew _ = wdz25
  replace hB : Below w.heap.size w wdz25 := by rw [← hwdz25]; exact hB.drew
  replace hz5 : At wdz25 w.heap.size (.cells #[.int .i64 p, .int .i64 n, .int .i64 m, .int .i64 k, .slice (some ⟨b0, off0, none⟩) qs.length cap] 28 (0, 0)) := by rw [← hwdz25]; exact hz5
  replace hz11 : At wdz25 Wz2.heap.size (.cells (u8s (form)) 39 (0, 0)) := by rw [← hwdz25]; exact hz11
  replace hz18 : At wdz25 Wz8.heap.size (.cells #[.int .i64 0, .int .i64 0, .int .i64 0, .int .i64 0, .slice none 0 0] 28 (0, 0)) := by rw [← hwdz25]; exact hz18
  clear hwdz25
  refine y_yield 0 (some 17) (.agg #[.int .i64 p, .int .i64 n, .int .i64 m, .int .i64 k, .slice (some ⟨b0, off0, none⟩) qs.length cap]) rfl (by kernel_rfl) (by kernel_rfl) (by kernel_rfl) (fun _ _ _ h => h) rfl rfl ⟨hB, hz5, hz11⟩ (fun w' h' => exec_load_all 28 _ rfl w.heap.size rfl _ _ _ h'.2.1 Try.underlying28 rfl 5 (by kernel_rfl) rfl) ?_
  go_frame
  refine y_yield 1 (some 18) (.int .i64 i) rfl (by kernel_rfl) (by kernel_rfl) (by kernel_rfl) (fun _ _ _ h => h) rfl rfl ⟨hB, hz5, hz11⟩ (fun w' h' => exec_move _ rfl (.int .i64 i) rfl) ?_
  go_frame
  refine y_oper 2 (by kernel_rfl) rfl rfl (fun K' hK' => ?_)
  have lz28 := hB.size
  have lz29 := hz5.lt
  have lz30 := hz11.lt
  have lz31 := hz18.lt
  refine wp_call2 (some 19) rfl 36 _ _ _ rfl (fun args w => by kernel_rfl) _ _ rfl rfl _ (isProductIndex_c p n m k _ cap qs.length i _) (fun e Wz26 h => ?_)
  obtain ⟨rfl, bz27⟩ := h
  replace hB := below_after hB bz27
  replace hz5 := hz5.after bz27
  replace hz11 := hz11.after bz27
  replace hz18 := hz18.after bz27
  rw [Hi.out]
  clear bz27
  refine ⟨_, rfl, ?_⟩
  refine hK' _ _ ⟨hB, hz5, hz11⟩ (fun _ => trivial) ?_
  clear hK' K'
  go_frame
  refine y_yield 3 (some 20) (.bool false) rfl (by kernel_rfl) (by kernel_rfl) (by kernel_rfl) (fun _ _ _ h => h) rfl rfl ⟨hB, hz5, hz11⟩ (fun w' h' => exec_not _ _ rfl true rfl) ?_
  go_frame
  refine y_yield 4 (some 21) (.bool false) rfl (by kernel_rfl) (by kernel_rfl) (by kernel_rfl) (fun _ _ _ h => h) rfl rfl ⟨hB, hz5, hz11⟩ (fun w' h' => exec_move _ rfl (.bool false) rfl) ?_
  go_frame
  refine y_yield 5 (some 22) (.int .i64 1) rfl (by kernel_rfl) (by kernel_rfl) (by kernel_rfl) (fun _ _ _ h => h) rfl rfl ⟨hB, hz5, hz11⟩ (fun w' h' => exec_move _ rfl (.int .i64 1) rfl) ?_
  go_frame
  refine y_oper 6 (by kernel_rfl) rfl rfl (fun K' hK' => ?_)
  have lz34 := hB.size
  have lz35 := hz5.lt
  have lz36 := hz11.lt
  have lz37 := hz18.lt
  refine wp_call2 (some 23) rfl 47 _ _ _ rfl (fun args w => by kernel_rfl) _ _ rfl rfl _ (isIdx_c 1 3 _) (fun e Wz32 h => ?_)
  obtain ⟨rfl, rfl⟩ := h
  rw [show inI 1 3 = true from rfl]
  refine ⟨_, rfl, ?_⟩
  refine hK' _ _ ⟨hB, hz5, hz11⟩ (fun _ => trivial) ?_
  clear hK' K'
  go_frame
  refine y_yield 7 (some 24) (.bool false) rfl (by kernel_rfl) (by kernel_rfl) (by kernel_rfl) (fun _ _ _ h => h) rfl rfl ⟨hB, hz5, hz11⟩ (fun w' h' => exec_not _ _ rfl true rfl) ?_
  go_frame
  refine y_yield 8 (some 25) (.bool false) rfl (by kernel_rfl) (by kernel_rfl) (by kernel_rfl) (fun _ _ _ h => h) rfl rfl ⟨hB, hz5, hz11⟩ (fun w' h' => exec_pick _ _ _ rfl false rfl (.bool false) rfl) ?_
  go_frame
  refine y_yield 9 (some 26) (.bool false) rfl (by kernel_rfl) (by kernel_rfl) (by kernel_rfl) (fun _ _ _ h => h) rfl rfl ⟨hB, hz5, hz11⟩ (fun w' h' => exec_move _ rfl (.bool false) rfl) ?_
  go_frame
  refine y_yield 10 (some 27) (.pointer (some ⟨w.heap.size, 0, none⟩)) rfl (by kernel_rfl) (by kernel_rfl) (by kernel_rfl) (fun _ _ _ h => h) rfl rfl ⟨hB, hz5, hz11⟩ (fun w' h' => exec_fieldAddr 28 _ 0 rfl _ (by kernel_rfl)) ?_
  go_frame
  refine y_yield 11 (some 28) (.int .i64 p) rfl (by kernel_rfl) (by kernel_rfl) (by kernel_rfl) (fun _ _ _ h => h) rfl rfl ⟨hB, hz5, hz11⟩ (fun w' h' => exec_load_one 2 _ rfl w.heap.size 0 rfl (.int .i64 p) _ Try.underlying2 rfl (h'.2.1.at_ 0)) ?_
  go_frame
  refine y_yield 12 (some 29) (.agg #[.int .i64 p, .int .i64 n, .int .i64 m, .int .i64 k, .slice (some ⟨b0, off0, none⟩) qs.length cap]) rfl (by kernel_rfl) (by kernel_rfl) (by kernel_rfl) (fun _ _ _ h => h) rfl rfl ⟨hB, hz5, hz11⟩ (fun w' h' => exec_load_all 28 _ rfl w.heap.size rfl _ _ _ h'.2.1 Try.underlying28 rfl 5 (by kernel_rfl) rfl) ?_
  go_frame
  refine y_yield 14 (some 31) (.int .i64 1) rfl (by kernel_rfl) (by kernel_rfl) (by kernel_rfl) (fun _ _ _ h => h) rfl rfl ⟨hB, hz5, hz11⟩ (fun w' h' => exec_move _ rfl (.int .i64 1) rfl) ?_
  go_frame
  refine y_yield 16 (some 33) (.agg (u8s (form))) rfl (by kernel_rfl) (by kernel_rfl) (by kernel_rfl) (fun _ _ _ h => h) rfl rfl ⟨hB, hz5, hz11⟩ (fun w' h' => exec_load_all 39 _ rfl Wz2.heap.size rfl _ _ _ h'.2.2 Try.underlying39 rfl 9 (by kernel_rfl) ((u8s_size _).trans hfm.len)) ?_
  go_frame
  refine y_oper 13 (by kernel_rfl) rfl rfl (fun K' hK' => ?_)
  have lz40 := hB.size
  have lz41 := hz5.lt
  have lz42 := hz11.lt
  have lz43 := hz18.lt
  refine wp_call1 (some 30) rfl 49 _ _ rfl (fun args w => by kernel_rfl) _ rfl _ (shapesOf_c p n m k _ _) (fun e Wz38 h => ?_)
  obtain ⟨rfl, bz39⟩ := h
  replace hB := below_after hB bz39
  replace hz5 := hz5.after bz39
  replace hz11 := hz11.after bz39
  replace hz18 := hz18.after bz39
  clear bz39
  refine ⟨_, rfl, ?_⟩
  refine hK' _ _ ⟨hB, hz5, hz11⟩ (fun _ => trivial) ?_
  clear hK' K'
  go_frame
  refine y_yield 15 (some 32) (.agg #[.int .i64 m, .int .i64 k]) rfl (by kernel_rfl) (by kernel_rfl) (by kernel_rfl) (fun _ _ _ h => h) rfl rfl ⟨hB, hz5, hz11⟩ (fun w' h' => exec_index_part 77 76 _ _ rfl 3 1 2 _ #[.int .i64 m, .int .i64 k] _ rfl rfl Try.underlying77 Try.underlying76 rfl (by kernel_rfl) (by omega) rfl) ?_
  go_frame
  refine y_oper 17 (by kernel_rfl) rfl rfl (fun K' hK' => ?_)
  have lz46 := hB.size
  have lz47 := hz5.lt
  have lz48 := hz11.lt
  have lz49 := hz18.lt
  refine wp_call3 (some 34) rfl 48 _ _ _ _ rfl (fun args w => by kernel_rfl) _ _ _ rfl rfl rfl _ (isForm_c p m k form hp0 hsm hsk hfm _) (fun e Wz44 h => ?_)
  obtain ⟨rfl, bz45⟩ := h
  replace hB := below_after hB bz45
  replace hz5 := hz5.after bz45
  replace hz11 := hz11.after bz45
  replace hz18 := hz18.after bz45
  rw [Hm.out]
  clear bz45
  refine ⟨_, rfl, ?_⟩
  refine hK' _ _ ⟨hB, hz5, hz11⟩ (fun _ => trivial) ?_
  clear hK' K'
  go_frame
  refine y_yield 18 (some 35) (.bool false) rfl (by kernel_rfl) (by kernel_rfl) (by kernel_rfl) (fun _ _ _ h => h) rfl rfl ⟨hB, hz5, hz11⟩ (fun w' h' => exec_not _ _ rfl true rfl) ?_
  go_frame
  refine y_yield 19 (some 36) (.bool false) rfl (by kernel_rfl) (by kernel_rfl) (by kernel_rfl) (fun _ _ _ h => h) rfl rfl ⟨hB, hz5, hz11⟩ (fun w' h' => exec_pick _ _ _ rfl false rfl (.bool false) rfl) ?_
  go_frame
  refine y_done (by kernel_rfl) ?_ _
  go_upto_region 5 with (fail)
  refine wp_region_lit ?_
  refine ls_ex (some 38) (.pointer (some ⟨w.heap.size, 4, none⟩)) rfl rfl (exec_fieldAddr 28 _ 4 rfl _ (by kernel_rfl)) ?_
  go_frame
  refine ls_ex (some 39) (.slice (some ⟨b0, off0, none⟩) qs.length cap) rfl rfl (exec_load_one 26 _ rfl w.heap.size 4 rfl (.slice (some ⟨b0, off0, none⟩) qs.length cap) _ Try.underlying26 rfl (hz5.at_ 4)) ?_
  go_frame
  refine ls_ex (some 40) (.int .i64 i) rfl rfl (exec_move _ rfl (.int .i64 i) rfl) ?_
  go_frame
  refine ls_ex (some 41) (.pointer (some ⟨b0, off0 + i * 27, none⟩)) rfl rfl (exec_index_slice _ 58 _ _ rfl b0 off0 qs.length cap i 27 rfl rfl Try.underlying26 (by kernel_rfl) hilt) ?_
  go_frame
  refine ls_ex (some 42) (.agg (u8s (cat3 QA QB QC))) rfl rfl (exec_load_cells 58 _ rfl b0 (off0 + i * 27) rfl (cat3 QA QB QC) _ 27 (Hc.out _ hB) Try.underlying58 rfl (by kernel_rfl) (hq.len)) ?_
  go_frame
  refine ls_op rfl (fun K' hK' => ?_)
  have lz52 := hB.size
  have lz53 := hz5.lt
  have lz54 := hz11.lt
  have lz55 := hz18.lt
  refine wp_call1 (some 43) rfl 50 _ _ rfl (fun args w => by kernel_rfl) _ rfl _ (factorsOf_c (cat3 QA QB QC) hq _) (fun e Wz50 h => ?_)
  obtain ⟨rfl, bz51⟩ := h
  replace hB := below_after hB bz51
  replace hz5 := hz5.after bz51
  replace hz11 := hz11.after bz51
  replace hz18 := hz18.after bz51
  clear bz51
  refine ⟨_, rfl, ?_⟩
  refine hK' _ _ ?_
  clear hK' K'
  go_frame
  refine ls_op rfl (fun K' hK' => ?_)
  have lz56 := hB.size
  have lz57 := hz5.lt
  have lz58 := hz11.lt
  have lz59 := hz18.lt
  refine wp_new (some 10) rfl (al__3_impl_Form rfl) (fun Wz60 nnz61 => ?_)
  have bz62 := nnz61.below (Below.refl _ _) (Nat.le_refl _)
  replace hB := below_after hB bz62
  replace hz5 := hz5.after bz62
  replace hz11 := hz11.after bz62
  replace hz18 := hz18.after bz62
  have hz63 : At Wz60 Wz50.heap.size (.cells (u8s (List.replicate 27 0)) 79 (0, 0)) := nnz61.at_
  refine hK' _ _ ?_
  clear hK' K' nnz61 bz62
  go_frame
  refine ls_op rfl (fun K' hK' => ?_)
  refine wp_store_bytes 79 _ _ rfl rfl Wz50.heap.size rfl (cat3 QA QB QC) rfl _ _ hz63 27 (by kernel_rfl) hq.len (by simp) (fun Wz64 pz65 => ?_)
  replace hB := pz65.below hB (by omega)
  replace hz5 := pz65.other hz5 (by omega)
  replace hz11 := pz65.other hz11 (by omega)
  replace hz18 := pz65.other hz18 (by omega)
  replace hz63 : At Wz64 Wz50.heap.size (.cells (u8s (cat3 QA QB QC)) 79 (0, 0)) := pz65.at_
  refine hK' _ _ ?_
  clear hK' K' pz65
  refine wpList_nil ?_
  go_upto_region 6 with (fail)
  refine wp_region_y (zs := []) (S := fun w' => Below w.heap.size w w' ∧ At w' Wz2.heap.size (.cells (u8s (form)) 39 (0, 0))) (S2 := fun w' => True) (by kernel_rfl) ?_
  change wpAnyY _ _ _ _ _ _ _ _ _ _ (World.drew _)
  generalize hwdz66 : World.drew _ = wdz66
  replace hB : Below w.heap.size w wdz66 := by rw [← hwdz66]; exact hB.drew
  replace hz5 : At wdz66 w.heap.size (.cells #[.int .i64 p, .int .i64 n, .int .i64 m, .int .i64 k, .slice (some ⟨b0, off0, none⟩) qs.length cap] 28 (0, 0)) := by rw [← hwdz66]; exact hz5
  replace hz11 : At wdz66 Wz2.heap.size (.cells (u8s (form)) 39 (0, 0)) := by rw [← hwdz66]; exact hz11
  replace hz18 : At wdz66 Wz8.heap.size (.cells #[.int .i64 0, .int .i64 0, .int .i64 0, .int .i64 0, .slice none 0 0] 28 (0, 0)) := by rw [← hwdz66]; exact hz18
  replace hz63 : At wdz66 Wz50.heap.size (.cells (u8s (cat3 QA QB QC)) 79 (0, 0)) := by rw [← hwdz66]; exact hz63
  clear hwdz66
  refine y_yield 0 (some 44) (.agg (u8s (form))) rfl (by kernel_rfl) (by kernel_rfl) (by kernel_rfl) (fun _ _ _ h => h) rfl rfl ⟨hB, hz11⟩ (fun w' h' => exec_load_all 39 _ rfl Wz2.heap.size rfl _ _ _ h'.2 Try.underlying39 rfl 9 (by kernel_rfl) ((u8s_size _).trans hfm.len)) ?_
  go_frame
  refine y_yield 1 (some 45) (.agg (u8s (List.replicate 9 0))) rfl (by kernel_rfl) (by kernel_rfl) (by kernel_rfl) (fun _ _ _ h => h) rfl rfl ⟨hB, hz11⟩ (fun w' h' => exec_build_nil 39 rfl _ (by kernel_rfl)) ?_
  go_frame
  refine y_yield 2 (some 46) (.bool true) rfl (by kernel_rfl) (by kernel_rfl) (by kernel_rfl) (fun _ _ _ h => h) rfl rfl ⟨hB, hz11⟩ (fun w' h' => exec_eql_u8s_b 39 _ _ _ _ rfl 9 Try.underlying39 Try.underlying5 (by kernel_rfl) (by kernel_rfl) (form) (List.replicate 9 0) rfl rfl hfm.len (by simp) true Hzf.out) ?_
  go_frame
  refine y_yield 3 (some 47) (.bool true) rfl (by kernel_rfl) (by kernel_rfl) (by kernel_rfl) (fun _ _ _ h => h) rfl rfl ⟨hB, hz11⟩ (fun w' h' => exec_move _ rfl (.bool true) rfl) ?_
  go_frame
  refine y_skip 4 (some 48) rfl (by kernel_rfl) (by kernel_rfl) (by kernel_rfl) (fun _ _ _ h => h) rfl rfl ⟨hB, hz11⟩ ?_
  go_frame
  refine y_skip 5 (some 49) rfl (by kernel_rfl) (by kernel_rfl) (by kernel_rfl) (fun _ _ _ h => h) rfl rfl ⟨hB, hz11⟩ ?_
  go_frame
  refine y_skip 6 (some 50) rfl (by kernel_rfl) (by kernel_rfl) (by kernel_rfl) (fun _ _ _ h => h) rfl rfl ⟨hB, hz11⟩ ?_
  go_frame
  refine y_skip 7 (some 51) rfl (by kernel_rfl) (by kernel_rfl) (by kernel_rfl) (fun _ _ _ h => h) rfl rfl ⟨hB, hz11⟩ ?_
  go_frame
  refine y_skip 8 (some 52) rfl (by kernel_rfl) (by kernel_rfl) (by kernel_rfl) (fun _ _ _ h => h) rfl rfl ⟨hB, hz11⟩ ?_
  go_frame
  refine y_yield 9 (some 53) (.bool true) rfl (by kernel_rfl) (by kernel_rfl) (by kernel_rfl) (fun _ _ _ h => h) rfl rfl ⟨hB, hz11⟩ (fun w' h' => exec_pick _ _ _ rfl true rfl (.bool true) rfl) ?_
  go_frame
  refine y_done (by kernel_rfl) ?_ _
  go_upto_region 7 with (fail)
  refine wp_region_lit ?_
  refine ls_ex (some 54) (.agg #[.int .i64 0, .int .i64 0, .int .i64 0, .int .i64 0, .slice none 0 0]) rfl rfl (exec_build_nil 28 rfl _ (by kernel_rfl)) ?_
  go_frame
  refine ls_op rfl (fun K' hK' => ?_)
  refine wp_store_all 28 _ _ rfl rfl Wz8.heap.size rfl #[.int .i64 0, .int .i64 0, .int .i64 0, .int .i64 0, .slice none 0 0] rfl _ _ hz18 5 (by kernel_rfl) rfl rfl (one5 _ _ _ _ _ _ _) (fun Wz67 pz68 => ?_)
  replace hB := pz68.below hB (by omega)
  replace hz5 := pz68.other hz5 (by omega)
  replace hz11 := pz68.other hz11 (by omega)
  replace hz63 := pz68.other hz63 (by omega)
  replace hz18 : At Wz67 Wz8.heap.size (.cells #[.int .i64 0, .int .i64 0, .int .i64 0, .int .i64 0, .slice none 0 0] 28 (0, 0)) := pz68.at_
  refine hK' _ _ ?_
  clear hK' K' pz68
  refine ls_ex (some 9) (.int .i64 5) rfl rfl (exec_assign _ rfl (.int .i64 5) rfl) ?_
  go_frame
  refine wpList_nil ?_
  go_wp2_with fail
  refine bodyPost_ret (results_at2 rfl _ _ (Wz8.heap.size) _ _ _ rfl _ rfl hz18 Try.underlying28 rfl 5 (by kernel_rfl) rfl) rfl ?_
  exact ⟨.slice none 0 0, by rw [Hz.out, Hz.out, Hz.out, Hz.out, Hcode.out]; rfl, by rw [Hr.out]; exact Own.nil _ _, hB⟩
set_option maxHeartbeats 4000000 in
theorem implSplit_g1 (p n m k : Int) (b0 off0 : Nat) (cap : Nat) (qs : List (List Nat)) (i : Nat) (form : List Nat) (w : World) (hR : Rd w (some ⟨b0, off0, none⟩) qs) (hlen : qs.length ≤ 1048576) (hfm : Bytes 9 form) (hs : schemeB p n m k qs = true) (hilt : i < qs.length) (hm : formB p form (m * k) = true) (hz : zeroB form = false) (heq : (form == segm qs[i] 9 9) = true) :
    Calls Try.prog 18 #[.agg #[.int .i64 p, .int .i64 n, .int .i64 m, .int .i64 k, .slice (some ⟨b0, off0, none⟩) qs.length cap], .int .i64 i, .int .i64 1, .agg (u8s form)] w (ResS w (spZ p n m k qs i 1 form p) (spZ p n m k qs i 1 form n) (spZ p n m k qs i 1 form m) (spZ p n m k qs i 1 form k) (spR p n m k qs i 1 form) (spCode p n m k qs i 1 form)) := by
  have HIs := Lib.hid (fun w hr => implIsScheme_c p n m k (some ⟨b0, off0, none⟩) cap qs w hr hlen)
  have hB := Below.refl w.heap.size w
  have Hs := Lib.hid hs
  have hpr := (sizesB_parts (schemeB_sizes hs)).1
  have h5 := primeB_5 hpr
  have hp0 : 0 < p := h5.1
  have hsn := (sizesB_parts (schemeB_sizes hs)).2.1
  have hsm := (sizesB_parts (schemeB_sizes hs)).2.2.1
  have hsk := (sizesB_parts (schemeB_sizes hs)).2.2.2
  have hin : inI (i : Int) qs.length = true := by simp [inI]; omega
  have Hi := Lib.hid hin
  have h31 := schemeB_len hs
  have hbi := hR.good _ (List.getElem_mem hilt)
  have hel : qs[i]?.getD [] = qs[i] := by simp [hilt]
  have Hc := Lib.hid (fun W (hb : Below w.heap.size w W) => Rd.cells27 (hR.keep hb) hilt)
  have hfq : facQ (qs[i]?.getD []) 1 = segm qs[i] 9 9 := by rw [hel]; rfl
  have heq2 := eq_of_beq heq
  have Hm := Lib.hid hm
  have Hcode : Hid (spCode p n m k qs i 1 form = 5) := Lib.hid (by unfold spCode; rw [if_pos hs, hin, show inI 1 3 = true from rfl, show lenF n m k (1 : Int).toNat = m * k from rfl, hm]; simp [hfq, heq2])
  have Hz : Hid (∀ x, spZ p n m k qs i 1 form x = 0) := Lib.hid (fun x => by simp [spZ, Hcode.out])
  have Hr : Hid (spR p n m k qs i 1 form = []) := Lib.hid (by simp [spR, Hcode.out])
  have Hzf : Hid ((form == List.replicate 9 0) = false) := Lib.hid hz
  clear hs hm hin hz hfq hel heq2
  generalize qs[i] = q at *
  obtain ⟨QA, QB, QC, rfl, hQA, hQB, hQC⟩ := parts3 hbi
  have hq := bytes3 hQA hQB hQC
  rw [segm_b hQA.len hQB.len] at heq
  have Heq := Lib.hid heq
  clear heq
  go_enter Try.func18, Try.ntmps18
  go_upto_region 0 with (fail)
  refine wp_region_lit ?_
  refine ls_op rfl (fun K' hK' => ?_)
  have lz1 := hB.size
  refine wp_new (some 4) rfl (exec_box 28 _ rfl (#[.int .i64 p, .int .i64 n, .int .i64 m, .int .i64 k, .slice (some ⟨b0, off0, none⟩) qs.length cap]) rfl) (fun Wz2 nnz3 => ?_)
  have bz4 := nnz3.below (Below.refl _ _) (Nat.le_refl _)
  replace hB := below_after hB bz4
  have hz5 : At Wz2 w.heap.size (.cells #[.int .i64 p, .int .i64 n, .int .i64 m, .int .i64 k, .slice (some ⟨b0, off0, none⟩) qs.length cap] 28 (0, 0)) := nnz3.at_
  refine hK' _ _ ?_
  clear hK' K' nnz3 bz4
  go_frame
  refine ls_op rfl (fun K' hK' => ?_)
  have lz6 := hB.size
  have lz7 := hz5.lt
  refine wp_new (some 7) rfl (exec_box 39 _ rfl (u8s (form)) rfl) (fun Wz8 nnz9 => ?_)
  have bz10 := nnz9.below (Below.refl _ _) (Nat.le_refl _)
  replace hB := below_after hB bz10
  replace hz5 := hz5.after bz10
  have hz11 : At Wz8 Wz2.heap.size (.cells (u8s (form)) 39 (0, 0)) := nnz9.at_
  refine hK' _ _ ?_
  clear hK' K' nnz9 bz10
  go_frame
  refine ls_op rfl (fun K' hK' => ?_)
  have lz12 := hB.size
  have lz13 := hz5.lt
  have lz14 := hz11.lt
  refine wp_new (some 8) rfl (al_impl_Scheme rfl) (fun Wz15 nnz16 => ?_)
  have bz17 := nnz16.below (Below.refl _ _) (Nat.le_refl _)
  replace hB := below_after hB bz17
  replace hz5 := hz5.after bz17
  replace hz11 := hz11.after bz17
  have hz18 : At Wz15 Wz8.heap.size (.cells #[.int .i64 0, .int .i64 0, .int .i64 0, .int .i64 0, .slice none 0 0] 28 (0, 0)) := nnz16.at_
  refine hK' _ _ ?_
  clear hK' K' nnz16 bz17
  go_frame
  refine ls_ex (some 9) (.int .i64 0) rfl rfl (exec_assign _ rfl (.int .i64 0) rfl) ?_
  go_frame
  refine wpList_nil ?_
  go_upto_region 1 with (fail)
  refine wp_region_lit ?_
  refine ls_ex (some 13) (.agg #[.int .i64 p, .int .i64 n, .int .i64 m, .int .i64 k, .slice (some ⟨b0, off0, none⟩) qs.length cap]) rfl rfl (exec_load_all 28 _ rfl w.heap.size rfl _ _ _ hz5 Try.underlying28 rfl 5 (by kernel_rfl) rfl) ?_
  go_frame
  refine ls_op rfl (fun K' hK' => ?_)
  have lz21 := hB.size
  have lz22 := hz5.lt
  have lz23 := hz11.lt
  have lz24 := hz18.lt
  refine wp_call1 (some 14) rfl 25 _ _ rfl (fun args w => by kernel_rfl) _ rfl _ (HIs.out _ (hR.keep hB)) (fun e Wz19 h => ?_)
  obtain ⟨rfl, bz20⟩ := h
  replace hB := below_after hB bz20
  replace hz5 := hz5.after bz20
  replace hz11 := hz11.after bz20
  replace hz18 := hz18.after bz20
  rw [Hs.out]
  clear bz20
  refine ⟨_, rfl, ?_⟩
  refine hK' _ _ ?_
  clear hK' K'
  go_frame
  refine ls_ex (some 15) (.bool false) rfl rfl (exec_not _ _ rfl true rfl) ?_
  go_frame
  refine wpList_nil ?_
  go_upto_region 3 with (fail)
  refine wp_region_y (zs := []) (S := fun w' => Below w.heap.size w w' ∧ At w' w.heap.size (.cells #[.int .i64 p, .int .i64 n, .int .i64 m, .int .i64 k, .slice (some ⟨b0, off0, none⟩) qs.length cap] 28 (0, 0)) ∧ At w' Wz2.heap.size (.cells (u8s (form)) 39 (0, 0))) (S2 := fun w' => True) (by kernel_rfl) ?_
  change wpAnyY _ _ _ _ _ _ _ _ _ _ (World.drew _)
  generalize hwdz25 : World.drew _ = wdz25
  replace hB : Below w.heap.size w wdz25 := by rw [← hwdz25]; exact hB.drew
  replace hz5 : At wdz25 w.heap.size (.cells #[.int .i64 p, .int .i64 n, .int .i64 m, .int .i64 k, .slice (some ⟨b0, off0, none⟩) qs.length cap] 28 (0, 0)) := by rw [← hwdz25]; exact hz5
  replace hz11 : At wdz25 Wz2.heap.size (.cells (u8s (form)) 39 (0, 0)) := by rw [← hwdz25]; exact hz11
  replace hz18 : At wdz25 Wz8.heap.size (.cells #[.int .i64 0, .int .i64 0, .int .i64 0, .int .i64 0, .slice none 0 0] 28 (0, 0)) := by rw [← hwdz25]; exact hz18
  clear hwdz25
  refine y_yield 0 (some 17) (.agg #[.int .i64 p, .int .i64 n, .int .i64 m, .int .i64 k, .slice (some ⟨b0, off0, none⟩) qs.length cap]) rfl (by kernel_rfl) (by kernel_rfl) (by kernel_rfl) (fun _ _ _ h => h) rfl rfl ⟨hB, hz5, hz11⟩ (fun w' h' => exec_load_all 28 _ rfl w.heap.size rfl _ _ _ h'.2.1 Try.underlying28 rfl 5 (by kernel_rfl) rfl) ?_
  go_frame
  refine y_yield 1 (some 18) (.int .i64 i) rfl (by kernel_rfl) (by kernel_rfl) (by kernel_rfl) (fun _ _ _ h => h) rfl rfl ⟨hB, hz5, hz11⟩ (fun w' h' => exec_move _ rfl (.int .i64 i) rfl) ?_
  go_frame
  refine y_oper 2 (by kernel_rfl) rfl rfl (fun K' hK' => ?_)
  have lz28 := hB.size
  have lz29 := hz5.lt
  have lz30 := hz11.lt
  have lz31 := hz18.lt
  refine wp_call2 (some 19) rfl 36 _ _ _ rfl (fun args w => by kernel_rfl) _ _ rfl rfl _ (isProductIndex_c p n m k _ cap qs.length i _) (fun e Wz26 h => ?_)
  obtain ⟨rfl, bz27⟩ := h
  replace hB := below_after hB bz27
  replace hz5 := hz5.after bz27
  replace hz11 := hz11.after bz27
  replace hz18 := hz18.after bz27
  rw [Hi.out]
  clear bz27
  refine ⟨_, rfl, ?_⟩
  refine hK' _ _ ⟨hB, hz5, hz11⟩ (fun _ => trivial) ?_
  clear hK' K'
  go_frame
  refine y_yield 3 (some 20) (.bool false) rfl (by kernel_rfl) (by kernel_rfl) (by kernel_rfl) (fun _ _ _ h => h) rfl rfl ⟨hB, hz5, hz11⟩ (fun w' h' => exec_not _ _ rfl true rfl) ?_
  go_frame
  refine y_yield 4 (some 21) (.bool false) rfl (by kernel_rfl) (by kernel_rfl) (by kernel_rfl) (fun _ _ _ h => h) rfl rfl ⟨hB, hz5, hz11⟩ (fun w' h' => exec_move _ rfl (.bool false) rfl) ?_
  go_frame
  refine y_yield 5 (some 22) (.int .i64 1) rfl (by kernel_rfl) (by kernel_rfl) (by kernel_rfl) (fun _ _ _ h => h) rfl rfl ⟨hB, hz5, hz11⟩ (fun w' h' => exec_move _ rfl (.int .i64 1) rfl) ?_
  go_frame
  refine y_oper 6 (by kernel_rfl) rfl rfl (fun K' hK' => ?_)
  have lz34 := hB.size
  have lz35 := hz5.lt
  have lz36 := hz11.lt
  have lz37 := hz18.lt
  refine wp_call2 (some 23) rfl 47 _ _ _ rfl (fun args w => by kernel_rfl) _ _ rfl rfl _ (isIdx_c 1 3 _) (fun e Wz32 h => ?_)
  obtain ⟨rfl, rfl⟩ := h
  rw [show inI 1 3 = true from rfl]
  refine ⟨_, rfl, ?_⟩
  refine hK' _ _ ⟨hB, hz5, hz11⟩ (fun _ => trivial) ?_
  clear hK' K'
  go_frame
  refine y_yield 7 (some 24) (.bool false) rfl (by kernel_rfl) (by kernel_rfl) (by kernel_rfl) (fun _ _ _ h => h) rfl rfl ⟨hB, hz5, hz11⟩ (fun w' h' => exec_not _ _ rfl true rfl) ?_
  go_frame
  refine y_yield 8 (some 25) (.bool false) rfl (by kernel_rfl) (by kernel_rfl) (by kernel_rfl) (fun _ _ _ h => h) rfl rfl ⟨hB, hz5, hz11⟩ (fun w' h' => exec_pick _ _ _ rfl false rfl (.bool false) rfl) ?_
  go_frame
  refine y_yield 9 (some 26) (.bool false) rfl (by kernel_rfl) (by kernel_rfl) (by kernel_rfl) (fun _ _ _ h => h) rfl rfl ⟨hB, hz5, hz11⟩ (fun w' h' => exec_move _ rfl (.bool false) rfl) ?_
  go_frame
  refine y_yield 10 (some 27) (.pointer (some ⟨w.heap.size, 0, none⟩)) rfl (by kernel_rfl) (by kernel_rfl) (by kernel_rfl) (fun _ _ _ h => h) rfl rfl ⟨hB, hz5, hz11⟩ (fun w' h' => exec_fieldAddr 28 _ 0 rfl _ (by kernel_rfl)) ?_
  go_frame
  refine y_yield 11 (some 28) (.int .i64 p) rfl (by kernel_rfl) (by kernel_rfl) (by kernel_rfl) (fun _ _ _ h => h) rfl rfl ⟨hB, hz5, hz11⟩ (fun w' h' => exec_load_one 2 _ rfl w.heap.size 0 rfl (.int .i64 p) _ Try.underlying2 rfl (h'.2.1.at_ 0)) ?_
  go_frame
  refine y_yield 12 (some 29) (.agg #[.int .i64 p, .int .i64 n, .int .i64 m, .int .i64 k, .slice (some ⟨b0, off0, none⟩) qs.length cap]) rfl (by kernel_rfl) (by kernel_rfl) (by kernel_rfl) (fun _ _ _ h => h) rfl rfl ⟨hB, hz5, hz11⟩ (fun w' h' => exec_load_all 28 _ rfl w.heap.size rfl _ _ _ h'.2.1 Try.underlying28 rfl 5 (by kernel_rfl) rfl) ?_
  go_frame
  refine y_yield 14 (some 31) (.int .i64 1) rfl (by kernel_rfl) (by kernel_rfl) (by kernel_rfl) (fun _ _ _ h => h) rfl rfl ⟨hB, hz5, hz11⟩ (fun w' h' => exec_move _ rfl (.int .i64 1) rfl) ?_
  go_frame
  refine y_yield 16 (some 33) (.agg (u8s (form))) rfl (by kernel_rfl) (by kernel_rfl) (by kernel_rfl) (fun _ _ _ h => h) rfl rfl ⟨hB, hz5, hz11⟩ (fun w' h' => exec_load_all 39 _ rfl Wz2.heap.size rfl _ _ _ h'.2.2 Try.underlying39 rfl 9 (by kernel_rfl) ((u8s_size _).trans hfm.len)) ?_
  go_frame
  refine y_oper 13 (by kernel_rfl) rfl rfl (fun K' hK' => ?_)
  have lz40 := hB.size
  have lz41 := hz5.lt
  have lz42 := hz11.lt
  have lz43 := hz18.lt
  refine wp_call1 (some 30) rfl 49 _ _ rfl (fun args w => by kernel_rfl) _ rfl _ (shapesOf_c p n m k _ _) (fun e Wz38 h => ?_)
  obtain ⟨rfl, bz39⟩ := h
  replace hB := below_after hB bz39
  replace hz5 := hz5.after bz39
  replace hz11 := hz11.after bz39
  replace hz18 := hz18.after bz39
  clear bz39
  refine ⟨_, rfl, ?_⟩
  refine hK' _ _ ⟨hB, hz5, hz11⟩ (fun _ => trivial) ?_
  clear hK' K'
  go_frame
  refine y_yield 15 (some 32) (.agg #[.int .i64 m, .int .i64 k]) rfl (by kernel_rfl) (by kernel_rfl) (by kernel_rfl) (fun _ _ _ h => h) rfl rfl ⟨hB, hz5, hz11⟩ (fun w' h' => exec_index_part 77 76 _ _ rfl 3 1 2 _ #[.int .i64 m, .int .i64 k] _ rfl rfl Try.underlying77 Try.underlying76 rfl (by kernel_rfl) (by omega) rfl) ?_
  go_frame
  refine y_oper 17 (by kernel_rfl) rfl rfl (fun K' hK' => ?_)
  have lz46 := hB.size
  have lz47 := hz5.lt
  have lz48 := hz11.lt
  have lz49 := hz18.lt
  refine wp_call3 (some 34) rfl 48 _ _ _ _ rfl (fun args w => by kernel_rfl) _ _ _ rfl rfl rfl _ (isForm_c p m k form hp0 hsm hsk hfm _) (fun e Wz44 h => ?_)
  obtain ⟨rfl, bz45⟩ := h
  replace hB := below_after hB bz45
  replace hz5 := hz5.after bz45
  replace hz11 := hz11.after bz45
  replace hz18 := hz18.after bz45
  rw [Hm.out]
  clear bz45
  refine ⟨_, rfl, ?_⟩
  refine hK' _ _ ⟨hB, hz5, hz11⟩ (fun _ => trivial) ?_
  clear hK' K'
  go_frame
  refine y_yield 18 (some 35) (.bool false) rfl (by kernel_rfl) (by kernel_rfl) (by kernel_rfl) (fun _ _ _ h => h) rfl rfl ⟨hB, hz5, hz11⟩ (fun w' h' => exec_not _ _ rfl true rfl) ?_
  go_frame
  refine y_yield 19 (some 36) (.bool false) rfl (by kernel_rfl) (by kernel_rfl) (by kernel_rfl) (fun _ _ _ h => h) rfl rfl ⟨hB, hz5, hz11⟩ (fun w' h' => exec_pick _ _ _ rfl false rfl (.bool false) rfl) ?_
  go_frame
  refine y_done (by kernel_rfl) ?_ _
  go_upto_region 5 with (fail)
  refine wp_region_lit ?_
  refine ls_ex (some 38) (.pointer (some ⟨w.heap.size, 4, none⟩)) rfl rfl (exec_fieldAddr 28 _ 4 rfl _ (by kernel_rfl)) ?_
  go_frame
  refine ls_ex (some 39) (.slice (some ⟨b0, off0, none⟩) qs.length cap) rfl rfl (exec_load_one 26 _ rfl w.heap.size 4 rfl (.slice (some ⟨b0, off0, none⟩) qs.length cap) _ Try.underlying26 rfl (hz5.at_ 4)) ?_
  go_frame
  refine ls_ex (some 40) (.int .i64 i) rfl rfl (exec_move _ rfl (.int .i64 i) rfl) ?_
  go_frame
  refine ls_ex (some 41) (.pointer (some ⟨b0, off0 + i * 27, none⟩)) rfl rfl (exec_index_slice _ 58 _ _ rfl b0 off0 qs.length cap i 27 rfl rfl Try.underlying26 (by kernel_rfl) hilt) ?_
  go_frame
  refine ls_ex (some 42) (.agg (u8s (cat3 QA QB QC))) rfl rfl (exec_load_cells 58 _ rfl b0 (off0 + i * 27) rfl (cat3 QA QB QC) _ 27 (Hc.out _ hB) Try.underlying58 rfl (by kernel_rfl) (hq.len)) ?_
  go_frame
  refine ls_op rfl (fun K' hK' => ?_)
  have lz52 := hB.size
  have lz53 := hz5.lt
  have lz54 := hz11.lt
  have lz55 := hz18.lt
  refine wp_call1 (some 43) rfl 50 _ _ rfl (fun args w => by kernel_rfl) _ rfl _ (factorsOf_c (cat3 QA QB QC) hq _) (fun e Wz50 h => ?_)
  obtain ⟨rfl, bz51⟩ := h
  replace hB := below_after hB bz51
  replace hz5 := hz5.after bz51
  replace hz11 := hz11.after bz51
  replace hz18 := hz18.after bz51
  clear bz51
  refine ⟨_, rfl, ?_⟩
  refine hK' _ _ ?_
  clear hK' K'
  go_frame
  refine ls_op rfl (fun K' hK' => ?_)
  have lz56 := hB.size
  have lz57 := hz5.lt
  have lz58 := hz11.lt
  have lz59 := hz18.lt
  refine wp_new (some 10) rfl (al__3_impl_Form rfl) (fun Wz60 nnz61 => ?_)
  have bz62 := nnz61.below (Below.refl _ _) (Nat.le_refl _)
  replace hB := below_after hB bz62
  replace hz5 := hz5.after bz62
  replace hz11 := hz11.after bz62
  replace hz18 := hz18.after bz62
  have hz63 : At Wz60 Wz50.heap.size (.cells (u8s (List.replicate 27 0)) 79 (0, 0)) := nnz61.at_
  refine hK' _ _ ?_
  clear hK' K' nnz61 bz62
  go_frame
  refine ls_op rfl (fun K' hK' => ?_)
  refine wp_store_bytes 79 _ _ rfl rfl Wz50.heap.size rfl (cat3 QA QB QC) rfl _ _ hz63 27 (by kernel_rfl) hq.len (by simp) (fun Wz64 pz65 => ?_)
  replace hB := pz65.below hB (by omega)
  replace hz5 := pz65.other hz5 (by omega)
  replace hz11 := pz65.other hz11 (by omega)
  replace hz18 := pz65.other hz18 (by omega)
  replace hz63 : At Wz64 Wz50.heap.size (.cells (u8s (cat3 QA QB QC)) 79 (0, 0)) := pz65.at_
  refine hK' _ _ ?_
  clear hK' K' pz65
  refine wpList_nil ?_
  go_upto_region 6 with (fail)
  refine wp_region_y (zs := []) (S := fun w' => Below w.heap.size w w' ∧ At w' Wz2.heap.size (.cells (u8s (form)) 39 (0, 0)) ∧ At w' Wz50.heap.size (.cells (u8s (cat3 QA QB QC)) 79 (0, 0))) (S2 := fun w' => True) (by kernel_rfl) ?_
  change wpAnyY _ _ _ _ _ _ _ _ _ _ (World.drew _)
  generalize hwdz66 : World.drew _ = wdz66
  replace hB : Below w.heap.size w wdz66 := by rw [← hwdz66]; exact hB.drew
  replace hz5 : At wdz66 w.heap.size (.cells #[.int .i64 p, .int .i64 n, .int .i64 m, .int .i64 k, .slice (some ⟨b0, off0, none⟩) qs.length cap] 28 (0, 0)) := by rw [← hwdz66]; exact hz5
  replace hz11 : At wdz66 Wz2.heap.size (.cells (u8s (form)) 39 (0, 0)) := by rw [← hwdz66]; exact hz11
  replace hz18 : At wdz66 Wz8.heap.size (.cells #[.int .i64 0, .int .i64 0, .int .i64 0, .int .i64 0, .slice none 0 0] 28 (0, 0)) := by rw [← hwdz66]; exact hz18
  replace hz63 : At wdz66 Wz50.heap.size (.cells (u8s (cat3 QA QB QC)) 79 (0, 0)) := by rw [← hwdz66]; exact hz63
  clear hwdz66
  refine y_yield 0 (some 44) (.agg (u8s (form))) rfl (by kernel_rfl) (by kernel_rfl) (by kernel_rfl) (fun _ _ _ h => h) rfl rfl ⟨hB, hz11, hz63⟩ (fun w' h' => exec_load_all 39 _ rfl Wz2.heap.size rfl _ _ _ h'.2.1 Try.underlying39 rfl 9 (by kernel_rfl) ((u8s_size _).trans hfm.len)) ?_
  go_frame
  refine y_yield 1 (some 45) (.agg (u8s (List.replicate 9 0))) rfl (by kernel_rfl) (by kernel_rfl) (by kernel_rfl) (fun _ _ _ h => h) rfl rfl ⟨hB, hz11, hz63⟩ (fun w' h' => exec_build_nil 39 rfl _ (by kernel_rfl)) ?_
  go_frame
  refine y_yield 2 (some 46) (.bool false) rfl (by kernel_rfl) (by kernel_rfl) (by kernel_rfl) (fun _ _ _ h => h) rfl rfl ⟨hB, hz11, hz63⟩ (fun w' h' => exec_eql_u8s_b 39 _ _ _ _ rfl 9 Try.underlying39 Try.underlying5 (by kernel_rfl) (by kernel_rfl) (form) (List.replicate 9 0) rfl rfl hfm.len (by simp) false Hzf.out) ?_
  go_frame
  refine y_yield 3 (some 47) (.bool false) rfl (by kernel_rfl) (by kernel_rfl) (by kernel_rfl) (fun _ _ _ h => h) rfl rfl ⟨hB, hz11, hz63⟩ (fun w' h' => exec_move _ rfl (.bool false) rfl) ?_
  go_frame
  refine y_yield 4 (some 48) (.agg (u8s (form))) rfl (by kernel_rfl) (by kernel_rfl) (by kernel_rfl) (fun _ _ _ h => h) rfl rfl ⟨hB, hz11, hz63⟩ (fun w' h' => exec_load_all 39 _ rfl Wz2.heap.size rfl _ _ _ h'.2.1 Try.underlying39 rfl 9 (by kernel_rfl) ((u8s_size _).trans hfm.len)) ?_
  go_frame
  refine y_yield 5 (some 49) (.int .i64 1) rfl (by kernel_rfl) (by kernel_rfl) (by kernel_rfl) (fun _ _ _ h => h) rfl rfl ⟨hB, hz11, hz63⟩ (fun w' h' => exec_move _ rfl (.int .i64 1) rfl) ?_
  go_frame
  refine y_yield 6 (some 50) (.pointer (some ⟨Wz50.heap.size, 9, none⟩)) rfl (by kernel_rfl) (by kernel_rfl) (by kernel_rfl) (fun _ _ _ h => h) rfl rfl ⟨hB, hz11, hz63⟩ (fun w' h' => exec_index_arr _ 39 _ _ rfl Wz50.heap.size 0 3 1 9 rfl rfl Try.underlying79 (by kernel_rfl) (by omega)) ?_
  go_frame
  refine y_yield 7 (some 51) (.agg (u8s (QB))) rfl (by kernel_rfl) (by kernel_rfl) (by kernel_rfl) (fun _ _ _ h => h) rfl rfl ⟨hB, hz11, hz63⟩ (fun w' h' => exec_load_seg 39 _ rfl Wz50.heap.size (9) rfl _ (cat3 QA QB QC) _ 9 h'.2.2 Try.underlying39 rfl (by kernel_rfl) (by rw [hq.len]; omega) (QB) (segm_b hQA.len hQB.len)) ?_
  go_frame
  refine y_yield 8 (some 52) (.bool true) rfl (by kernel_rfl) (by kernel_rfl) (by kernel_rfl) (fun _ _ _ h => h) rfl rfl ⟨hB, hz11, hz63⟩ (fun w' h' => exec_eql_u8s_b 39 _ _ _ _ rfl 9 Try.underlying39 Try.underlying5 (by kernel_rfl) (by kernel_rfl) (form) (QB) rfl rfl hfm.len hQB.len true Heq.out) ?_
  go_frame
  refine y_yield 9 (some 53) (.bool true) rfl (by kernel_rfl) (by kernel_rfl) (by kernel_rfl) (fun _ _ _ h => h) rfl rfl ⟨hB, hz11, hz63⟩ (fun w' h' => exec_pick _ _ _ rfl false rfl (.bool true) rfl) ?_
  go_frame
  refine y_done (by kernel_rfl) ?_ _
  go_upto_region 7 with (fail)
  refine wp_region_lit ?_
  refine ls_ex (some 54) (.agg #[.int .i64 0, .int .i64 0, .int .i64 0, .int .i64 0, .slice none 0 0]) rfl rfl (exec_build_nil 28 rfl _ (by kernel_rfl)) ?_
  go_frame
  refine ls_op rfl (fun K' hK' => ?_)
  refine wp_store_all 28 _ _ rfl rfl Wz8.heap.size rfl #[.int .i64 0, .int .i64 0, .int .i64 0, .int .i64 0, .slice none 0 0] rfl _ _ hz18 5 (by kernel_rfl) rfl rfl (one5 _ _ _ _ _ _ _) (fun Wz67 pz68 => ?_)
  replace hB := pz68.below hB (by omega)
  replace hz5 := pz68.other hz5 (by omega)
  replace hz11 := pz68.other hz11 (by omega)
  replace hz63 := pz68.other hz63 (by omega)
  replace hz18 : At Wz67 Wz8.heap.size (.cells #[.int .i64 0, .int .i64 0, .int .i64 0, .int .i64 0, .slice none 0 0] 28 (0, 0)) := pz68.at_
  refine hK' _ _ ?_
  clear hK' K' pz68
  refine ls_ex (some 9) (.int .i64 5) rfl rfl (exec_assign _ rfl (.int .i64 5) rfl) ?_
  go_frame
  refine wpList_nil ?_
  go_wp2_with fail
  refine bodyPost_ret (results_at2 rfl _ _ (Wz8.heap.size) _ _ _ rfl _ rfl hz18 Try.underlying28 rfl 5 (by kernel_rfl) rfl) rfl ?_
  exact ⟨.slice none 0 0, by rw [Hz.out, Hz.out, Hz.out, Hz.out, Hcode.out]; rfl, by rw [Hr.out]; exact Own.nil _ _, hB⟩
set_option maxHeartbeats 4000000 in
theorem implSplit_h1 (p n m k : Int) (b0 off0 : Nat) (cap : Nat) (qs : List (List Nat)) (i : Nat) (form : List Nat) (w : World) (hR : Rd w (some ⟨b0, off0, none⟩) qs) (hlen : qs.length ≤ 1048576) (hfm : Bytes 9 form) (hs : schemeB p n m k qs = true) (hilt : i < qs.length) (hm : formB p form (m * k) = true) (hz : zeroB form = false) (heq : (form == segm qs[i] 9 9) = false) (h30 : qs.length = 30) :
    Calls Try.prog 18 #[.agg #[.int .i64 p, .int .i64 n, .int .i64 m, .int .i64 k, .slice (some ⟨b0, off0, none⟩) qs.length cap], .int .i64 i, .int .i64 1, .agg (u8s form)] w (ResS w (spZ p n m k qs i 1 form p) (spZ p n m k qs i 1 form n) (spZ p n m k qs i 1 form m) (spZ p n m k qs i 1 form k) (spR p n m k qs i 1 form) (spCode p n m k qs i 1 form)) := by
  have HIs := Lib.hid (fun w hr => implIsScheme_c p n m k (some ⟨b0, off0, none⟩) cap qs w hr hlen)
  have hB := Below.refl w.heap.size w
  have Hs := Lib.hid hs
  have hpr := (sizesB_parts (schemeB_sizes hs)).1
  have h5 := primeB_5 hpr
  have hp0 : 0 < p := h5.1
  have hsn := (sizesB_parts (schemeB_sizes hs)).2.1
  have hsm := (sizesB_parts (schemeB_sizes hs)).2.2.1
  have hsk := (sizesB_parts (schemeB_sizes hs)).2.2.2
  have hin : inI (i : Int) qs.length = true := by simp [inI]; omega
  have Hi := Lib.hid hin
  have h31 := schemeB_len hs
  have hbi := hR.good _ (List.getElem_mem hilt)
  have hel : qs[i]?.getD [] = qs[i] := by simp [hilt]
  have Hc := Lib.hid (fun W (hb : Below w.heap.size w W) => Rd.cells27 (hR.keep hb) hilt)
  have hfq : facQ (qs[i]?.getD []) 1 = segm qs[i] 9 9 := by rw [hel]; rfl
  have heq2 : ¬ form = segm qs[i] 9 9 := by simpa using heq
  have Hm := Lib.hid hm
  have Hcode : Hid (spCode p n m k qs i 1 form = 3) := Lib.hid (by unfold spCode; rw [if_pos hs, hin, show inI 1 3 = true from rfl, show lenF n m k (1 : Int).toNat = m * k from rfl, hm]; simp [hz, hfq, heq2, h30])
  have Hz : Hid (∀ x, spZ p n m k qs i 1 form x = 0) := Lib.hid (fun x => by simp [spZ, Hcode.out])
  have Hr : Hid (spR p n m k qs i 1 form = []) := Lib.hid (by simp [spR, Hcode.out])
  have Hzf : Hid ((form == List.replicate 9 0) = false) := Lib.hid hz
  have Hlen : Hid (((qs.length : Int) == 30) = true) := Lib.hid (by simp; omega)
  clear hs hm hin hz hfq hel heq2
  generalize qs[i] = q at *
  obtain ⟨QA, QB, QC, rfl, hQA, hQB, hQC⟩ := parts3 hbi
  have hq := bytes3 hQA hQB hQC
  rw [segm_b hQA.len hQB.len] at heq
  have Heq := Lib.hid heq
  clear heq
  go_enter Try.func18, Try.ntmps18
  go_upto_region 0 with (fail)
  refine wp_region_lit ?_
  refine ls_op rfl (fun K' hK' => ?_)
  have lz1 := hB.size
  refine wp_new (some 4) rfl (exec_box 28 _ rfl (#[.int .i64 p, .int .i64 n, .int .i64 m, .int .i64 k, .slice (some ⟨b0, off0, none⟩) qs.length cap]) rfl) (fun Wz2 nnz3 => ?_)
  have bz4 := nnz3.below (Below.refl _ _) (Nat.le_refl _)
  replace hB := below_after hB bz4
  have hz5 : At Wz2 w.heap.size (.cells #[.int .i64 p, .int .i64 n, .int .i64 m, .int .i64 k, .slice (some ⟨b0, off0, none⟩) qs.length cap] 28 (0, 0)) := nnz3.at_
  refine hK' _ _ ?_
  clear hK' K' nnz3 bz4
  go_frame
  refine ls_op rfl (fun K' hK' => ?_)
  have lz6 := hB.size
  have lz7 := hz5.lt
  refine wp_new (some 7) rfl (exec_box 39 _ rfl (u8s (form)) rfl) (fun Wz8 nnz9 => ?_)
  have bz10 := nnz9.below (Below.refl _ _) (Nat.le_refl _)
  replace hB := below_after hB bz10
  replace hz5 := hz5.after bz10
  have hz11 : At Wz8 Wz2.heap.size (.cells (u8s (form)) 39 (0, 0)) := nnz9.at_
  refine hK' _ _ ?_
  clear hK' K' nnz9 bz10
  go_frame
  refine ls_op rfl (fun K' hK' => ?_)
  have lz12 := hB.size
  have lz13 := hz5.lt
  have lz14 := hz11.lt
  refine wp_new (some 8) rfl (al_impl_Scheme rfl) (fun Wz15 nnz16 => ?_)
  have bz17 := nnz16.below (Below.refl _ _) (Nat.le_refl _)
  replace hB := below_after hB bz17
  replace hz5 := hz5.after bz17
  replace hz11 := hz11.after bz17
  have hz18 : At Wz15 Wz8.heap.size (.cells #[.int .i64 0, .int .i64 0, .int .i64 0, .int .i64 0, .slice none 0 0] 28 (0, 0)) := nnz16.at_
  refine hK' _ _ ?_
  clear hK' K' nnz16 bz17
  go_frame
  refine ls_ex (some 9) (.int .i64 0) rfl rfl (exec_assign _ rfl (.int .i64 0) rfl) ?_
  go_frame
  refine wpList_nil ?_
  go_upto_region 1 with (fail)
  refine wp_region_lit ?_
  refine ls_ex (some 13) (.agg #[.int .i64 p, .int .i64 n, .int .i64 m, .int .i64 k, .slice (some ⟨b0, off0, none⟩) qs.length cap]) rfl rfl (exec_load_all 28 _ rfl w.heap.size rfl _ _ _ hz5 Try.underlying28 rfl 5 (by kernel_rfl) rfl) ?_
  go_frame
  refine ls_op rfl (fun K' hK' => ?_)
  have lz21 := hB.size
  have lz22 := hz5.lt
  have lz23 := hz11.lt
  have lz24 := hz18.lt
  refine wp_call1 (some 14) rfl 25 _ _ rfl (fun args w => by kernel_rfl) _ rfl _ (HIs.out _ (hR.keep hB)) (fun e Wz19 h => ?_)
  obtain ⟨rfl, bz20⟩ := h
  replace hB := below_after hB bz20
  replace hz5 := hz5.after bz20
  replace hz11 := hz11.after bz20
  replace hz18 := hz18.after bz20
  rw [Hs.out]
  clear bz20
  refine ⟨_, rfl, ?_⟩
  refine hK' _ _ ?_
  clear hK' K'
  go_frame
  refine ls_ex (some 15) (.bool false) rfl rfl (exec_not _ _ rfl true rfl) ?_
  go_frame
  refine wpList_nil ?_
  go_upto_region 3 with (fail)
  refine wp_region_y (zs := []) (S := fun w' => Below w.heap.size w w' ∧ At w' w.heap.size (.cells #[.int .i64 p, .int .i64 n, .int .i64 m, .int .i64 k, .slice (some ⟨b0, off0, none⟩) qs.length cap] 28 (0, 0)) ∧ At w' Wz2.heap.size (.cells (u8s (form)) 39 (0, 0))) (S2 := fun w' => True) (by kernel_rfl) ?_
  change wpAnyY _ _ _ _ _ _ _ _ _ _ (World.drew _)
  generalize hwdz25 : World.drew _ = wdz25
  replace hB : Below w.heap.size w wdz25 := by rw [← hwdz25]; exact hB.drew
  replace hz5 : At wdz25 w.heap.size (.cells #[.int .i64 p, .int .i64 n, .int .i64 m, .int .i64 k, .slice (some ⟨b0, off0, none⟩) qs.length cap] 28 (0, 0)) := by rw [← hwdz25]; exact hz5
  replace hz11 : At wdz25 Wz2.heap.size (.cells (u8s (form)) 39 (0, 0)) := by rw [← hwdz25]; exact hz11
  replace hz18 : At wdz25 Wz8.heap.size (.cells #[.int .i64 0, .int .i64 0, .int .i64 0, .int .i64 0, .slice none 0 0] 28 (0, 0)) := by rw [← hwdz25]; exact hz18
  clear hwdz25
  refine y_yield 0 (some 17) (.agg #[.int .i64 p, .int .i64 n, .int .i64 m, .int .i64 k, .slice (some ⟨b0, off0, none⟩) qs.length cap]) rfl (by kernel_rfl) (by kernel_rfl) (by kernel_rfl) (fun _ _ _ h => h) rfl rfl ⟨hB, hz5, hz11⟩ (fun w' h' => exec_load_all 28 _ rfl w.heap.size rfl _ _ _ h'.2.1 Try.underlying28 rfl 5 (by kernel_rfl) rfl) ?_
  go_frame
  refine y_yield 1 (some 18) (.int .i64 i) rfl (by kernel_rfl) (by kernel_rfl) (by kernel_rfl) (fun _ _ _ h => h) rfl rfl ⟨hB, hz5, hz11⟩ (fun w' h' => exec_move _ rfl (.int .i64 i) rfl) ?_
  go_frame
  refine y_oper 2 (by kernel_rfl) rfl rfl (fun K' hK' => ?_)
  have lz28 := hB.size
  have lz29 := hz5.lt
  have lz30 := hz11.lt
  have lz31 := hz18.lt
  refine wp_call2 (some 19) rfl 36 _ _ _ rfl (fun args w => by kernel_rfl) _ _ rfl rfl _ (isProductIndex_c p n m k _ cap qs.length i _) (fun e Wz26 h => ?_)
  obtain ⟨rfl, bz27⟩ := h
  replace hB := below_after hB bz27
  replace hz5 := hz5.after bz27
  replace hz11 := hz11.after bz27
  replace hz18 := hz18.after bz27
  rw [Hi.out]
  clear bz27
  refine ⟨_, rfl, ?_⟩
  refine hK' _ _ ⟨hB, hz5, hz11⟩ (fun _ => trivial) ?_
  clear hK' K'
  go_frame
  refine y_yield 3 (some 20) (.bool false) rfl (by kernel_rfl) (by kernel_rfl) (by kernel_rfl) (fun _ _ _ h => h) rfl rfl ⟨hB, hz5, hz11⟩ (fun w' h' => exec_not _ _ rfl true rfl) ?_
  go_frame
  refine y_yield 4 (some 21) (.bool false) rfl (by kernel_rfl) (by kernel_rfl) (by kernel_rfl) (fun _ _ _ h => h) rfl rfl ⟨hB, hz5, hz11⟩ (fun w' h' => exec_move _ rfl (.bool false) rfl) ?_
  go_frame
  refine y_yield 5 (some 22) (.int .i64 1) rfl (by kernel_rfl) (by kernel_rfl) (by kernel_rfl) (fun _ _ _ h => h) rfl rfl ⟨hB, hz5, hz11⟩ (fun w' h' => exec_move _ rfl (.int .i64 1) rfl) ?_
  go_frame
  refine y_oper 6 (by kernel_rfl) rfl rfl (fun K' hK' => ?_)
  have lz34 := hB.size
  have lz35 := hz5.lt
  have lz36 := hz11.lt
  have lz37 := hz18.lt
  refine wp_call2 (some 23) rfl 47 _ _ _ rfl (fun args w => by kernel_rfl) _ _ rfl rfl _ (isIdx_c 1 3 _) (fun e Wz32 h => ?_)
  obtain ⟨rfl, rfl⟩ := h
  rw [show inI 1 3 = true from rfl]
  refine ⟨_, rfl, ?_⟩
  refine hK' _ _ ⟨hB, hz5, hz11⟩ (fun _ => trivial) ?_
  clear hK' K'
  go_frame
  refine y_yield 7 (some 24) (.bool false) rfl (by kernel_rfl) (by kernel_rfl) (by kernel_rfl) (fun _ _ _ h => h) rfl rfl ⟨hB, hz5, hz11⟩ (fun w' h' => exec_not _ _ rfl true rfl) ?_
  go_frame
  refine y_yield 8 (some 25) (.bool false) rfl (by kernel_rfl) (by kernel_rfl) (by kernel_rfl) (fun _ _ _ h => h) rfl rfl ⟨hB, hz5, hz11⟩ (fun w' h' => exec_pick _ _ _ rfl false rfl (.bool false) rfl) ?_
  go_frame
  refine y_yield 9 (some 26) (.bool false) rfl (by kernel_rfl) (by kernel_rfl) (by kernel_rfl) (fun _ _ _ h => h) rfl rfl ⟨hB, hz5, hz11⟩ (fun w' h' => exec_move _ rfl (.bool false) rfl) ?_
  go_frame
  refine y_yield 10 (some 27) (.pointer (some ⟨w.heap.size, 0, none⟩)) rfl (by kernel_rfl) (by kernel_rfl) (by kernel_rfl) (fun _ _ _ h => h) rfl rfl ⟨hB, hz5, hz11⟩ (fun w' h' => exec_fieldAddr 28 _ 0 rfl _ (by kernel_rfl)) ?_
  go_frame
  refine y_yield 11 (some 28) (.int .i64 p) rfl (by kernel_rfl) (by kernel_rfl) (by kernel_rfl) (fun _ _ _ h => h) rfl rfl ⟨hB, hz5, hz11⟩ (fun w' h' => exec_load_one 2 _ rfl w.heap.size 0 rfl (.int .i64 p) _ Try.underlying2 rfl (h'.2.1.at_ 0)) ?_
  go_frame
  refine y_yield 12 (some 29) (.agg #[.int .i64 p, .int .i64 n, .int .i64 m, .int .i64 k, .slice (some ⟨b0, off0, none⟩) qs.length cap]) rfl (by kernel_rfl) (by kernel_rfl) (by kernel_rfl) (fun _ _ _ h => h) rfl rfl ⟨hB, hz5, hz11⟩ (fun w' h' => exec_load_all 28 _ rfl w.heap.size rfl _ _ _ h'.2.1 Try.underlying28 rfl 5 (by kernel_rfl) rfl) ?_
  go_frame
  refine y_yield 14 (some 31) (.int .i64 1) rfl (by kernel_rfl) (by kernel_rfl) (by kernel_rfl) (fun _ _ _ h => h) rfl rfl ⟨hB, hz5, hz11⟩ (fun w' h' => exec_move _ rfl (.int .i64 1) rfl) ?_
  go_frame
  refine y_yield 16 (some 33) (.agg (u8s (form))) rfl (by kernel_rfl) (by kernel_rfl) (by kernel_rfl) (fun _ _ _ h => h) rfl rfl ⟨hB, hz5, hz11⟩ (fun w' h' => exec_load_all 39 _ rfl Wz2.heap.size rfl _ _ _ h'.2.2 Try.underlying39 rfl 9 (by kernel_rfl) ((u8s_size _).trans hfm.len)) ?_
  go_frame
  refine y_oper 13 (by kernel_rfl) rfl rfl (fun K' hK' => ?_)
  have lz40 := hB.size
  have lz41 := hz5.lt
  have lz42 := hz11.lt
  have lz43 := hz18.lt
  refine wp_call1 (some 30) rfl 49 _ _ rfl (fun args w => by kernel_rfl) _ rfl _ (shapesOf_c p n m k _ _) (fun e Wz38 h => ?_)
  obtain ⟨rfl, bz39⟩ := h
  replace hB := below_after hB bz39
  replace hz5 := hz5.after bz39
  replace hz11 := hz11.after bz39
  replace hz18 := hz18.after bz39
  clear bz39
  refine ⟨_, rfl, ?_⟩
  refine hK' _ _ ⟨hB, hz5, hz11⟩ (fun _ => trivial) ?_
  clear hK' K'
  go_frame
  refine y_yield 15 (some 32) (.agg #[.int .i64 m, .int .i64 k]) rfl (by kernel_rfl) (by kernel_rfl) (by kernel_rfl) (fun _ _ _ h => h) rfl rfl ⟨hB, hz5, hz11⟩ (fun w' h' => exec_index_part 77 76 _ _ rfl 3 1 2 _ #[.int .i64 m, .int .i64 k] _ rfl rfl Try.underlying77 Try.underlying76 rfl (by kernel_rfl) (by omega) rfl) ?_
  go_frame
  refine y_oper 17 (by kernel_rfl) rfl rfl (fun K' hK' => ?_)
  have lz46 := hB.size
  have lz47 := hz5.lt
  have lz48 := hz11.lt
  have lz49 := hz18.lt
  refine wp_call3 (some 34) rfl 48 _ _ _ _ rfl (fun args w => by kernel_rfl) _ _ _ rfl rfl rfl _ (isForm_c p m k form hp0 hsm hsk hfm _) (fun e Wz44 h => ?_)
  obtain ⟨rfl, bz45⟩ := h
  replace hB := below_after hB bz45
  replace hz5 := hz5.after bz45
  replace hz11 := hz11.after bz45
  replace hz18 := hz18.after bz45
  rw [Hm.out]
  clear bz45
  refine ⟨_, rfl, ?_⟩
  refine hK' _ _ ⟨hB, hz5, hz11⟩ (fun _ => trivial) ?_
  clear hK' K'
  go_frame
  refine y_yield 18 (some 35) (.bool false) rfl (by kernel_rfl) (by kernel_rfl) (by kernel_rfl) (fun _ _ _ h => h) rfl rfl ⟨hB, hz5, hz11⟩ (fun w' h' => exec_not _ _ rfl true rfl) ?_
  go_frame
  refine y_yield 19 (some 36) (.bool false) rfl (by kernel_rfl) (by kernel_rfl) (by kernel_rfl) (fun _ _ _ h => h) rfl rfl ⟨hB, hz5, hz11⟩ (fun w' h' => exec_pick _ _ _ rfl false rfl (.bool false) rfl) ?_
  go_frame
  refine y_done (by kernel_rfl) ?_ _
  go_upto_region 5 with (fail)
  refine wp_region_lit ?_
  refine ls_ex (some 38) (.pointer (some ⟨w.heap.size, 4, none⟩)) rfl rfl (exec_fieldAddr 28 _ 4 rfl _ (by kernel_rfl)) ?_
  go_frame
  refine ls_ex (some 39) (.slice (some ⟨b0, off0, none⟩) qs.length cap) rfl rfl (exec_load_one 26 _ rfl w.heap.size 4 rfl (.slice (some ⟨b0, off0, none⟩) qs.length cap) _ Try.underlying26 rfl (hz5.at_ 4)) ?_
  go_frame
  refine ls_ex (some 40) (.int .i64 i) rfl rfl (exec_move _ rfl (.int .i64 i) rfl) ?_
  go_frame
  refine ls_ex (some 41) (.pointer (some ⟨b0, off0 + i * 27, none⟩)) rfl rfl (exec_index_slice _ 58 _ _ rfl b0 off0 qs.length cap i 27 rfl rfl Try.underlying26 (by kernel_rfl) hilt) ?_
  go_frame
  refine ls_ex (some 42) (.agg (u8s (cat3 QA QB QC))) rfl rfl (exec_load_cells 58 _ rfl b0 (off0 + i * 27) rfl (cat3 QA QB QC) _ 27 (Hc.out _ hB) Try.underlying58 rfl (by kernel_rfl) (hq.len)) ?_
  go_frame
  refine ls_op rfl (fun K' hK' => ?_)
  have lz52 := hB.size
  have lz53 := hz5.lt
  have lz54 := hz11.lt
  have lz55 := hz18.lt
  refine wp_call1 (some 43) rfl 50 _ _ rfl (fun args w => by kernel_rfl) _ rfl _ (factorsOf_c (cat3 QA QB QC) hq _) (fun e Wz50 h => ?_)
  obtain ⟨rfl, bz51⟩ := h
  replace hB := below_after hB bz51
  replace hz5 := hz5.after bz51
  replace hz11 := hz11.after bz51
  replace hz18 := hz18.after bz51
  clear bz51
  refine ⟨_, rfl, ?_⟩
  refine hK' _ _ ?_
  clear hK' K'
  go_frame
  refine ls_op rfl (fun K' hK' => ?_)
  have lz56 := hB.size
  have lz57 := hz5.lt
  have lz58 := hz11.lt
  have lz59 := hz18.lt
  refine wp_new (some 10) rfl (al__3_impl_Form rfl) (fun Wz60 nnz61 => ?_)
  have bz62 := nnz61.below (Below.refl _ _) (Nat.le_refl _)
  replace hB := below_after hB bz62
  replace hz5 := hz5.after bz62
  replace hz11 := hz11.after bz62
  replace hz18 := hz18.after bz62
  have hz63 : At Wz60 Wz50.heap.size (.cells (u8s (List.replicate 27 0)) 79 (0, 0)) := nnz61.at_
  refine hK' _ _ ?_
  clear hK' K' nnz61 bz62
  go_frame
  refine ls_op rfl (fun K' hK' => ?_)
  refine wp_store_bytes 79 _ _ rfl rfl Wz50.heap.size rfl (cat3 QA QB QC) rfl _ _ hz63 27 (by kernel_rfl) hq.len (by simp) (fun Wz64 pz65 => ?_)
  replace hB := pz65.below hB (by omega)
  replace hz5 := pz65.other hz5 (by omega)
  replace hz11 := pz65.other hz11 (by omega)
  replace hz18 := pz65.other hz18 (by omega)
  replace hz63 : At Wz64 Wz50.heap.size (.cells (u8s (cat3 QA QB QC)) 79 (0, 0)) := pz65.at_
  refine hK' _ _ ?_
  clear hK' K' pz65
  refine wpList_nil ?_
  go_upto_region 6 with (fail)
  refine wp_region_y (zs := []) (S := fun w' => Below w.heap.size w w' ∧ At w' Wz2.heap.size (.cells (u8s (form)) 39 (0, 0)) ∧ At w' Wz50.heap.size (.cells (u8s (cat3 QA QB QC)) 79 (0, 0))) (S2 := fun w' => True) (by kernel_rfl) ?_
  change wpAnyY _ _ _ _ _ _ _ _ _ _ (World.drew _)
  generalize hwdz66 : World.drew _ = wdz66
  replace hB : Below w.heap.size w wdz66 := by rw [← hwdz66]; exact hB.drew
  replace hz5 : At wdz66 w.heap.size (.cells #[.int .i64 p, .int .i64 n, .int .i64 m, .int .i64 k, .slice (some ⟨b0, off0, none⟩) qs.length cap] 28 (0, 0)) := by rw [← hwdz66]; exact hz5
  replace hz11 : At wdz66 Wz2.heap.size (.cells (u8s (form)) 39 (0, 0)) := by rw [← hwdz66]; exact hz11
  replace hz18 : At wdz66 Wz8.heap.size (.cells #[.int .i64 0, .int .i64 0, .int .i64 0, .int .i64 0, .slice none 0 0] 28 (0, 0)) := by rw [← hwdz66]; exact hz18
  replace hz63 : At wdz66 Wz50.heap.size (.cells (u8s (cat3 QA QB QC)) 79 (0, 0)) := by rw [← hwdz66]; exact hz63
  clear hwdz66
  refine y_yield 0 (some 44) (.agg (u8s (form))) rfl (by kernel_rfl) (by kernel_rfl) (by kernel_rfl) (fun _ _ _ h => h) rfl rfl ⟨hB, hz11, hz63⟩ (fun w' h' => exec_load_all 39 _ rfl Wz2.heap.size rfl _ _ _ h'.2.1 Try.underlying39 rfl 9 (by kernel_rfl) ((u8s_size _).trans hfm.len)) ?_
  go_frame
  refine y_yield 1 (some 45) (.agg (u8s (List.replicate 9 0))) rfl (by kernel_rfl) (by kernel_rfl) (by kernel_rfl) (fun _ _ _ h => h) rfl rfl ⟨hB, hz11, hz63⟩ (fun w' h' => exec_build_nil 39 rfl _ (by kernel_rfl)) ?_
  go_frame
  refine y_yield 2 (some 46) (.bool false) rfl (by kernel_rfl) (by kernel_rfl) (by kernel_rfl) (fun _ _ _ h => h) rfl rfl ⟨hB, hz11, hz63⟩ (fun w' h' => exec_eql_u8s_b 39 _ _ _ _ rfl 9 Try.underlying39 Try.underlying5 (by kernel_rfl) (by kernel_rfl) (form) (List.replicate 9 0) rfl rfl hfm.len (by simp) false Hzf.out) ?_
  go_frame
  refine y_yield 3 (some 47) (.bool false) rfl (by kernel_rfl) (by kernel_rfl) (by kernel_rfl) (fun _ _ _ h => h) rfl rfl ⟨hB, hz11, hz63⟩ (fun w' h' => exec_move _ rfl (.bool false) rfl) ?_
  go_frame
  refine y_yield 4 (some 48) (.agg (u8s (form))) rfl (by kernel_rfl) (by kernel_rfl) (by kernel_rfl) (fun _ _ _ h => h) rfl rfl ⟨hB, hz11, hz63⟩ (fun w' h' => exec_load_all 39 _ rfl Wz2.heap.size rfl _ _ _ h'.2.1 Try.underlying39 rfl 9 (by kernel_rfl) ((u8s_size _).trans hfm.len)) ?_
  go_frame
  refine y_yield 5 (some 49) (.int .i64 1) rfl (by kernel_rfl) (by kernel_rfl) (by kernel_rfl) (fun _ _ _ h => h) rfl rfl ⟨hB, hz11, hz63⟩ (fun w' h' => exec_move _ rfl (.int .i64 1) rfl) ?_
  go_frame
  refine y_yield 6 (some 50) (.pointer (some ⟨Wz50.heap.size, 9, none⟩)) rfl (by kernel_rfl) (by kernel_rfl) (by kernel_rfl) (fun _ _ _ h => h) rfl rfl ⟨hB, hz11, hz63⟩ (fun w' h' => exec_index_arr _ 39 _ _ rfl Wz50.heap.size 0 3 1 9 rfl rfl Try.underlying79 (by kernel_rfl) (by omega)) ?_
  go_frame
  refine y_yield 7 (some 51) (.agg (u8s (QB))) rfl (by kernel_rfl) (by kernel_rfl) (by kernel_rfl) (fun _ _ _ h => h) rfl rfl ⟨hB, hz11, hz63⟩ (fun w' h' => exec_load_seg 39 _ rfl Wz50.heap.size (9) rfl _ (cat3 QA QB QC) _ 9 h'.2.2 Try.underlying39 rfl (by kernel_rfl) (by rw [hq.len]; omega) (QB) (segm_b hQA.len hQB.len)) ?_
  go_frame
  refine y_yield 8 (some 52) (.bool false) rfl (by kernel_rfl) (by kernel_rfl) (by kernel_rfl) (fun _ _ _ h => h) rfl rfl ⟨hB, hz11, hz63⟩ (fun w' h' => exec_eql_u8s_b 39 _ _ _ _ rfl 9 Try.underlying39 Try.underlying5 (by kernel_rfl) (by kernel_rfl) (form) (QB) rfl rfl hfm.len hQB.len false Heq.out) ?_
  go_frame
  refine y_yield 9 (some 53) (.bool false) rfl (by kernel_rfl) (by kernel_rfl) (by kernel_rfl) (fun _ _ _ h => h) rfl rfl ⟨hB, hz11, hz63⟩ (fun w' h' => exec_pick _ _ _ rfl false rfl (.bool false) rfl) ?_
  go_frame
  refine y_done (by kernel_rfl) ?_ _
  go_upto_region 8 with (fail)
  refine wp_region_lit ?_
  refine ls_ex (some 55) (.pointer (some ⟨w.heap.size, 4, none⟩)) rfl rfl (exec_fieldAddr 28 _ 4 rfl _ (by kernel_rfl)) ?_
  go_frame
  refine ls_ex (some 56) (.slice (some ⟨b0, off0, none⟩) qs.length cap) rfl rfl (exec_load_one 26 _ rfl w.heap.size 4 rfl (.slice (some ⟨b0, off0, none⟩) qs.length cap) _ Try.underlying26 rfl (hz5.at_ 4)) ?_
  go_frame
  refine ls_ex (some 57) (.int .i64 qs.length) rfl rfl (exec_len _ 26 58 rfl ((some ⟨b0, off0, none⟩)) qs.length cap rfl Try.underlying26) ?_
  go_frame
  refine ls_ex (some 58) (.bool true) rfl rfl (exec_eql _ _ _ _ rfl qs.length 30 rfl rfl true Hlen.out) ?_
  go_frame
  refine wpList_nil ?_
  go_upto_region 9 with (fail)
  refine wp_region_lit ?_
  refine ls_ex (some 59) (.agg #[.int .i64 0, .int .i64 0, .int .i64 0, .int .i64 0, .slice none 0 0]) rfl rfl (exec_build_nil 28 rfl _ (by kernel_rfl)) ?_
  go_frame
  refine ls_op rfl (fun K' hK' => ?_)
  refine wp_store_all 28 _ _ rfl rfl Wz8.heap.size rfl #[.int .i64 0, .int .i64 0, .int .i64 0, .int .i64 0, .slice none 0 0] rfl _ _ hz18 5 (by kernel_rfl) rfl rfl (one5 _ _ _ _ _ _ _) (fun Wz67 pz68 => ?_)
  replace hB := pz68.below hB (by omega)
  replace hz5 := pz68.other hz5 (by omega)
  replace hz11 := pz68.other hz11 (by omega)
  replace hz63 := pz68.other hz63 (by omega)
  replace hz18 : At Wz67 Wz8.heap.size (.cells #[.int .i64 0, .int .i64 0, .int .i64 0, .int .i64 0, .slice none 0 0] 28 (0, 0)) := pz68.at_
  refine hK' _ _ ?_
  clear hK' K' pz68
  refine ls_ex (some 9) (.int .i64 3) rfl rfl (exec_assign _ rfl (.int .i64 3) rfl) ?_
  go_frame
  refine wpList_nil ?_
  go_wp2_with fail
  refine bodyPost_ret (results_at2 rfl _ _ (Wz8.heap.size) _ _ _ rfl _ rfl hz18 Try.underlying28 rfl 5 (by kernel_rfl) rfl) rfl ?_
  exact ⟨.slice none 0 0, by rw [Hz.out, Hz.out, Hz.out, Hz.out, Hcode.out]; rfl, by rw [Hr.out]; exact Own.nil _ _, hB⟩
set_option maxHeartbeats 4000000 in
theorem implSplit_y1 (p n m k : Int) (b0 off0 : Nat) (cap : Nat) (qs : List (List Nat)) (i : Nat) (form : List Nat) (w : World) (hR : Rd w (some ⟨b0, off0, none⟩) qs) (hlen : qs.length ≤ 1048576) (hfm : Bytes 9 form) (hs : schemeB p n m k qs = true) (hilt : i < qs.length) (hm : formB p form (m * k) = true) (hz : zeroB form = false) (heq : (form == segm qs[i] 9 9) = false) (h30 : qs.length ≠ 30) :
    Calls Try.prog 18 #[.agg #[.int .i64 p, .int .i64 n, .int .i64 m, .int .i64 k, .slice (some ⟨b0, off0, none⟩) qs.length cap], .int .i64 i, .int .i64 1, .agg (u8s form)] w (ResS w (spZ p n m k qs i 1 form p) (spZ p n m k qs i 1 form n) (spZ p n m k qs i 1 form m) (spZ p n m k qs i 1 form k) (spR p n m k qs i 1 form) (spCode p n m k qs i 1 form)) := by
  have HIs := Lib.hid (fun w hr => implIsScheme_c p n m k (some ⟨b0, off0, none⟩) cap qs w hr hlen)
  have hB := Below.refl w.heap.size w
  have Hs := Lib.hid hs
  have hpr := (sizesB_parts (schemeB_sizes hs)).1
  have h5 := primeB_5 hpr
  have hp0 : 0 < p := h5.1
  have hsn := (sizesB_parts (schemeB_sizes hs)).2.1
  have hsm := (sizesB_parts (schemeB_sizes hs)).2.2.1
  have hsk := (sizesB_parts (schemeB_sizes hs)).2.2.2
  have hin : inI (i : Int) qs.length = true := by simp [inI]; omega
  have Hi := Lib.hid hin
  have h31 := schemeB_len hs
  have hbi := hR.good _ (List.getElem_mem hilt)
  have hel : qs[i]?.getD [] = qs[i] := by simp [hilt]
  have Hc := Lib.hid (fun W (hb : Below w.heap.size w W) => Rd.cells27 (hR.keep hb) hilt)
  have hfq : facQ (qs[i]?.getD []) 1 = segm qs[i] 9 9 := by rw [hel]; rfl
  have heq2 : ¬ form = segm qs[i] 9 9 := by simpa using heq
  have Hm := Lib.hid hm
  have Hcode : Hid (spCode p n m k qs i 1 form = 0) := Lib.hid (by unfold spCode; rw [if_pos hs, hin, show inI 1 3 = true from rfl, show lenF n m k (1 : Int).toNat = m * k from rfl, hm]; simp [hz, hfq, heq2, h30])
  have Hz : Hid (∀ x, spZ p n m k qs i 1 form x = x) := Lib.hid (fun x => by simp [spZ, Hcode.out])
  have Hr0 : spR p n m k qs i 1 form = qs.set i (withQ qs[i] 1 form) ++ [withQ qs[i] 1 (adF p (-1) (facQ qs[i] 1) form)] := by unfold spR spQs; rw [if_pos Hcode.out, Int.toNat_natCast, hel]; rfl
  have Hzf : Hid ((form == List.replicate 9 0) = false) := Lib.hid hz
  have Hlen : Hid (((qs.length : Int) == 30) = false) := Lib.hid (by simp; omega)
  have Hgood := Lib.hid hR.good
  clear hs hm hin hz hfq hel heq2
  generalize qs[i] = q at *
  obtain ⟨QA, QB, QC, rfl, hQA, hQB, hQC⟩ := parts3 hbi
  have hq := bytes3 hQA hQB hQC
  rw [segm_b hQA.len hQB.len] at heq
  have Heq := Lib.hid heq
  clear heq
  have hG := adF_bytes (-1) QB form h5.1 h5.2
  have HSub := Lib.hid (fun w => subtractedForm_c p QB form hQB hfm w (by have h := hpr; simp only [primeB, Bool.or_eq_true, beq_iff_eq] at h; omega) h5.2)
  unfold withQ facQ at Hr0
  rw [show 1 * 9 = 9 from rfl, segm_b hQA.len hQB.len, over_b hQA.len hQB.len hfm.len] at Hr0
  generalize adF p (-1) QB form = G at *
  rw [over_b hQA.len hQB.len hG.len] at Hr0
  have hN1 := bytes3 hQA hfm hQC
  have hN2 := bytes3 hQA hG hQC
  obtain ⟨M0, HM0e⟩ : ∃ M, Hid (qs ++ [cat3 QA G QC] = M) := ⟨_, Lib.hid rfl⟩
  have hM0l : M0.length = qs.length + 1 := by rw [← HM0e.out]; simp
  have milt : i < M0.length := by omega
  have hM0p : 0 < M0.length := by omega
  have HM0b : Hid (∀ q ∈ M0, Bytes 27 q) := Lib.hid (fun q h => by rw [← HM0e.out] at h; rcases List.mem_append.1 h with h | h; exact Hgood.out q h; obtain rfl := List.mem_singleton.1 h; exact hN2)
  have HM0 : Hid (∀ q ∈ M0, q.length = 27) := Lib.hid (fun q h => (HM0b.out q h).len)
  have HQ : Hid (spR p n m k qs i 1 form = M0.set i (cat3 QA form QC)) := Lib.hid (by rw [Hr0, ← HM0e.out, List.set_append_left _ _ hilt])
  clear Hr0
  go_enter Try.func18, Try.ntmps18
  go_upto_region 0 with (fail)
  refine wp_region_lit ?_
  refine ls_op rfl (fun K' hK' => ?_)
  have lz1 := hB.size
  refine wp_new (some 4) rfl (exec_box 28 _ rfl (#[.int .i64 p, .int .i64 n, .int .i64 m, .int .i64 k, .slice (some ⟨b0, off0, none⟩) qs.length cap]) rfl) (fun Wz2 nnz3 => ?_)
  have bz4 := nnz3.below (Below.refl _ _) (Nat.le_refl _)
  replace hB := below_after hB bz4
  have hz5 : At Wz2 w.heap.size (.cells #[.int .i64 p, .int .i64 n, .int .i64 m, .int .i64 k, .slice (some ⟨b0, off0, none⟩) qs.length cap] 28 (0, 0)) := nnz3.at_
  refine hK' _ _ ?_
  clear hK' K' nnz3 bz4
  go_frame
  refine ls_op rfl (fun K' hK' => ?_)
  have lz6 := hB.size
  have lz7 := hz5.lt
  refine wp_new (some 7) rfl (exec_box 39 _ rfl (u8s (form)) rfl) (fun Wz8 nnz9 => ?_)
  have bz10 := nnz9.below (Below.refl _ _) (Nat.le_refl _)
  replace hB := below_after hB bz10
  replace hz5 := hz5.after bz10
  have hz11 : At Wz8 Wz2.heap.size (.cells (u8s (form)) 39 (0, 0)) := nnz9.at_
  refine hK' _ _ ?_
  clear hK' K' nnz9 bz10
  go_frame
  refine ls_op rfl (fun K' hK' => ?_)
  have lz12 := hB.size
  have lz13 := hz5.lt
  have lz14 := hz11.lt
  refine wp_new (some 8) rfl (al_impl_Scheme rfl) (fun Wz15 nnz16 => ?_)
  have bz17 := nnz16.below (Below.refl _ _) (Nat.le_refl _)
  replace hB := below_after hB bz17
  replace hz5 := hz5.after bz17
  replace hz11 := hz11.after bz17
  have hz18 : At Wz15 Wz8.heap.size (.cells #[.int .i64 0, .int .i64 0, .int .i64 0, .int .i64 0, .slice none 0 0] 28 (0, 0)) := nnz16.at_
  refine hK' _ _ ?_
  clear hK' K' nnz16 bz17
  go_frame
  refine ls_ex (some 9) (.int .i64 0) rfl rfl (exec_assign _ rfl (.int .i64 0) rfl) ?_
  go_frame
  refine wpList_nil ?_
  go_upto_region 1 with (fail)
  refine wp_region_lit ?_
  refine ls_ex (some 13) (.agg #[.int .i64 p, .int .i64 n, .int .i64 m, .int .i64 k, .slice (some ⟨b0, off0, none⟩) qs.length cap]) rfl rfl (exec_load_all 28 _ rfl w.heap.size rfl _ _ _ hz5 Try.underlying28 rfl 5 (by kernel_rfl) rfl) ?_
  go_frame
  refine ls_op rfl (fun K' hK' => ?_)
  have lz21 := hB.size
  have lz22 := hz5.lt
  have lz23 := hz11.lt
  have lz24 := hz18.lt
  refine wp_call1 (some 14) rfl 25 _ _ rfl (fun args w => by kernel_rfl) _ rfl _ (HIs.out _ (hR.keep hB)) (fun e Wz19 h => ?_)
  obtain ⟨rfl, bz20⟩ := h
  replace hB := below_after hB bz20
  replace hz5 := hz5.after bz20
  replace hz11 := hz11.after bz20
  replace hz18 := hz18.after bz20
  rw [Hs.out]
  clear bz20
  refine ⟨_, rfl, ?_⟩
  refine hK' _ _ ?_
  clear hK' K'
  go_frame
  refine ls_ex (some 15) (.bool false) rfl rfl (exec_not _ _ rfl true rfl) ?_
  go_frame
  refine wpList_nil ?_
  go_upto_region 3 with (fail)
  refine wp_region_y (zs := []) (S := fun w' => Below w.heap.size w w' ∧ At w' w.heap.size (.cells #[.int .i64 p, .int .i64 n, .int .i64 m, .int .i64 k, .slice (some ⟨b0, off0, none⟩) qs.length cap] 28 (0, 0)) ∧ At w' Wz2.heap.size (.cells (u8s (form)) 39 (0, 0))) (S2 := fun w' => True) (by kernel_rfl) ?_
  change wpAnyY _ _ _ _ _ _ _ _ _ _ (World.drew _)
  generalize hwdz25 : World.drew _ = wdz25
  replace hB : Below w.heap.size w wdz25 := by rw [← hwdz25]; exact hB.drew
  replace hz5 : At wdz25 w.heap.size (.cells #[.int .i64 p, .int .i64 n, .int .i64 m, .int .i64 k, .slice (some ⟨b0, off0, none⟩) qs.length cap] 28 (0, 0)) := by rw [← hwdz25]; exact hz5
  replace hz11 : At wdz25 Wz2.heap.size (.cells (u8s (form)) 39 (0, 0)) := by rw [← hwdz25]; exact hz11
  replace hz18 : At wdz25 Wz8.heap.size (.cells #[.int .i64 0, .int .i64 0, .int .i64 0, .int .i64 0, .slice none 0 0] 28 (0, 0)) := by rw [← hwdz25]; exact hz18
  clear hwdz25
  refine y_yield 0 (some 17) (.agg #[.int .i64 p, .int .i64 n, .int .i64 m, .int .i64 k, .slice (some ⟨b0, off0, none⟩) qs.length cap]) rfl (by kernel_rfl) (by kernel_rfl) (by kernel_rfl) (fun _ _ _ h => h) rfl rfl ⟨hB, hz5, hz11⟩ (fun w' h' => exec_load_all 28 _ rfl w.heap.size rfl _ _ _ h'.2.1 Try.underlying28 rfl 5 (by kernel_rfl) rfl) ?_
  go_frame
  refine y_yield 1 (some 18) (.int .i64 i) rfl (by kernel_rfl) (by kernel_rfl) (by kernel_rfl) (fun _ _ _ h => h) rfl rfl ⟨hB, hz5, hz11⟩ (fun w' h' => exec_move _ rfl (.int .i64 i) rfl) ?_
  go_frame
  refine y_oper 2 (by kernel_rfl) rfl rfl (fun K' hK' => ?_)
  have lz28 := hB.size
  have lz29 := hz5.lt
  have lz30 := hz11.lt
  have lz31 := hz18.lt
  refine wp_call2 (some 19) rfl 36 _ _ _ rfl (fun args w => by kernel_rfl) _ _ rfl rfl _ (isProductIndex_c p n m k _ cap qs.length i _) (fun e Wz26 h => ?_)
  obtain ⟨rfl, bz27⟩ := h
  replace hB := below_after hB bz27
  replace hz5 := hz5.after bz27
  replace hz11 := hz11.after bz27
  replace hz18 := hz18.after bz27
  rw [Hi.out]
  clear bz27
  refine ⟨_, rfl, ?_⟩
  refine hK' _ _ ⟨hB, hz5, hz11⟩ (fun _ => trivial) ?_
  clear hK' K'
  go_frame
  refine y_yield 3 (some 20) (.bool false) rfl (by kernel_rfl) (by kernel_rfl) (by kernel_rfl) (fun _ _ _ h => h) rfl rfl ⟨hB, hz5, hz11⟩ (fun w' h' => exec_not _ _ rfl true rfl) ?_
  go_frame
  refine y_yield 4 (some 21) (.bool false) rfl (by kernel_rfl) (by kernel_rfl) (by kernel_rfl) (fun _ _ _ h => h) rfl rfl ⟨hB, hz5, hz11⟩ (fun w' h' => exec_move _ rfl (.bool false) rfl) ?_
  go_frame
  refine y_yield 5 (some 22) (.int .i64 1) rfl (by kernel_rfl) (by kernel_rfl) (by kernel_rfl) (fun _ _ _ h => h) rfl rfl ⟨hB, hz5, hz11⟩ (fun w' h' => exec_move _ rfl (.int .i64 1) rfl) ?_
  go_frame
  refine y_oper 6 (by kernel_rfl) rfl rfl (fun K' hK' => ?_)
  have lz34 := hB.size
  have lz35 := hz5.lt
  have lz36 := hz11.lt
  have lz37 := hz18.lt
  refine wp_call2 (some 23) rfl 47 _ _ _ rfl (fun args w => by kernel_rfl) _ _ rfl rfl _ (isIdx_c 1 3 _) (fun e Wz32 h => ?_)
  obtain ⟨rfl, rfl⟩ := h
  rw [show inI 1 3 = true from rfl]
  refine ⟨_, rfl, ?_⟩
  refine hK' _ _ ⟨hB, hz5, hz11⟩ (fun _ => trivial) ?_
  clear hK' K'
  go_frame
  refine y_yield 7 (some 24) (.bool false) rfl (by kernel_rfl) (by kernel_rfl) (by kernel_rfl) (fun _ _ _ h => h) rfl rfl ⟨hB, hz5, hz11⟩ (fun w' h' => exec_not _ _ rfl true rfl) ?_
  go_frame
  refine y_yield 8 (some 25) (.bool false) rfl (by kernel_rfl) (by kernel_rfl) (by kernel_rfl) (fun _ _ _ h => h) rfl rfl ⟨hB, hz5, hz11⟩ (fun w' h' => exec_pick _ _ _ rfl false rfl (.bool false) rfl) ?_
  go_frame
  refine y_yield 9 (some 26) (.bool false) rfl (by kernel_rfl) (by kernel_rfl) (by kernel_rfl) (fun _ _ _ h => h) rfl rfl ⟨hB, hz5, hz11⟩ (fun w' h' => exec_move _ rfl (.bool false) rfl) ?_
  go_frame
  refine y_yield 10 (some 27) (.pointer (some ⟨w.heap.size, 0, none⟩)) rfl (by kernel_rfl) (by kernel_rfl) (by kernel_rfl) (fun _ _ _ h => h) rfl rfl ⟨hB, hz5, hz11⟩ (fun w' h' => exec_fieldAddr 28 _ 0 rfl _ (by kernel_rfl)) ?_
  go_frame
  refine y_yield 11 (some 28) (.int .i64 p) rfl (by kernel_rfl) (by kernel_rfl) (by kernel_rfl) (fun _ _ _ h => h) rfl rfl ⟨hB, hz5, hz11⟩ (fun w' h' => exec_load_one 2 _ rfl w.heap.size 0 rfl (.int .i64 p) _ Try.underlying2 rfl (h'.2.1.at_ 0)) ?_
  go_frame
  refine y_yield 12 (some 29) (.agg #[.int .i64 p, .int .i64 n, .int .i64 m, .int .i64 k, .slice (some ⟨b0, off0, none⟩) qs.length cap]) rfl (by kernel_rfl) (by kernel_rfl) (by kernel_rfl) (fun _ _ _ h => h) rfl rfl ⟨hB, hz5, hz11⟩ (fun w' h' => exec_load_all 28 _ rfl w.heap.size rfl _ _ _ h'.2.1 Try.underlying28 rfl 5 (by kernel_rfl) rfl) ?_
  go_frame
  refine y_yield 14 (some 31) (.int .i64 1) rfl (by kernel_rfl) (by kernel_rfl) (by kernel_rfl) (fun _ _ _ h => h) rfl rfl ⟨hB, hz5, hz11⟩ (fun w' h' => exec_move _ rfl (.int .i64 1) rfl) ?_
  go_frame
  refine y_yield 16 (some 33) (.agg (u8s (form))) rfl (by kernel_rfl) (by kernel_rfl) (by kernel_rfl) (fun _ _ _ h => h) rfl rfl ⟨hB, hz5, hz11⟩ (fun w' h' => exec_load_all 39 _ rfl Wz2.heap.size rfl _ _ _ h'.2.2 Try.underlying39 rfl 9 (by kernel_rfl) ((u8s_size _).trans hfm.len)) ?_
  go_frame
  refine y_oper 13 (by kernel_rfl) rfl rfl (fun K' hK' => ?_)
  have lz40 := hB.size
  have lz41 := hz5.lt
  have lz42 := hz11.lt
  have lz43 := hz18.lt
  refine wp_call1 (some 30) rfl 49 _ _ rfl (fun args w => by kernel_rfl) _ rfl _ (shapesOf_c p n m k _ _) (fun e Wz38 h => ?_)
  obtain ⟨rfl, bz39⟩ := h
  replace hB := below_after hB bz39
  replace hz5 := hz5.after bz39
  replace hz11 := hz11.after bz39
  replace hz18 := hz18.after bz39
  clear bz39
  refine ⟨_, rfl, ?_⟩
  refine hK' _ _ ⟨hB, hz5, hz11⟩ (fun _ => trivial) ?_
  clear hK' K'
  go_frame
  refine y_yield 15 (some 32) (.agg #[.int .i64 m, .int .i64 k]) rfl (by kernel_rfl) (by kernel_rfl) (by kernel_rfl) (fun _ _ _ h => h) rfl rfl ⟨hB, hz5, hz11⟩ (fun w' h' => exec_index_part 77 76 _ _ rfl 3 1 2 _ #[.int .i64 m, .int .i64 k] _ rfl rfl Try.underlying77 Try.underlying76 rfl (by kernel_rfl) (by omega) rfl) ?_
  go_frame
  refine y_oper 17 (by kernel_rfl) rfl rfl (fun K' hK' => ?_)
  have lz46 := hB.size
  have lz47 := hz5.lt
  have lz48 := hz11.lt
  have lz49 := hz18.lt
  refine wp_call3 (some 34) rfl 48 _ _ _ _ rfl (fun args w => by kernel_rfl) _ _ _ rfl rfl rfl _ (isForm_c p m k form hp0 hsm hsk hfm _) (fun e Wz44 h => ?_)
  obtain ⟨rfl, bz45⟩ := h
  replace hB := below_after hB bz45
  replace hz5 := hz5.after bz45
  replace hz11 := hz11.after bz45
  replace hz18 := hz18.after bz45
  rw [Hm.out]
  clear bz45
  refine ⟨_, rfl, ?_⟩
  refine hK' _ _ ⟨hB, hz5, hz11⟩ (fun _ => trivial) ?_
  clear hK' K'
  go_frame
  refine y_yield 18 (some 35) (.bool false) rfl (by kernel_rfl) (by kernel_rfl) (by kernel_rfl) (fun _ _ _ h => h) rfl rfl ⟨hB, hz5, hz11⟩ (fun w' h' => exec_not _ _ rfl true rfl) ?_
  go_frame
  refine y_yield 19 (some 36) (.bool false) rfl (by kernel_rfl) (by kernel_rfl) (by kernel_rfl) (fun _ _ _ h => h) rfl rfl ⟨hB, hz5, hz11⟩ (fun w' h' => exec_pick _ _ _ rfl false rfl (.bool false) rfl) ?_
  go_frame
  refine y_done (by kernel_rfl) ?_ _
  go_upto_region 5 with (fail)
  refine wp_region_lit ?_
  refine ls_ex (some 38) (.pointer (some ⟨w.heap.size, 4, none⟩)) rfl rfl (exec_fieldAddr 28 _ 4 rfl _ (by kernel_rfl)) ?_
  go_frame
  refine ls_ex (some 39) (.slice (some ⟨b0, off0, none⟩) qs.length cap) rfl rfl (exec_load_one 26 _ rfl w.heap.size 4 rfl (.slice (some ⟨b0, off0, none⟩) qs.length cap) _ Try.underlying26 rfl (hz5.at_ 4)) ?_
  go_frame
  refine ls_ex (some 40) (.int .i64 i) rfl rfl (exec_move _ rfl (.int .i64 i) rfl) ?_
  go_frame
  refine ls_ex (some 41) (.pointer (some ⟨b0, off0 + i * 27, none⟩)) rfl rfl (exec_index_slice _ 58 _ _ rfl b0 off0 qs.length cap i 27 rfl rfl Try.underlying26 (by kernel_rfl) hilt) ?_
  go_frame
  refine ls_ex (some 42) (.agg (u8s (cat3 QA QB QC))) rfl rfl (exec_load_cells 58 _ rfl b0 (off0 + i * 27) rfl (cat3 QA QB QC) _ 27 (Hc.out _ hB) Try.underlying58 rfl (by kernel_rfl) (hq.len)) ?_
  go_frame
  refine ls_op rfl (fun K' hK' => ?_)
  have lz52 := hB.size
  have lz53 := hz5.lt
  have lz54 := hz11.lt
  have lz55 := hz18.lt
  refine wp_call1 (some 43) rfl 50 _ _ rfl (fun args w => by kernel_rfl) _ rfl _ (factorsOf_c (cat3 QA QB QC) hq _) (fun e Wz50 h => ?_)
  obtain ⟨rfl, bz51⟩ := h
  replace hB := below_after hB bz51
  replace hz5 := hz5.after bz51
  replace hz11 := hz11.after bz51
  replace hz18 := hz18.after bz51
  clear bz51
  refine ⟨_, rfl, ?_⟩
  refine hK' _ _ ?_
  clear hK' K'
  go_frame
  refine ls_op rfl (fun K' hK' => ?_)
  have lz56 := hB.size
  have lz57 := hz5.lt
  have lz58 := hz11.lt
  have lz59 := hz18.lt
  refine wp_new (some 10) rfl (al__3_impl_Form rfl) (fun Wz60 nnz61 => ?_)
  have bz62 := nnz61.below (Below.refl _ _) (Nat.le_refl _)
  replace hB := below_after hB bz62
  replace hz5 := hz5.after bz62
  replace hz11 := hz11.after bz62
  replace hz18 := hz18.after bz62
  have hz63 : At Wz60 Wz50.heap.size (.cells (u8s (List.replicate 27 0)) 79 (0, 0)) := nnz61.at_
  refine hK' _ _ ?_
  clear hK' K' nnz61 bz62
  go_frame
  refine ls_op rfl (fun K' hK' => ?_)
  refine wp_store_bytes 79 _ _ rfl rfl Wz50.heap.size rfl (cat3 QA QB QC) rfl _ _ hz63 27 (by kernel_rfl) hq.len (by simp) (fun Wz64 pz65 => ?_)
  replace hB := pz65.below hB (by omega)
  replace hz5 := pz65.other hz5 (by omega)
  replace hz11 := pz65.other hz11 (by omega)
  replace hz18 := pz65.other hz18 (by omega)
  replace hz63 : At Wz64 Wz50.heap.size (.cells (u8s (cat3 QA QB QC)) 79 (0, 0)) := pz65.at_
  refine hK' _ _ ?_
  clear hK' K' pz65
  refine wpList_nil ?_
  go_upto_region 6 with (fail)
  refine wp_region_y (zs := []) (S := fun w' => Below w.heap.size w w' ∧ At w' Wz2.heap.size (.cells (u8s (form)) 39 (0, 0)) ∧ At w' Wz50.heap.size (.cells (u8s (cat3 QA QB QC)) 79 (0, 0))) (S2 := fun w' => True) (by kernel_rfl) ?_
  change wpAnyY _ _ _ _ _ _ _ _ _ _ (World.drew _)
  generalize hwdz66 : World.drew _ = wdz66
  replace hB : Below w.heap.size w wdz66 := by rw [← hwdz66]; exact hB.drew
  replace hz5 : At wdz66 w.heap.size (.cells #[.int .i64 p, .int .i64 n, .int .i64 m, .int .i64 k, .slice (some ⟨b0, off0, none⟩) qs.length cap] 28 (0, 0)) := by rw [← hwdz66]; exact hz5
  replace hz11 : At wdz66 Wz2.heap.size (.cells (u8s (form)) 39 (0, 0)) := by rw [← hwdz66]; exact hz11
  replace hz18 : At wdz66 Wz8.heap.size (.cells #[.int .i64 0, .int .i64 0, .int .i64 0, .int .i64 0, .slice none 0 0] 28 (0, 0)) := by rw [← hwdz66]; exact hz18
  replace hz63 : At wdz66 Wz50.heap.size (.cells (u8s (cat3 QA QB QC)) 79 (0, 0)) := by rw [← hwdz66]; exact hz63
  clear hwdz66
  refine y_yield 0 (some 44) (.agg (u8s (form))) rfl (by kernel_rfl) (by kernel_rfl) (by kernel_rfl) (fun _ _ _ h => h) rfl rfl ⟨hB, hz11, hz63⟩ (fun w' h' => exec_load_all 39 _ rfl Wz2.heap.size rfl _ _ _ h'.2.1 Try.underlying39 rfl 9 (by kernel_rfl) ((u8s_size _).trans hfm.len)) ?_
  go_frame
  refine y_yield 1 (some 45) (.agg (u8s (List.replicate 9 0))) rfl (by kernel_rfl) (by kernel_rfl) (by kernel_rfl) (fun _ _ _ h => h) rfl rfl ⟨hB, hz11, hz63⟩ (fun w' h' => exec_build_nil 39 rfl _ (by kernel_rfl)) ?_
  go_frame
  refine y_yield 2 (some 46) (.bool false) rfl (by kernel_rfl) (by kernel_rfl) (by kernel_rfl) (fun _ _ _ h => h) rfl rfl ⟨hB, hz11, hz63⟩ (fun w' h' => exec_eql_u8s_b 39 _ _ _ _ rfl 9 Try.underlying39 Try.underlying5 (by kernel_rfl) (by kernel_rfl) (form) (List.replicate 9 0) rfl rfl hfm.len (by simp) false Hzf.out) ?_
  go_frame
  refine y_yield 3 (some 47) (.bool false) rfl (by kernel_rfl) (by kernel_rfl) (by kernel_rfl) (fun _ _ _ h => h) rfl rfl ⟨hB, hz11, hz63⟩ (fun w' h' => exec_move _ rfl (.bool false) rfl) ?_
  go_frame
  refine y_yield 4 (some 48) (.agg (u8s (form))) rfl (by kernel_rfl) (by kernel_rfl) (by kernel_rfl) (fun _ _ _ h => h) rfl rfl ⟨hB, hz11, hz63⟩ (fun w' h' => exec_load_all 39 _ rfl Wz2.heap.size rfl _ _ _ h'.2.1 Try.underlying39 rfl 9 (by kernel_rfl) ((u8s_size _).trans hfm.len)) ?_
  go_frame
  refine y_yield 5 (some 49) (.int .i64 1) rfl (by kernel_rfl) (by kernel_rfl) (by kernel_rfl) (fun _ _ _ h => h) rfl rfl ⟨hB, hz11, hz63⟩ (fun w' h' => exec_move _ rfl (.int .i64 1) rfl) ?_
  go_frame
  refine y_yield 6 (some 50) (.pointer (some ⟨Wz50.heap.size, 9, none⟩)) rfl (by kernel_rfl) (by kernel_rfl) (by kernel_rfl) (fun _ _ _ h => h) rfl rfl ⟨hB, hz11, hz63⟩ (fun w' h' => exec_index_arr _ 39 _ _ rfl Wz50.heap.size 0 3 1 9 rfl rfl Try.underlying79 (by kernel_rfl) (by omega)) ?_
  go_frame
  refine y_yield 7 (some 51) (.agg (u8s (QB))) rfl (by kernel_rfl) (by kernel_rfl) (by kernel_rfl) (fun _ _ _ h => h) rfl rfl ⟨hB, hz11, hz63⟩ (fun w' h' => exec_load_seg 39 _ rfl Wz50.heap.size (9) rfl _ (cat3 QA QB QC) _ 9 h'.2.2 Try.underlying39 rfl (by kernel_rfl) (by rw [hq.len]; omega) (QB) (segm_b hQA.len hQB.len)) ?_
  go_frame
  refine y_yield 8 (some 52) (.bool false) rfl (by kernel_rfl) (by kernel_rfl) (by kernel_rfl) (fun _ _ _ h => h) rfl rfl ⟨hB, hz11, hz63⟩ (fun w' h' => exec_eql_u8s_b 39 _ _ _ _ rfl 9 Try.underlying39 Try.underlying5 (by kernel_rfl) (by kernel_rfl) (form) (QB) rfl rfl hfm.len hQB.len false Heq.out) ?_
  go_frame
  refine y_yield 9 (some 53) (.bool false) rfl (by kernel_rfl) (by kernel_rfl) (by kernel_rfl) (fun _ _ _ h => h) rfl rfl ⟨hB, hz11, hz63⟩ (fun w' h' => exec_pick _ _ _ rfl false rfl (.bool false) rfl) ?_
  go_frame
  refine y_done (by kernel_rfl) ?_ _
  go_upto_region 8 with (fail)
  refine wp_region_lit ?_
  refine ls_ex (some 55) (.pointer (some ⟨w.heap.size, 4, none⟩)) rfl rfl (exec_fieldAddr 28 _ 4 rfl _ (by kernel_rfl)) ?_
  go_frame
  refine ls_ex (some 56) (.slice (some ⟨b0, off0, none⟩) qs.length cap) rfl rfl (exec_load_one 26 _ rfl w.heap.size 4 rfl (.slice (some ⟨b0, off0, none⟩) qs.length cap) _ Try.underlying26 rfl (hz5.at_ 4)) ?_
  go_frame
  refine ls_ex (some 57) (.int .i64 qs.length) rfl rfl (exec_len _ 26 58 rfl ((some ⟨b0, off0, none⟩)) qs.length cap rfl Try.underlying26) ?_
  go_frame
  refine ls_ex (some 58) (.bool false) rfl rfl (exec_eql _ _ _ _ rfl qs.length 30 rfl rfl false Hlen.out) ?_
  go_frame
  refine wpList_nil ?_
  go_upto_region 10 with (fail)
  refine wp_region_lit ?_
  refine ls_ex (some 60) (.agg (u8s (cat3 QA QB QC))) rfl rfl (exec_load_all 79 _ rfl Wz50.heap.size rfl _ _ _ hz63 Try.underlying79 rfl 27 (by kernel_rfl) ((u8s_size _).trans hq.len)) ?_
  go_frame
  refine ls_op rfl (fun K' hK' => ?_)
  have lz67 := hB.size
  have lz68 := hz5.lt
  have lz69 := hz11.lt
  have lz70 := hz18.lt
  have lz71 := hz63.lt
  refine wp_new (some 11) rfl (al__3_impl_Form rfl) (fun Wz72 nnz73 => ?_)
  have bz74 := nnz73.below (Below.refl _ _) (Nat.le_refl _)
  replace hB := below_after hB bz74
  replace hz5 := hz5.after bz74
  replace hz11 := hz11.after bz74
  replace hz18 := hz18.after bz74
  replace hz63 := hz63.after bz74
  have hz75 : At Wz72 wdz66.heap.size (.cells (u8s (List.replicate 27 0)) 79 (0, 0)) := nnz73.at_
  refine hK' _ _ ?_
  clear hK' K' nnz73 bz74
  go_frame
  refine ls_op rfl (fun K' hK' => ?_)
  refine wp_store_bytes 79 _ _ rfl rfl wdz66.heap.size rfl (cat3 QA QB QC) rfl _ _ hz75 27 (by kernel_rfl) hq.len (by simp) (fun Wz76 pz77 => ?_)
  replace hB := pz77.below hB (by omega)
  replace hz5 := pz77.other hz5 (by omega)
  replace hz11 := pz77.other hz11 (by omega)
  replace hz18 := pz77.other hz18 (by omega)
  replace hz63 := pz77.other hz63 (by omega)
  replace hz75 : At Wz76 wdz66.heap.size (.cells (u8s (cat3 QA QB QC)) 79 (0, 0)) := pz77.at_
  refine hK' _ _ ?_
  clear hK' K' pz77
  refine wpList_nil ?_
  go_upto_region 11 with (fail)
  refine wp_region_y (zs := [11, 12, 13]) (S := fun w' => Below w.heap.size w w' ∧ At w' Wz2.heap.size (.cells (u8s (form)) 39 (0, 0)) ∧ At w' w.heap.size (.cells #[.int .i64 p, .int .i64 n, .int .i64 m, .int .i64 k, .slice (some ⟨b0, off0, none⟩) qs.length cap] 28 (0, 0))) (S2 := fun w' => At w' Wz50.heap.size (.cells (u8s (cat3 QA QB QC)) 79 (0, 0))) (by kernel_rfl) ?_
  change wpAnyY _ _ _ _ _ _ _ _ _ _ (World.drew _)
  generalize hwdz78 : World.drew _ = wdz78
  replace hB : Below w.heap.size w wdz78 := by rw [← hwdz78]; exact hB.drew
  replace hz5 : At wdz78 w.heap.size (.cells #[.int .i64 p, .int .i64 n, .int .i64 m, .int .i64 k, .slice (some ⟨b0, off0, none⟩) qs.length cap] 28 (0, 0)) := by rw [← hwdz78]; exact hz5
  replace hz11 : At wdz78 Wz2.heap.size (.cells (u8s (form)) 39 (0, 0)) := by rw [← hwdz78]; exact hz11
  replace hz18 : At wdz78 Wz8.heap.size (.cells #[.int .i64 0, .int .i64 0, .int .i64 0, .int .i64 0, .slice none 0 0] 28 (0, 0)) := by rw [← hwdz78]; exact hz18
  replace hz63 : At wdz78 Wz50.heap.size (.cells (u8s (cat3 QA QB QC)) 79 (0, 0)) := by rw [← hwdz78]; exact hz63
  replace hz75 : At wdz78 wdz66.heap.size (.cells (u8s (cat3 QA QB QC)) 79 (0, 0)) := by rw [← hwdz78]; exact hz75
  clear hwdz78
  refine y_yield 0 (some 61) (.int .i64 1) rfl (by kernel_rfl) (by kernel_rfl) (by kernel_rfl) (fun _ _ _ h => h) rfl rfl ⟨hB, hz11, hz5⟩ (fun w' h' => exec_move _ rfl (.int .i64 1) rfl) ?_
  go_frame
  refine y_yield 1 (some 62) (.int .i64 1) rfl (by kernel_rfl) (by kernel_rfl) (by kernel_rfl) (fun _ _ _ h => h) rfl rfl ⟨hB, hz11, hz5⟩ (fun w' h' => exec_move _ rfl (.int .i64 1) rfl) ?_
  go_frame
  refine y_yield 2 (some 63) (.agg (u8s (form))) rfl (by kernel_rfl) (by kernel_rfl) (by kernel_rfl) (fun _ _ _ h => h) rfl rfl ⟨hB, hz11, hz5⟩ (fun w' h' => exec_load_all 39 _ rfl Wz2.heap.size rfl _ _ _ h'.2.1 Try.underlying39 rfl 9 (by kernel_rfl) ((u8s_size _).trans hfm.len)) ?_
  go_frame
  refine y_yield 3 (some 64) (.pointer (some ⟨w.heap.size, 0, none⟩)) rfl (by kernel_rfl) (by kernel_rfl) (by kernel_rfl) (fun _ _ _ h => h) rfl rfl ⟨hB, hz11, hz5⟩ (fun w' h' => exec_fieldAddr 28 _ 0 rfl _ (by kernel_rfl)) ?_
  go_frame
  refine y_yield 4 (some 65) (.int .i64 p) rfl (by kernel_rfl) (by kernel_rfl) (by kernel_rfl) (fun _ _ _ h => h) rfl rfl ⟨hB, hz11, hz5⟩ (fun w' h' => exec_load_one 2 _ rfl w.heap.size 0 rfl (.int .i64 p) _ Try.underlying2 rfl (h'.2.2.at_ 0)) ?_
  go_frame
  refine y_yield 5 (some 66) (.int .i64 1) rfl (by kernel_rfl) (by kernel_rfl) (by kernel_rfl) (fun _ _ _ h => h) rfl rfl ⟨hB, hz11, hz5⟩ (fun w' h' => exec_move _ rfl (.int .i64 1) rfl) ?_
  go_frame
  refine y_yield 6 (some 67) (.pointer (some ⟨Wz50.heap.size, 9, none⟩)) rfl (by kernel_rfl) (by kernel_rfl) (by kernel_rfl) (fun _ _ _ h => h) rfl rfl ⟨hB, hz11, hz5⟩ (fun w' h' => exec_index_arr _ 39 _ _ rfl Wz50.heap.size 0 3 1 9 rfl rfl Try.underlying79 (by kernel_rfl) (by omega)) ?_
  go_frame
  refine y_yield2 7 (some 68) (.agg (u8s (QB))) rfl (by kernel_rfl) (by kernel_rfl) (by kernel_rfl) (by kernel_rfl) (fun _ _ _ h => h) rfl rfl ⟨hB, hz11, hz5⟩ hz63 (fun w' h' h2' => exec_load_seg 39 _ rfl Wz50.heap.size (9) rfl _ (cat3 QA QB QC) _ 9 h2' Try.underlying39 rfl (by kernel_rfl) (by rw [hq.len]; omega) (QB) (segm_b hQA.len hQB.len)) ?_
  go_frame
  refine y_yield 8 (some 69) (.agg (u8s (form))) rfl (by kernel_rfl) (by kernel_rfl) (by kernel_rfl) (fun _ _ _ h => h) rfl rfl ⟨hB, hz11, hz5⟩ (fun w' h' => exec_load_all 39 _ rfl Wz2.heap.size rfl _ _ _ h'.2.1 Try.underlying39 rfl 9 (by kernel_rfl) ((u8s_size _).trans hfm.len)) ?_
  go_frame
  refine y_yield 10 (some 71) (.pointer (some ⟨Wz50.heap.size, 9, none⟩)) rfl (by kernel_rfl) (by kernel_rfl) (by kernel_rfl) (fun _ _ _ h => h) rfl rfl ⟨hB, hz11, hz5⟩ (fun w' h' => exec_index_arr _ 39 _ _ rfl Wz50.heap.size 0 3 1 9 rfl rfl Try.underlying79 (by kernel_rfl) (by omega)) ?_
  go_frame
  refine y_oper 9 (by kernel_rfl) rfl rfl (fun K' hK' => ?_)
  have lz81 := hB.size
  have lz82 := hz5.lt
  have lz83 := hz11.lt
  have lz84 := hz18.lt
  have lz85 := hz63.lt
  have lz86 := hz75.lt
  refine wp_call3 (some 70) rfl 37 _ _ _ _ rfl (fun args w => by kernel_rfl) _ _ _ rfl rfl rfl _ (HSub.out _) (fun e Wz79 h => ?_)
  obtain ⟨rfl, bz80⟩ := h
  replace hB := below_after hB bz80
  replace hz5 := hz5.after bz80
  replace hz11 := hz11.after bz80
  replace hz18 := hz18.after bz80
  replace hz63 := hz63.after bz80
  replace hz75 := hz75.after bz80
  clear bz80
  refine ⟨_, rfl, ?_⟩
  refine hK' _ _ ⟨hB, hz11, hz5⟩ (fun _ => hz63) ?_
  clear hK' K'
  go_frame
  refine y_oper 11 (by kernel_rfl) rfl rfl (fun K' hK' => ?_)
  refine wp_store_u8s 39 _ _ rfl rfl Wz50.heap.size (9) rfl (form) rfl _ _ hz63 9 (by kernel_rfl) hfm.len (by rw [hq.len]; omega) (fun Wz87 pz88 => ?_)
  replace hB := pz88.below hB (by omega)
  replace hz5 := pz88.other hz5 (by omega)
  replace hz11 := pz88.other hz11 (by omega)
  replace hz18 := pz88.other hz18 (by omega)
  replace hz75 := pz88.other hz75 (by omega)
  replace hz63 : At Wz87 Wz50.heap.size (.cells (u8s (cat3 QA form QC)) 79 (0, 0)) := by have h9 := pz88.at_; rwa [over_b hQA.len hQB.len hfm.len] at h9
  refine hK' _ _ ⟨hB, hz11, hz5⟩ (fun h => absurd (by decide) h) ?_
  clear hK' K' pz88
  refine y_exec 12 (some 72) (.pointer (some ⟨wdz66.heap.size, 9, none⟩)) (by kernel_rfl) rfl rfl rfl (exec_index_arr _ 39 _ _ rfl wdz66.heap.size 0 3 1 9 rfl rfl Try.underlying79 (by kernel_rfl) (by omega)) ⟨hB, hz11, hz5⟩ (fun h => absurd (by decide) h) ?_
  go_frame
  refine y_oper 13 (by kernel_rfl) rfl rfl (fun K' hK' => ?_)
  refine wp_store_u8s 39 _ _ rfl rfl wdz66.heap.size (9) rfl (G) rfl _ _ hz75 9 (by kernel_rfl) hG.len (by rw [hq.len]; omega) (fun Wz90 pz91 => ?_)
  replace hB := pz91.below hB (by omega)
  replace hz5 := pz91.other hz5 (by omega)
  replace hz11 := pz91.other hz11 (by omega)
  replace hz18 := pz91.other hz18 (by omega)
  replace hz63 := pz91.other hz63 (by omega)
  replace hz75 : At Wz90 wdz66.heap.size (.cells (u8s (cat3 QA G QC)) 79 (0, 0)) := by have h9 := pz91.at_; rwa [over_b hQA.len hQB.len hG.len] at h9
  refine hK' _ _ ⟨hB, hz11, hz5⟩ (fun h => absurd (by decide) h) ?_
  clear hK' K' pz91
  refine y_done (by kernel_rfl) ?_ _
  go_upto_region 12 with (fail)
  go_cut [12] from 73 to 81 (fun s12 wx => ∃ gm c3 b12 : Nat, s12 = .pointer (some ⟨b12, 0, none⟩) ∧ w.heap.size < gm ∧ w.heap.size < b12 ∧ Wz2.heap.size < gm ∧ Wz2.heap.size < b12 ∧ Wz8.heap.size < gm ∧ Wz8.heap.size < b12 ∧ Wz50.heap.size < gm ∧ Wz50.heap.size < b12 ∧ wdz66.heap.size < gm ∧ wdz66.heap.size < b12 ∧ gm ≠ b12 ∧ Below w.heap.size w wx ∧ At wx w.heap.size (.cells #[.int .i64 p, .int .i64 n, .int .i64 m, .int .i64 k, .slice (some ⟨b0, off0, none⟩) qs.length cap] 28 (0, 0)) ∧ At wx Wz8.heap.size (.cells #[.int .i64 0, .int .i64 0, .int .i64 0, .int .i64 0, .slice none 0 0] 28 (0, 0)) ∧ At wx Wz50.heap.size (.cells (u8s (cat3 QA form QC)) 79 (0, 0)) ∧ At wx b12 (.cells #[.int .i64 p, .int .i64 n, .int .i64 m, .int .i64 k, .slice (some ⟨gm, 0, none⟩) M0.length c3] 28 (0, 0)) ∧ Own wx (w.heap.size) (.slice (some ⟨gm, 0, none⟩) M0.length c3) M0)
  case first =>
    refine wp_region_y (zs := []) (S := fun w' => Below w.heap.size w w' ∧ At w' w.heap.size (.cells #[.int .i64 p, .int .i64 n, .int .i64 m, .int .i64 k, .slice (some ⟨b0, off0, none⟩) qs.length cap] 28 (0, 0)) ∧ At w' wdz66.heap.size (.cells (u8s (cat3 QA G QC)) 79 (0, 0))) (S2 := fun w' => True) (by kernel_rfl) ?_
    change wpAnyY _ _ _ _ _ _ _ _ _ _ (World.drew _)
    generalize hwdz93 : World.drew _ = wdz93
    replace hB : Below w.heap.size w wdz93 := by rw [← hwdz93]; exact hB.drew
    replace hz5 : At wdz93 w.heap.size (.cells #[.int .i64 p, .int .i64 n, .int .i64 m, .int .i64 k, .slice (some ⟨b0, off0, none⟩) qs.length cap] 28 (0, 0)) := by rw [← hwdz93]; exact hz5
    replace hz11 : At wdz93 Wz2.heap.size (.cells (u8s (form)) 39 (0, 0)) := by rw [← hwdz93]; exact hz11
    replace hz18 : At wdz93 Wz8.heap.size (.cells #[.int .i64 0, .int .i64 0, .int .i64 0, .int .i64 0, .slice none 0 0] 28 (0, 0)) := by rw [← hwdz93]; exact hz18
    replace hz63 : At wdz93 Wz50.heap.size (.cells (u8s (cat3 QA form QC)) 79 (0, 0)) := by rw [← hwdz93]; exact hz63
    replace hz75 : At wdz93 wdz66.heap.size (.cells (u8s (cat3 QA G QC)) 79 (0, 0)) := by rw [← hwdz93]; exact hz75
    clear hwdz93
    refine y_yield 0 (some 73) (.agg #[.int .i64 p, .int .i64 n, .int .i64 m, .int .i64 k, .slice (some ⟨b0, off0, none⟩) qs.length cap]) rfl (by kernel_rfl) (by kernel_rfl) (by kernel_rfl) (fun _ _ _ h => h) rfl rfl ⟨hB, hz5, hz75⟩ (fun w' h' => exec_load_all 28 _ rfl w.heap.size rfl _ _ _ h'.2.1 Try.underlying28 rfl 5 (by kernel_rfl) rfl) ?_
    go_frame
    refine y_yield 1 (some 74) (.pointer (some ⟨w.heap.size, 4, none⟩)) rfl (by kernel_rfl) (by kernel_rfl) (by kernel_rfl) (fun _ _ _ h => h) rfl rfl ⟨hB, hz5, hz75⟩ (fun w' h' => exec_fieldAddr 28 _ 4 rfl _ (by kernel_rfl)) ?_
    go_frame
    refine y_yield 2 (some 75) (.slice (some ⟨b0, off0, none⟩) qs.length cap) rfl (by kernel_rfl) (by kernel_rfl) (by kernel_rfl) (fun _ _ _ h => h) rfl rfl ⟨hB, hz5, hz75⟩ (fun w' h' => exec_load_one 26 _ rfl w.heap.size 4 rfl (.slice (some ⟨b0, off0, none⟩) qs.length cap) _ Try.underlying26 rfl (h'.2.1.at_ 4)) ?_
    go_frame
    refine y_yield 3 (some 76) (.agg (u8s (cat3 QA G QC))) rfl (by kernel_rfl) (by kernel_rfl) (by kernel_rfl) (fun _ _ _ h => h) rfl rfl ⟨hB, hz5, hz75⟩ (fun w' h' => exec_load_all 79 _ rfl wdz66.heap.size rfl _ _ _ h'.2.2 Try.underlying79 rfl 27 (by kernel_rfl) ((u8s_size _).trans hN2.len)) ?_
    go_frame
    refine y_two 4 8 (by kernel_rfl) rfl rfl rfl rfl (fun K' hK' => ?_) (fun K' hK' => ?_)
    · have lz96 := hB.size
      have lz97 := hz5.lt
      have lz98 := hz11.lt
      have lz99 := hz18.lt
      have lz100 := hz63.lt
      have lz101 := hz75.lt
      refine wp_call1 (some 77) rfl 51 _ _ rfl (fun args w => by kernel_rfl) _ rfl _ (productOf_c (cat3 QA G QC) hN2 _) (fun e Wz94 h => ?_)
      obtain ⟨rfl, bz95⟩ := h
      replace hB := below_after hB bz95
      replace hz5 := hz5.after bz95
      replace hz11 := hz11.after bz95
      replace hz18 := hz18.after bz95
      replace hz63 := hz63.after bz95
      replace hz75 := hz75.after bz95
      clear bz95
      refine ⟨_, rfl, ?_⟩
      refine hK' _ _ ⟨hB, hz5, hz75⟩ (fun _ => trivial) ?_
      clear hK' K'
      go_frame
      refine y_two 5 8 (by kernel_rfl) rfl rfl rfl rfl (fun K' hK' => ?_) (fun K' hK' => ?_)
      · have lz106 := hB.size
        have lz107 := hz5.lt
        have lz108 := hz11.lt
        have lz109 := hz18.lt
        have lz110 := hz63.lt
        have lz111 := hz75.lt
        refine wp_slice1 (some 78) rfl 26 58 _ rfl (cat3 QA G QC) rfl Try.underlying26 infoProd hN2.len (fun Wz102 nnz103 => ?_)
        have bz104 := nnz103.below (Below.refl _ _) (Nat.le_refl _)
        have hrdz105 := Rd.one nnz103 (hN2)
        replace hB := below_after hB bz104
        replace hz5 := hz5.after bz104
        replace hz11 := hz11.after bz104
        replace hz18 := hz18.after bz104
        replace hz63 := hz63.after bz104
        replace hz75 := hz75.after bz104
        refine hK' _ _ ⟨hB, hz5, hz75⟩ (fun _ => trivial) ?_
        clear hK' K' nnz103 bz104
        go_frame
        refine y_two 6 8 (by kernel_rfl) rfl rfl rfl rfl (fun K' hK' => ?_) (fun K' hK' => ?_)
        · have lz112 := hB.size
          have lz113 := hz5.lt
          have lz114 := hz11.lt
          have lz115 := hz18.lt
          have lz116 := hz63.lt
          have lz117 := hz75.lt
          refine wp_new (some 79) rfl (exec_bs2 _ _ rfl ((some ⟨b0, off0, none⟩)) ((some ⟨Wz94.heap.size, 0, none⟩)) qs.length 1 cap 1 rfl rfl) (fun Wz118 nnz119 => ?_)
          have bz120 := nnz119.below (Below.refl _ _) (Nat.le_refl _)
          replace hB := below_after hB bz120
          replace hz5 := hz5.after bz120
          replace hz11 := hz11.after bz120
          replace hz18 := hz18.after bz120
          replace hz63 := hz63.after bz120
          replace hz75 := hz75.after bz120
          replace hrdz105 := hrdz105.keep bz120
          have hz121 : At Wz118 Wz102.heap.size (.cells #[.slice (some ⟨b0, off0, none⟩) qs.length cap, .slice (some ⟨Wz94.heap.size, 0, none⟩) 1 1] 26 (0, 0)) := nnz119.at_
          refine hK' _ _ ⟨hB, hz5, hz75⟩ (fun _ => trivial) ?_
          clear hK' K' nnz119 bz120
          go_frame
          refine y_two 7 8 (by kernel_rfl) rfl rfl rfl rfl (fun K' hK' => ?_) (fun K' hK' => ?_)
          · have lz124 := hB.size
            have lz125 := hz5.lt
            have lz126 := hz11.lt
            have lz127 := hz18.lt
            have lz128 := hz63.lt
            have lz129 := hz75.lt
            have lz130 := hz121.lt
            have lo3 := hB.size
            refine wp_call2 (some 80) rfl 38 _ _ _ rfl (fun args w => by kernel_rfl) _ _ rfl rfl _ (withProducts2_c p n m k _ rfl (Wz102.heap.size) (some ⟨b0, off0, none⟩) (some ⟨Wz94.heap.size, 0, none⟩) cap 1 qs [cat3 QA G QC] _ hz121 (hR.keep hB) (by simp) hrdz105 (by simp) (by simp; omega)) (fun e Wz122 h => ?_)
            obtain ⟨v3, rfl, ho, bz123⟩ := h
            replace hB := below_after hB bz123
            replace hz5 := hz5.after bz123
            replace hz11 := hz11.after bz123
            replace hz18 := hz18.after bz123
            replace hz63 := hz63.after bz123
            replace hz75 := hz75.after bz123
            replace hrdz105 := hrdz105.keep bz123
            replace hz121 := hz121.after bz123
            rw [HM0e.out] at ho
            obtain ⟨A3, c3, rfl, _⟩ := ho.rd HM0b.out
            obtain ⟨gm, rfl, hgm⟩ := ho.blk (by omega)
            clear bz123
            refine ⟨_, rfl, ?_⟩
            refine hK' _ _ ⟨hB, hz5, hz75⟩ (fun _ => trivial) ?_
            clear hK' K'
            go_frame
            refine y_oper 8 (by kernel_rfl) rfl rfl (fun K' hK' => ?_)
            have lz131 := hB.size
            have lz132 := hz5.lt
            have lz133 := hz11.lt
            have lz134 := hz18.lt
            have lz135 := hz63.lt
            have lz136 := hz75.lt
            have lz137 := hz121.lt
            have naz142 := ho.away_new
            refine wp_new (some 12) rfl (al_impl_Scheme rfl) (fun Wz138 nnz139 => ?_)
            have bz140 := nnz139.below (Below.refl _ _) (Nat.le_refl _)
            replace hB := below_after hB bz140
            replace hz5 := hz5.after bz140
            replace hz11 := hz11.after bz140
            replace hz18 := hz18.after bz140
            replace hz63 := hz63.after bz140
            replace hz75 := hz75.after bz140
            replace hrdz105 := hrdz105.keep bz140
            replace hz121 := hz121.after bz140
            replace ho := ho.below bz140
            have hz141 : At Wz138 Wz122.heap.size (.cells #[.int .i64 0, .int .i64 0, .int .i64 0, .int .i64 0, .slice none 0 0] 28 (0, 0)) := nnz139.at_
            refine hK' _ _ ⟨hB, hz5, hz75⟩ (fun _ => trivial) ?_
            clear hK' K' nnz139 bz140
            go_frame
            refine y_oper 9 (by kernel_rfl) rfl rfl (fun K' hK' => ?_)
            refine wp_store_all 28 _ _ rfl rfl Wz122.heap.size rfl #[.int .i64 p, .int .i64 n, .int .i64 m, .int .i64 k, .slice (some ⟨gm, 0, none⟩) M0.length c3] rfl _ _ hz141 5 (by kernel_rfl) rfl rfl (one5 _ _ _ _ _ _ _) (fun Wz143 pz144 => ?_)
            replace hB := pz144.below hB (by omega)
            replace hz5 := pz144.other hz5 (by omega)
            replace hz11 := pz144.other hz11 (by omega)
            replace hz18 := pz144.other hz18 (by omega)
            replace hz63 := pz144.other hz63 (by omega)
            replace hz75 := pz144.other hz75 (by omega)
            replace hz121 := pz144.other hz121 (by omega)
            replace ho := ho.put pz144 naz142
            replace hz141 : At Wz143 Wz122.heap.size (.cells #[.int .i64 p, .int .i64 n, .int .i64 m, .int .i64 k, .slice (some ⟨gm, 0, none⟩) M0.length c3] 28 (0, 0)) := pz144.at_
            refine hK' _ _ ⟨hB, hz5, hz75⟩ (fun _ => trivial) ?_
            clear hK' K' pz144
            refine y_done (by kernel_rfl) ?_ _
            go_wp2_with fail
            go_meet
            have lgm := (ho.lt rfl).2
            have ngm : gm ≠ Wz122.heap.size := fun e => naz142 (by rw [← e]; rfl)
            exact ⟨gm, c3, _, rfl, by omega, by omega, by omega, by omega, by omega, by omega, by omega, by omega, by omega, by omega, ngm, hB, hz5, hz18, hz63, hz141, ho.mono (by omega)⟩
          · have lz145 := hB.size
            have lz146 := hz5.lt
            have lz147 := hz11.lt
            have lz148 := hz18.lt
            have lz149 := hz63.lt
            have lz150 := hz75.lt
            have lz151 := hz121.lt
            refine wp_new (some 12) rfl (al_impl_Scheme rfl) (fun Wz152 nnz153 => ?_)
            have bz154 := nnz153.below (Below.refl _ _) (Nat.le_refl _)
            replace hB := below_after hB bz154
            replace hz5 := hz5.after bz154
            replace hz11 := hz11.after bz154
            replace hz18 := hz18.after bz154
            replace hz63 := hz63.after bz154
            replace hz75 := hz75.after bz154
            replace hrdz105 := hrdz105.keep bz154
            replace hz121 := hz121.after bz154
            have hz155 : At Wz152 Wz118.heap.size (.cells #[.int .i64 0, .int .i64 0, .int .i64 0, .int .i64 0, .slice none 0 0] 28 (0, 0)) := nnz153.at_
            refine hK' _ _ ⟨hB, hz5, hz75⟩ (fun _ => trivial) ?_
            clear hK' K' nnz153 bz154
            go_frame
            refine y_oper 7 (by kernel_rfl) rfl rfl (fun K' hK' => ?_)
            have lz158 := hB.size
            have lz159 := hz5.lt
            have lz160 := hz11.lt
            have lz161 := hz18.lt
            have lz162 := hz63.lt
            have lz163 := hz75.lt
            have lz164 := hz121.lt
            have lz165 := hz155.lt
            have lo3 := hB.size
            refine wp_call2 (some 80) rfl 38 _ _ _ rfl (fun args w => by kernel_rfl) _ _ rfl rfl _ (withProducts2_c p n m k _ rfl (Wz102.heap.size) (some ⟨b0, off0, none⟩) (some ⟨Wz94.heap.size, 0, none⟩) cap 1 qs [cat3 QA G QC] _ hz121 (hR.keep hB) (by simp) hrdz105 (by simp) (by simp; omega)) (fun e Wz156 h => ?_)
            obtain ⟨v3, rfl, ho, bz157⟩ := h
            replace hB := below_after hB bz157
            replace hz5 := hz5.after bz157
            replace hz11 := hz11.after bz157
            replace hz18 := hz18.after bz157
            replace hz63 := hz63.after bz157
            replace hz75 := hz75.after bz157
            replace hrdz105 := hrdz105.keep bz157
            replace hz121 := hz121.after bz157
            replace hz155 := hz155.after bz157
            rw [HM0e.out] at ho
            obtain ⟨A3, c3, rfl, _⟩ := ho.rd HM0b.out
            obtain ⟨gm, rfl, hgm⟩ := ho.blk (by omega)
            clear bz157
            refine ⟨_, rfl, ?_⟩
            refine hK' _ _ ⟨hB, hz5, hz75⟩ (fun _ => trivial) ?_
            clear hK' K'
            go_frame
            refine y_oper 9 (by kernel_rfl) rfl rfl (fun K' hK' => ?_)
            refine wp_store_all 28 _ _ rfl rfl Wz118.heap.size rfl #[.int .i64 p, .int .i64 n, .int .i64 m, .int .i64 k, .slice (some ⟨gm, 0, none⟩) M0.length c3] rfl _ _ hz155 5 (by kernel_rfl) rfl rfl (one5 _ _ _ _ _ _ _) (fun Wz166 pz167 => ?_)
            replace hB := pz167.below hB (by omega)
            replace hz5 := pz167.other hz5 (by omega)
            replace hz11 := pz167.other hz11 (by omega)
            replace hz18 := pz167.other hz18 (by omega)
            replace hz63 := pz167.other hz63 (by omega)
            replace hz75 := pz167.other hz75 (by omega)
            replace hz121 := pz167.other hz121 (by omega)
            replace ho := ho.put pz167 (ho.ne_lt (by omega))
            replace hz155 : At Wz166 Wz118.heap.size (.cells #[.int .i64 p, .int .i64 n, .int .i64 m, .int .i64 k, .slice (some ⟨gm, 0, none⟩) M0.length c3] 28 (0, 0)) := pz167.at_
            refine hK' _ _ ⟨hB, hz5, hz75⟩ (fun _ => trivial) ?_
            clear hK' K' pz167
            refine y_done (by kernel_rfl) ?_ _
            go_wp2_with fail
            go_meet
            have lgm := (ho.lt rfl).2
            have ngm : gm ≠ Wz118.heap.size := fun e => by omega
            exact ⟨gm, c3, _, rfl, by omega, by omega, by omega, by omega, by omega, by omega, by omega, by omega, by omega, by omega, ngm, hB, hz5, hz18, hz63, hz155, ho.mono (by omega)⟩
        · have lz168 := hB.size
          have lz169 := hz5.lt
          have lz170 := hz11.lt
          have lz171 := hz18.lt
          have lz172 := hz63.lt
          have lz173 := hz75.lt
          refine wp_new (some 12) rfl (al_impl_Scheme rfl) (fun Wz174 nnz175 => ?_)
          have bz176 := nnz175.below (Below.refl _ _) (Nat.le_refl _)
          replace hB := below_after hB bz176
          replace hz5 := hz5.after bz176
          replace hz11 := hz11.after bz176
          replace hz18 := hz18.after bz176
          replace hz63 := hz63.after bz176
          replace hz75 := hz75.after bz176
          replace hrdz105 := hrdz105.keep bz176
          have hz177 : At Wz174 Wz102.heap.size (.cells #[.int .i64 0, .int .i64 0, .int .i64 0, .int .i64 0, .slice none 0 0] 28 (0, 0)) := nnz175.at_
          refine hK' _ _ ⟨hB, hz5, hz75⟩ (fun _ => trivial) ?_
          clear hK' K' nnz175 bz176
          go_frame
          refine y_oper 6 (by kernel_rfl) rfl rfl (fun K' hK' => ?_)
          have lz178 := hB.size
          have lz179 := hz5.lt
          have lz180 := hz11.lt
          have lz181 := hz18.lt
          have lz182 := hz63.lt
          have lz183 := hz75.lt
          have lz184 := hz177.lt
          refine wp_new (some 79) rfl (exec_bs2 _ _ rfl ((some ⟨b0, off0, none⟩)) ((some ⟨Wz94.heap.size, 0, none⟩)) qs.length 1 cap 1 rfl rfl) (fun Wz185 nnz186 => ?_)
          have bz187 := nnz186.below (Below.refl _ _) (Nat.le_refl _)
          replace hB := below_after hB bz187
          replace hz5 := hz5.after bz187
          replace hz11 := hz11.after bz187
          replace hz18 := hz18.after bz187
          replace hz63 := hz63.after bz187
          replace hz75 := hz75.after bz187
          replace hrdz105 := hrdz105.keep bz187
          replace hz177 := hz177.after bz187
          have hz188 : At Wz185 Wz174.heap.size (.cells #[.slice (some ⟨b0, off0, none⟩) qs.length cap, .slice (some ⟨Wz94.heap.size, 0, none⟩) 1 1] 26 (0, 0)) := nnz186.at_
          refine hK' _ _ ⟨hB, hz5, hz75⟩ (fun _ => trivial) ?_
          clear hK' K' nnz186 bz187
          go_frame
          refine y_oper 7 (by kernel_rfl) rfl rfl (fun K' hK' => ?_)
          have lz191 := hB.size
          have lz192 := hz5.lt
          have lz193 := hz11.lt
          have lz194 := hz18.lt
          have lz195 := hz63.lt
          have lz196 := hz75.lt
          have lz197 := hz177.lt
          have lz198 := hz188.lt
          have lo3 := hB.size
          refine wp_call2 (some 80) rfl 38 _ _ _ rfl (fun args w => by kernel_rfl) _ _ rfl rfl _ (withProducts2_c p n m k _ rfl (Wz174.heap.size) (some ⟨b0, off0, none⟩) (some ⟨Wz94.heap.size, 0, none⟩) cap 1 qs [cat3 QA G QC] _ hz188 (hR.keep hB) (by simp) hrdz105 (by simp) (by simp; omega)) (fun e Wz189 h => ?_)
          obtain ⟨v3, rfl, ho, bz190⟩ := h
          replace hB := below_after hB bz190
          replace hz5 := hz5.after bz190
          replace hz11 := hz11.after bz190
          replace hz18 := hz18.after bz190
          replace hz63 := hz63.after bz190
          replace hz75 := hz75.after bz190
          replace hrdz105 := hrdz105.keep bz190
          replace hz177 := hz177.after bz190
          replace hz188 := hz188.after bz190
          rw [HM0e.out] at ho
          obtain ⟨A3, c3, rfl, _⟩ := ho.rd HM0b.out
          obtain ⟨gm, rfl, hgm⟩ := ho.blk (by omega)
          clear bz190
          refine ⟨_, rfl, ?_⟩
          refine hK' _ _ ⟨hB, hz5, hz75⟩ (fun _ => trivial) ?_
          clear hK' K'
          go_frame
          refine y_oper 9 (by kernel_rfl) rfl rfl (fun K' hK' => ?_)
          refine wp_store_all 28 _ _ rfl rfl Wz102.heap.size rfl #[.int .i64 p, .int .i64 n, .int .i64 m, .int .i64 k, .slice (some ⟨gm, 0, none⟩) M0.length c3] rfl _ _ hz177 5 (by kernel_rfl) rfl rfl (one5 _ _ _ _ _ _ _) (fun Wz199 pz200 => ?_)
          replace hB := pz200.below hB (by omega)
          replace hz5 := pz200.other hz5 (by omega)
          replace hz11 := pz200.other hz11 (by omega)
          replace hz18 := pz200.other hz18 (by omega)
          replace hz63 := pz200.other hz63 (by omega)
          replace hz75 := pz200.other hz75 (by omega)
          replace hz188 := pz200.other hz188 (by omega)
          replace ho := ho.put pz200 (ho.ne_lt (by omega))
          replace hz177 : At Wz199 Wz102.heap.size (.cells #[.int .i64 p, .int .i64 n, .int .i64 m, .int .i64 k, .slice (some ⟨gm, 0, none⟩) M0.length c3] 28 (0, 0)) := pz200.at_
          refine hK' _ _ ⟨hB, hz5, hz75⟩ (fun _ => trivial) ?_
          clear hK' K' pz200
          refine y_done (by kernel_rfl) ?_ _
          go_wp2_with fail
          go_meet
          have lgm := (ho.lt rfl).2
          have ngm : gm ≠ Wz102.heap.size := fun e => by omega
          exact ⟨gm, c3, _, rfl, by omega, by omega, by omega, by omega, by omega, by omega, by omega, by omega, by omega, by omega, ngm, hB, hz5, hz18, hz63, hz177, ho.mono (by omega)⟩
      · have lz201 := hB.size
        have lz202 := hz5.lt
        have lz203 := hz11.lt
        have lz204 := hz18.lt
        have lz205 := hz63.lt
        have lz206 := hz75.lt
        refine wp_new (some 12) rfl (al_impl_Scheme rfl) (fun Wz207 nnz208 => ?_)
        have bz209 := nnz208.below (Below.refl _ _) (Nat.le_refl _)
        replace hB := below_after hB bz209
        replace hz5 := hz5.after bz209
        replace hz11 := hz11.after bz209
        replace hz18 := hz18.after bz209
        replace hz63 := hz63.after bz209
        replace hz75 := hz75.after bz209
        have hz210 : At Wz207 Wz94.heap.size (.cells #[.int .i64 0, .int .i64 0, .int .i64 0, .int .i64 0, .slice none 0 0] 28 (0, 0)) := nnz208.at_
        refine hK' _ _ ⟨hB, hz5, hz75⟩ (fun _ => trivial) ?_
        clear hK' K' nnz208 bz209
        go_frame
        refine y_oper 5 (by kernel_rfl) rfl rfl (fun K' hK' => ?_)
        have lz215 := hB.size
        have lz216 := hz5.lt
        have lz217 := hz11.lt
        have lz218 := hz18.lt
        have lz219 := hz63.lt
        have lz220 := hz75.lt
        have lz221 := hz210.lt
        refine wp_slice1 (some 78) rfl 26 58 _ rfl (cat3 QA G QC) rfl Try.underlying26 infoProd hN2.len (fun Wz211 nnz212 => ?_)
        have bz213 := nnz212.below (Below.refl _ _) (Nat.le_refl _)
        have hrdz214 := Rd.one nnz212 (hN2)
        replace hB := below_after hB bz213
        replace hz5 := hz5.after bz213
        replace hz11 := hz11.after bz213
        replace hz18 := hz18.after bz213
        replace hz63 := hz63.after bz213
        replace hz75 := hz75.after bz213
        replace hz210 := hz210.after bz213
        refine hK' _ _ ⟨hB, hz5, hz75⟩ (fun _ => trivial) ?_
        clear hK' K' nnz212 bz213
        go_frame
        refine y_oper 6 (by kernel_rfl) rfl rfl (fun K' hK' => ?_)
        have lz222 := hB.size
        have lz223 := hz5.lt
        have lz224 := hz11.lt
        have lz225 := hz18.lt
        have lz226 := hz63.lt
        have lz227 := hz75.lt
        have lz228 := hz210.lt
        refine wp_new (some 79) rfl (exec_bs2 _ _ rfl ((some ⟨b0, off0, none⟩)) ((some ⟨Wz207.heap.size, 0, none⟩)) qs.length 1 cap 1 rfl rfl) (fun Wz229 nnz230 => ?_)
        have bz231 := nnz230.below (Below.refl _ _) (Nat.le_refl _)
        replace hB := below_after hB bz231
        replace hz5 := hz5.after bz231
        replace hz11 := hz11.after bz231
        replace hz18 := hz18.after bz231
        replace hz63 := hz63.after bz231
        replace hz75 := hz75.after bz231
        replace hz210 := hz210.after bz231
        replace hrdz214 := hrdz214.keep bz231
        have hz232 : At Wz229 Wz211.heap.size (.cells #[.slice (some ⟨b0, off0, none⟩) qs.length cap, .slice (some ⟨Wz207.heap.size, 0, none⟩) 1 1] 26 (0, 0)) := nnz230.at_
        refine hK' _ _ ⟨hB, hz5, hz75⟩ (fun _ => trivial) ?_
        clear hK' K' nnz230 bz231
        go_frame
        refine y_oper 7 (by kernel_rfl) rfl rfl (fun K' hK' => ?_)
        have lz235 := hB.size
        have lz236 := hz5.lt
        have lz237 := hz11.lt
        have lz238 := hz18.lt
        have lz239 := hz63.lt
        have lz240 := hz75.lt
        have lz241 := hz210.lt
        have lz242 := hz232.lt
        have lo3 := hB.size
        refine wp_call2 (some 80) rfl 38 _ _ _ rfl (fun args w => by kernel_rfl) _ _ rfl rfl _ (withProducts2_c p n m k _ rfl (Wz211.heap.size) (some ⟨b0, off0, none⟩) (some ⟨Wz207.heap.size, 0, none⟩) cap 1 qs [cat3 QA G QC] _ hz232 (hR.keep hB) (by simp) hrdz214 (by simp) (by simp; omega)) (fun e Wz233 h => ?_)
        obtain ⟨v3, rfl, ho, bz234⟩ := h
        replace hB := below_after hB bz234
        replace hz5 := hz5.after bz234
        replace hz11 := hz11.after bz234
        replace hz18 := hz18.after bz234
        replace hz63 := hz63.after bz234
        replace hz75 := hz75.after bz234
        replace hz210 := hz210.after bz234
        replace hrdz214 := hrdz214.keep bz234
        replace hz232 := hz232.after bz234
        rw [HM0e.out] at ho
        obtain ⟨A3, c3, rfl, _⟩ := ho.rd HM0b.out
        obtain ⟨gm, rfl, hgm⟩ := ho.blk (by omega)
        clear bz234
        refine ⟨_, rfl, ?_⟩
        refine hK' _ _ ⟨hB, hz5, hz75⟩ (fun _ => trivial) ?_
        clear hK' K'
        go_frame
        refine y_oper 9 (by kernel_rfl) rfl rfl (fun K' hK' => ?_)
        refine wp_store_all 28 _ _ rfl rfl Wz94.heap.size rfl #[.int .i64 p, .int .i64 n, .int .i64 m, .int .i64 k, .slice (some ⟨gm, 0, none⟩) M0.length c3] rfl _ _ hz210 5 (by kernel_rfl) rfl rfl (one5 _ _ _ _ _ _ _) (fun Wz243 pz244 => ?_)
        replace hB := pz244.below hB (by omega)
        replace hz5 := pz244.other hz5 (by omega)
        replace hz11 := pz244.other hz11 (by omega)
        replace hz18 := pz244.other hz18 (by omega)
        replace hz63 := pz244.other hz63 (by omega)
        replace hz75 := pz244.other hz75 (by omega)
        replace hz232 := pz244.other hz232 (by omega)
        replace ho := ho.put pz244 (ho.ne_lt (by omega))
        replace hz210 : At Wz243 Wz94.heap.size (.cells #[.int .i64 p, .int .i64 n, .int .i64 m, .int .i64 k, .slice (some ⟨gm, 0, none⟩) M0.length c3] 28 (0, 0)) := pz244.at_
        refine hK' _ _ ⟨hB, hz5, hz75⟩ (fun _ => trivial) ?_
        clear hK' K' pz244
        refine y_done (by kernel_rfl) ?_ _
        go_wp2_with fail
        go_meet
        have lgm := (ho.lt rfl).2
        have ngm : gm ≠ Wz94.heap.size := fun e => by omega
        exact ⟨gm, c3, _, rfl, by omega, by omega, by omega, by omega, by omega, by omega, by omega, by omega, by omega, by omega, ngm, hB, hz5, hz18, hz63, hz210, ho.mono (by omega)⟩
    · have lz245 := hB.size
      have lz246 := hz5.lt
      have lz247 := hz11.lt
      have lz248 := hz18.lt
      have lz249 := hz63.lt
      have lz250 := hz75.lt
      refine wp_new (some 12) rfl (al_impl_Scheme rfl) (fun Wz251 nnz252 => ?_)
      have bz253 := nnz252.below (Below.refl _ _) (Nat.le_refl _)
      replace hB := below_after hB bz253
      replace hz5 := hz5.after bz253
      replace hz11 := hz11.after bz253
      replace hz18 := hz18.after bz253
      replace hz63 := hz63.after bz253
      replace hz75 := hz75.after bz253
      have hz254 : At Wz251 wdz93.heap.size (.cells #[.int .i64 0, .int .i64 0, .int .i64 0, .int .i64 0, .slice none 0 0] 28 (0, 0)) := nnz252.at_
      refine hK' _ _ ⟨hB, hz5, hz75⟩ (fun _ => trivial) ?_
      clear hK' K' nnz252 bz253
      go_frame
      refine y_oper 4 (by kernel_rfl) rfl rfl (fun K' hK' => ?_)
      have lz257 := hB.size
      have lz258 := hz5.lt
      have lz259 := hz11.lt
      have lz260 := hz18.lt
      have lz261 := hz63.lt
      have lz262 := hz75.lt
      have lz263 := hz254.lt
      refine wp_call1 (some 77) rfl 51 _ _ rfl (fun args w => by kernel_rfl) _ rfl _ (productOf_c (cat3 QA G QC) hN2 _) (fun e Wz255 h => ?_)
      obtain ⟨rfl, bz256⟩ := h
      replace hB := below_after hB bz256
      replace hz5 := hz5.after bz256
      replace hz11 := hz11.after bz256
      replace hz18 := hz18.after bz256
      replace hz63 := hz63.after bz256
      replace hz75 := hz75.after bz256
      replace hz254 := hz254.after bz256
      clear bz256
      refine ⟨_, rfl, ?_⟩
      refine hK' _ _ ⟨hB, hz5, hz75⟩ (fun _ => trivial) ?_
      clear hK' K'
      go_frame
      refine y_oper 5 (by kernel_rfl) rfl rfl (fun K' hK' => ?_)
      have lz268 := hB.size
      have lz269 := hz5.lt
      have lz270 := hz11.lt
      have lz271 := hz18.lt
      have lz272 := hz63.lt
      have lz273 := hz75.lt
      have lz274 := hz254.lt
      refine wp_slice1 (some 78) rfl 26 58 _ rfl (cat3 QA G QC) rfl Try.underlying26 infoProd hN2.len (fun Wz264 nnz265 => ?_)
      have bz266 := nnz265.below (Below.refl _ _) (Nat.le_refl _)
      have hrdz267 := Rd.one nnz265 (hN2)
      replace hB := below_after hB bz266
      replace hz5 := hz5.after bz266
      replace hz11 := hz11.after bz266
      replace hz18 := hz18.after bz266
      replace hz63 := hz63.after bz266
      replace hz75 := hz75.after bz266
      replace hz254 := hz254.after bz266
      refine hK' _ _ ⟨hB, hz5, hz75⟩ (fun _ => trivial) ?_
      clear hK' K' nnz265 bz266
      go_frame
      refine y_oper 6 (by kernel_rfl) rfl rfl (fun K' hK' => ?_)
      have lz275 := hB.size
      have lz276 := hz5.lt
      have lz277 := hz11.lt
      have lz278 := hz18.lt
      have lz279 := hz63.lt
      have lz280 := hz75.lt
      have lz281 := hz254.lt
      refine wp_new (some 79) rfl (exec_bs2 _ _ rfl ((some ⟨b0, off0, none⟩)) ((some ⟨Wz255.heap.size, 0, none⟩)) qs.length 1 cap 1 rfl rfl) (fun Wz282 nnz283 => ?_)
      have bz284 := nnz283.below (Below.refl _ _) (Nat.le_refl _)
      replace hB := below_after hB bz284
      replace hz5 := hz5.after bz284
      replace hz11 := hz11.after bz284
      replace hz18 := hz18.after bz284
      replace hz63 := hz63.after bz284
      replace hz75 := hz75.after bz284
      replace hz254 := hz254.after bz284
      replace hrdz267 := hrdz267.keep bz284
      have hz285 : At Wz282 Wz264.heap.size (.cells #[.slice (some ⟨b0, off0, none⟩) qs.length cap, .slice (some ⟨Wz255.heap.size, 0, none⟩) 1 1] 26 (0, 0)) := nnz283.at_
      refine hK' _ _ ⟨hB, hz5, hz75⟩ (fun _ => trivial) ?_
      clear hK' K' nnz283 bz284
      go_frame
      refine y_oper 7 (by kernel_rfl) rfl rfl (fun K' hK' => ?_)
      have lz288 := hB.size
      have lz289 := hz5.lt
      have lz290 := hz11.lt
      have lz291 := hz18.lt
      have lz292 := hz63.lt
      have lz293 := hz75.lt
      have lz294 := hz254.lt
      have lz295 := hz285.lt
      have lo3 := hB.size
      refine wp_call2 (some 80) rfl 38 _ _ _ rfl (fun args w => by kernel_rfl) _ _ rfl rfl _ (withProducts2_c p n m k _ rfl (Wz264.heap.size) (some ⟨b0, off0, none⟩) (some ⟨Wz255.heap.size, 0, none⟩) cap 1 qs [cat3 QA G QC] _ hz285 (hR.keep hB) (by simp) hrdz267 (by simp) (by simp; omega)) (fun e Wz286 h => ?_)
      obtain ⟨v3, rfl, ho, bz287⟩ := h
      replace hB := below_after hB bz287
      replace hz5 := hz5.after bz287
      replace hz11 := hz11.after bz287
      replace hz18 := hz18.after bz287
      replace hz63 := hz63.after bz287
      replace hz75 := hz75.after bz287
      replace hz254 := hz254.after bz287
      replace hrdz267 := hrdz267.keep bz287
      replace hz285 := hz285.after bz287
      rw [HM0e.out] at ho
      obtain ⟨A3, c3, rfl, _⟩ := ho.rd HM0b.out
      obtain ⟨gm, rfl, hgm⟩ := ho.blk (by omega)
      clear bz287
      refine ⟨_, rfl, ?_⟩
      refine hK' _ _ ⟨hB, hz5, hz75⟩ (fun _ => trivial) ?_
      clear hK' K'
      go_frame
      refine y_oper 9 (by kernel_rfl) rfl rfl (fun K' hK' => ?_)
      refine wp_store_all 28 _ _ rfl rfl wdz93.heap.size rfl #[.int .i64 p, .int .i64 n, .int .i64 m, .int .i64 k, .slice (some ⟨gm, 0, none⟩) M0.length c3] rfl _ _ hz254 5 (by kernel_rfl) rfl rfl (one5 _ _ _ _ _ _ _) (fun Wz296 pz297 => ?_)
      replace hB := pz297.below hB (by omega)
      replace hz5 := pz297.other hz5 (by omega)
      replace hz11 := pz297.other hz11 (by omega)
      replace hz18 := pz297.other hz18 (by omega)
      replace hz63 := pz297.other hz63 (by omega)
      replace hz75 := pz297.other hz75 (by omega)
      replace hz285 := pz297.other hz285 (by omega)
      replace ho := ho.put pz297 (ho.ne_lt (by omega))
      replace hz254 : At Wz296 wdz93.heap.size (.cells #[.int .i64 p, .int .i64 n, .int .i64 m, .int .i64 k, .slice (some ⟨gm, 0, none⟩) M0.length c3] 28 (0, 0)) := pz297.at_
      refine hK' _ _ ⟨hB, hz5, hz75⟩ (fun _ => trivial) ?_
      clear hK' K' pz297
      refine y_done (by kernel_rfl) ?_ _
      go_wp2_with fail
      go_meet
      have lgm := (ho.lt rfl).2
      have ngm : gm ≠ wdz93.heap.size := fun e => by omega
      exact ⟨gm, c3, _, rfl, by omega, by omega, by omega, by omega, by omega, by omega, by omega, by omega, by omega, by omega, ngm, hB, hz5, hz18, hz63, hz254, ho.mono (by omega)⟩
  case rest =>
  clear hB hz5 hz11 hz18 hz63 hz75
  obtain ⟨gm, c3, b12, rfl, g4, k4, g7, k7, g8, k8, g10, k10, g11, k11, ngm, hB, h4, h8, h10, h12, ho⟩ := hcut
  go_upto_region 13 with (fail)
  refine wp_region_y (zs := []) (S := fun w' => Below w.heap.size w w' ∧ At w' b12 (.cells #[.int .i64 p, .int .i64 n, .int .i64 m, .int .i64 k, .slice (some ⟨gm, 0, none⟩) M0.length c3] 28 (0, 0)) ∧ At w' Wz50.heap.size (.cells (u8s (cat3 QA form QC)) 79 (0, 0))) (S2 := fun w' => True) (by kernel_rfl) ?_
  change wpAnyY _ _ _ _ _ _ _ _ _ _ (World.drew _)
  generalize hwdz298 : World.drew _ = wdz298
  replace hB : Below w.heap.size w wdz298 := by rw [← hwdz298]; exact hB.drew
  replace h4 : At wdz298 w.heap.size (.cells #[.int .i64 p, .int .i64 n, .int .i64 m, .int .i64 k, .slice (some ⟨b0, off0, none⟩) qs.length cap] 28 (0, 0)) := by rw [← hwdz298]; exact h4
  replace h8 : At wdz298 Wz8.heap.size (.cells #[.int .i64 0, .int .i64 0, .int .i64 0, .int .i64 0, .slice none 0 0] 28 (0, 0)) := by rw [← hwdz298]; exact h8
  replace h10 : At wdz298 Wz50.heap.size (.cells (u8s (cat3 QA form QC)) 79 (0, 0)) := by rw [← hwdz298]; exact h10
  replace h12 : At wdz298 b12 (.cells #[.int .i64 p, .int .i64 n, .int .i64 m, .int .i64 k, .slice (some ⟨gm, 0, none⟩) M0.length c3] 28 (0, 0)) := by rw [← hwdz298]; exact h12
  replace ho : Own wdz298 (w.heap.size) (.slice (some ⟨gm, 0, none⟩) M0.length c3) (M0) := by rw [← hwdz298]; exact ho.drew
  clear hwdz298
  refine y_yield 0 (some 81) (.pointer (some ⟨b12, 4, none⟩)) rfl (by kernel_rfl) (by kernel_rfl) (by kernel_rfl) (fun _ _ _ h => h) rfl rfl ⟨hB, h12, h10⟩ (fun w' h' => exec_fieldAddr 28 _ 4 rfl _ (by kernel_rfl)) ?_
  go_frame
  refine y_yield 1 (some 82) (.slice (some ⟨gm, 0, none⟩) M0.length c3) rfl (by kernel_rfl) (by kernel_rfl) (by kernel_rfl) (fun _ _ _ h => h) rfl rfl ⟨hB, h12, h10⟩ (fun w' h' => exec_load_one 26 _ rfl b12 4 rfl (.slice (some ⟨gm, 0, none⟩) M0.length c3) _ Try.underlying26 rfl (h'.2.1.at_ 4)) ?_
  go_frame
  refine y_yield 2 (some 83) (.int .i64 i) rfl (by kernel_rfl) (by kernel_rfl) (by kernel_rfl) (fun _ _ _ h => h) rfl rfl ⟨hB, h12, h10⟩ (fun w' h' => exec_move _ rfl (.int .i64 i) rfl) ?_
  go_frame
  refine y_yield 3 (some 84) (.agg (u8s (cat3 QA form QC))) rfl (by kernel_rfl) (by kernel_rfl) (by kernel_rfl) (fun _ _ _ h => h) rfl rfl ⟨hB, h12, h10⟩ (fun w' h' => exec_load_all 79 _ rfl Wz50.heap.size rfl _ _ _ h'.2.2 Try.underlying79 rfl 27 (by kernel_rfl) ((u8s_size _).trans hN1.len)) ?_
  go_frame
  refine y_oper 4 (by kernel_rfl) rfl rfl (fun K' hK' => ?_)
  have lz301 := hB.size
  have lz302 := h4.lt
  have lz303 := h8.lt
  have lz304 := h10.lt
  have lz305 := h12.lt
  have lz306 : gm < wdz298.heap.size := (ho.lt rfl).2
  refine wp_call1 (some 85) rfl 51 _ _ rfl (fun args w => by kernel_rfl) _ rfl _ (productOf_c (cat3 QA form QC) hN1 _) (fun e Wz299 h => ?_)
  obtain ⟨rfl, bz300⟩ := h
  replace hB := below_after hB bz300
  replace h4 := h4.after bz300
  replace h8 := h8.after bz300
  replace h10 := h10.after bz300
  replace h12 := h12.after bz300
  replace ho := ho.below bz300
  clear bz300
  refine ⟨_, rfl, ?_⟩
  refine hK' _ _ ⟨hB, h12, h10⟩ (fun _ => trivial) ?_
  clear hK' K'
  go_frame
  refine y_yield 5 (some 86) (.pointer (some ⟨gm, i * 27, none⟩)) rfl (by kernel_rfl) (by kernel_rfl) (by kernel_rfl) (fun _ _ _ h => h) rfl rfl ⟨hB, h12, h10⟩ (fun w' h' => exec_ix0 _ 58 _ _ rfl gm M0.length c3 i 27 rfl rfl Try.underlying26 (by kernel_rfl) milt) ?_
  go_frame
  refine y_oper 6 (by kernel_rfl) rfl rfl (fun K' hK' => ?_)
  refine wp_store_own 58 _ _ rfl rfl gm i rfl (cat3 QA form QC) rfl ho (HM0.out) (by kernel_rfl) (milt) hN1.len (fun Wz307 hoz309 pz308 _ => ?_)
  replace hB := pz308.below hB (by omega)
  replace h4 := pz308.other h4 (by omega)
  replace h8 := pz308.other h8 (by omega)
  replace h10 := pz308.other h10 (by omega)
  replace h12 := pz308.other h12 (by omega)
  replace ho := hoz309
  refine hK' _ _ ⟨hB, h12, h10⟩ (fun _ => trivial) ?_
  clear hK' K' pz308 hoz309
  refine y_done (by kernel_rfl) ?_ _
  go_upto_region 14 with (fail)
  refine wp_region_lit ?_
  refine ls_ex (some 87) (.agg #[.int .i64 p, .int .i64 n, .int .i64 m, .int .i64 k, .slice (some ⟨gm, 0, none⟩) M0.length c3]) rfl rfl (exec_load_all 28 _ rfl b12 rfl _ _ _ h12 Try.underlying28 rfl 5 (by kernel_rfl) rfl) ?_
  go_frame
  refine ls_op rfl (fun K' hK' => ?_)
  refine wp_store_all 28 _ _ rfl rfl Wz8.heap.size rfl #[.int .i64 p, .int .i64 n, .int .i64 m, .int .i64 k, .slice (some ⟨gm, 0, none⟩) M0.length c3] rfl _ _ h8 5 (by kernel_rfl) rfl rfl (one5 _ _ _ _ _ _ _) (fun Wz310 pz311 => ?_)
  replace hB := pz311.below hB (by omega)
  replace h4 := pz311.other h4 (by omega)
  replace h10 := pz311.other h10 (by omega)
  replace h12 := pz311.other h12 (by omega)
  replace ho := ho.put pz311 (fun e => by simp only [Value.ownBlock, Option.some.injEq] at e; omega)
  replace h8 : At Wz310 Wz8.heap.size (.cells #[.int .i64 p, .int .i64 n, .int .i64 m, .int .i64 k, .slice (some ⟨gm, 0, none⟩) M0.length c3] 28 (0, 0)) := pz311.at_
  refine hK' _ _ ?_
  clear hK' K' pz311
  refine ls_ex (some 9) (.int .i64 0) rfl rfl (exec_assign _ rfl (.int .i64 0) rfl) ?_
  go_frame
  refine wpList_nil ?_
  go_wp2_with fail
  refine bodyPost_ret (results_at2 rfl _ _ (Wz8.heap.size) _ _ _ rfl _ rfl h8 Try.underlying28 rfl 5 (by kernel_rfl) rfl) rfl ?_
  exact ⟨_, by rw [Hz.out, Hz.out, Hz.out, Hz.out, Hcode.out]; rfl, by rw [HQ.out]; exact ho, hB⟩
end Go.Proofs.Ytbgoopmmdbhogaa
