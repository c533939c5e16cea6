/-
  spec.SplitProduct. (Made by mksp3.py.)
-/
import Derived.Test.YtbgoopmmdbhogaaSp3
namespace Go.Proofs.Ytbgoopmmdbhogaa
open Go.RowKit
set_option maxRecDepth 100000
set_option maxHeartbeats 4000000 in
theorem specSplit_d0 (p n m k : Int) (b0 off0 : Nat) (cap : Nat) (qs : List (List Nat)) (i : Nat) (form : List Nat) (w : World) (hR : Rd w (some ⟨b0, off0, none⟩) qs) (hlen : qs.length ≤ 1048576) (hfm : Bytes 9 form) (hs : schemeB p n m k qs = true) (hilt : i < qs.length) (hm : formB p form (n * m) = false) :
    Calls Try.prog 16 #[.agg #[.int .i64 p, .int .i64 n, .int .i64 m, .int .i64 k, .slice (some ⟨b0, off0, none⟩) qs.length cap], .int .i64 i, .int .i64 0, .agg (u8s form)] w (ResS w (spZ p n m k qs i 0 form p) (spZ p n m k qs i 0 form n) (spZ p n m k qs i 0 form m) (spZ p n m k qs i 0 form k) (spR p n m k qs i 0 form) (spCode p n m k qs i 0 form)) := by
  have HIs := Lib.hid (fun w hr => l01Is_c p n m k (some ⟨b0, off0, none⟩) cap qs w hr hlen)
  have hB := Below.refl w.heap.size w
  have Hs := Lib.hid hs
  have hpr := (sizesB_parts (schemeB_sizes hs)).1
  have h5 := primeB_5 hpr
  have hsn := (sizesB_parts (schemeB_sizes hs)).2.1
  have hsm := (sizesB_parts (schemeB_sizes hs)).2.2.1
  have hsk := (sizesB_parts (schemeB_sizes hs)).2.2.2
  have hi : inI (i : Int) qs.length = true := by simp [inI]; omega
  have h31 := schemeB_len hs
  have Hxs : Hid (([(i : Int)].all fun x => inI x qs.length) = true) := Lib.hid (by simp [hi])
  have hbi := hR.good _ (List.getElem_mem hilt)
  have hel : qs[i]?.getD [] = qs[i] := by simp [hilt]
  have Hc := Lib.hid (fun W (hb : Below w.heap.size w W) => Rd.cells27 (hR.keep hb) hilt)
  have Hm := Lib.hid hm
  have Hcode : Hid (spCode p n m k qs i 0 form = 2) := Lib.hid (by unfold spCode; rw [if_pos hs, hi, show inI 0 3 = true from rfl, show lenF n m k (0 : Int).toNat = n * m from rfl, hm]; simp)
  have Hz : Hid (∀ x, spZ p n m k qs i 0 form x = 0) := Lib.hid (fun x => by simp [spZ, Hcode.out])
  have Hr : Hid (spR p n m k qs i 0 form = []) := Lib.hid (by simp [spR, Hcode.out])
  clear hs hm hi
  generalize HQ0 : qs[i] = q at *
  have HQi := Lib.hid HQ0
  clear HQ0
  obtain ⟨QA, QB, QC, rfl, hQA, hQB, hQC⟩ := parts3 hbi
  have hq := bytes3 hQA hQB hQC
  have Hfac : Hid (facQ (cat3 QA QB QC) 0 = QA) := Lib.hid (segm_a hQA.len)
  go_enter Try.func16, Try.ntmps16
  go_upto_region 0 with (fail)
  refine wp_region_lit ?_
  refine ls_op rfl (fun K' hK' => ?_)
  have lz1 := hB.size
  refine wp_new (some 4) rfl (exec_box 28 _ rfl (#[.int .i64 p, .int .i64 n, .int .i64 m, .int .i64 k, .slice (some ⟨b0, off0, none⟩) qs.length cap]) rfl) (fun Wz2 nnz3 => ?_)
  have bz4 := nnz3.below (Below.refl _ _) (Nat.le_refl _)
  replace hB := below_after hB bz4
  have hz5 : At Wz2 w.heap.size (.cells #[.int .i64 p, .int .i64 n, .int .i64 m, .int .i64 k, .slice (some ⟨b0, off0, none⟩) qs.length cap] 28 (0, 0)) := nnz3.at_
  refine hK' _ _ ?_
  clear hK' K' nnz3 bz4
  go_frame
  refine ls_op rfl (fun K' hK' => ?_)
  have lz6 := hB.size
  have lz7 := hz5.lt
  refine wp_new (some 7) rfl (exec_box 39 _ rfl (u8s (form)) rfl) (fun Wz8 nnz9 => ?_)
  have bz10 := nnz9.below (Below.refl _ _) (Nat.le_refl _)
  replace hB := below_after hB bz10
  replace hz5 := hz5.after bz10
  have hz11 : At Wz8 Wz2.heap.size (.cells (u8s (form)) 39 (0, 0)) := nnz9.at_
  refine hK' _ _ ?_
  clear hK' K' nnz9 bz10
  go_frame
  refine ls_op rfl (fun K' hK' => ?_)
  have lz12 := hB.size
  have lz13 := hz5.lt
  have lz14 := hz11.lt
  refine wp_new (some 8) rfl (als_impl_Scheme rfl) (fun Wz15 nnz16 => ?_)
  have bz17 := nnz16.below (Below.refl _ _) (Nat.le_refl _)
  replace hB := below_after hB bz17
  replace hz5 := hz5.after bz17
  replace hz11 := hz11.after bz17
  have hz18 : At Wz15 Wz8.heap.size (.cells #[.int .i64 0, .int .i64 0, .int .i64 0, .int .i64 0, .slice none 0 0] 28 (0, 0)) := nnz16.at_
  refine hK' _ _ ?_
  clear hK' K' nnz16 bz17
  go_frame
  refine ls_ex (some 9) (.int .i64 0) rfl rfl (exec_assign _ rfl (.int .i64 0) rfl) ?_
  go_frame
  refine wpList_nil ?_
  go_upto_region 1 with (fail)
  refine wp_region_lit ?_
  refine ls_ex (some 13) (.agg #[.int .i64 p, .int .i64 n, .int .i64 m, .int .i64 k, .slice (some ⟨b0, off0, none⟩) qs.length cap]) rfl rfl (exec_load_all 28 _ rfl w.heap.size rfl _ _ _ hz5 Try.underlying28 rfl 5 (by kernel_rfl) rfl) ?_
  go_frame
  refine ls_op rfl (fun K' hK' => ?_)
  have lz21 := hB.size
  have lz22 := hz5.lt
  have lz23 := hz11.lt
  have lz24 := hz18.lt
  refine wp_call1 (some 14) rfl 22 _ _ rfl (fun args w => by kernel_rfl) _ rfl _ (HIs.out _ (hR.keep hB)) (fun e Wz19 h => ?_)
  obtain ⟨rfl, bz20⟩ := h
  replace hB := below_after hB bz20
  replace hz5 := hz5.after bz20
  replace hz11 := hz11.after bz20
  replace hz18 := hz18.after bz20
  rw [Hs.out]
  clear bz20
  refine ⟨_, rfl, ?_⟩
  refine hK' _ _ ?_
  clear hK' K'
  go_frame
  refine ls_ex (some 15) (.bool false) rfl rfl (exec_not _ _ rfl true rfl) ?_
  go_frame
  refine ls_ex (some 12) (.bool false) rfl rfl (exec_assign _ rfl (.bool false) rfl) ?_
  go_frame
  refine wpList_nil ?_
  go_upto_region 3 with (fail)
  refine wp_region_lit ?_
  refine ls_ex (some 18) (.agg #[.int .i64 p, .int .i64 n, .int .i64 m, .int .i64 k, .slice (some ⟨b0, off0, none⟩) qs.length cap]) rfl rfl (exec_load_all 28 _ rfl w.heap.size rfl _ _ _ hz5 Try.underlying28 rfl 5 (by kernel_rfl) rfl) ?_
  go_frame
  refine ls_ex (some 19) (.int .i64 i) rfl rfl (exec_move _ rfl (.int .i64 i) rfl) ?_
  go_frame
  refine ls_op rfl (fun K' hK' => ?_)
  have lz25 := hB.size
  have lz26 := hz5.lt
  have lz27 := hz11.lt
  have lz28 := hz18.lt
  refine wp_new (some 20) rfl (exec_bsi1 _ rfl i rfl) (fun Wz29 nnz30 => ?_)
  have bz31 := nnz30.below (Below.refl _ _) (Nat.le_refl _)
  replace hB := below_after hB bz31
  replace hz5 := hz5.after bz31
  replace hz11 := hz11.after bz31
  replace hz18 := hz18.after bz31
  have hz32 : At Wz29 Wz19.heap.size (.cells #[.int .i64 i] 2 (0, 0)) := nnz30.at_
  refine hK' _ _ ?_
  clear hK' K' nnz30 bz31
  go_frame
  refine ls_op rfl (fun K' hK' => ?_)
  have lz35 := hB.size
  have lz36 := hz5.lt
  have lz37 := hz11.lt
  have lz38 := hz18.lt
  have lz39 := hz32.lt
  refine wp_call2 (some 21) rfl 32 _ _ _ rfl (fun args w => by kernel_rfl) _ _ rfl rfl _ (l03Numbers_c p n m k _ cap qs.length (Wz19.heap.size) 1 [(i : Int)] _ (by omega) (by simp) (fun t ht => by match t, ht with | 0, _ => exact hz32.at_ 0)) (fun e Wz33 h => ?_)
  obtain ⟨rfl, bz34⟩ := h
  replace hB := below_after hB bz34
  replace hz5 := hz5.after bz34
  replace hz11 := hz11.after bz34
  replace hz18 := hz18.after bz34
  replace hz32 := hz32.after bz34
  rw [Hxs.out]
  clear bz34
  refine ⟨_, rfl, ?_⟩
  refine hK' _ _ ?_
  clear hK' K'
  go_frame
  refine ls_ex (some 22) (.bool false) rfl rfl (exec_not _ _ rfl true rfl) ?_
  go_frame
  refine ls_ex (some 23) (.bool false) rfl rfl (exec_move _ rfl (.bool false) rfl) ?_
  go_frame
  refine ls_ex_g (some 24) (.int .i64 0) rfl rfl (exec_move _ rfl (.int .i64 0) rfl) ?_
  go_frame
  refine ls_op_g rfl (fun K' hK' => ?_)
  have lz42 := hB.size
  have lz43 := hz5.lt
  have lz44 := hz11.lt
  have lz45 := hz18.lt
  have lz46 := hz32.lt
  refine wp_call3 (some 25) rfl 42 _ _ _ _ rfl (fun args w => by kernel_rfl) _ _ _ rfl rfl rfl _ (l01In_c 0 0 2 _) (fun e Wz40 h => ?_)
  obtain ⟨rfl, rfl⟩ := h
  refine ⟨_, rfl, ?_⟩
  refine hK' _ _ ?_
  clear hK' K'
  go_frame
  refine ls_ex_g (some 26) (.bool false) rfl rfl (exec_not _ _ rfl true rfl) ?_
  go_frame
  refine ls_ex (some 27) (.bool false) rfl rfl (exec_pick _ _ _ rfl false rfl (.bool false) rfl) ?_
  go_frame
  refine ls_ex (some 17) (.bool false) rfl rfl (exec_assign _ rfl (.bool false) rfl) ?_
  go_frame
  refine wpList_nil ?_
  go_upto_region 5 with (fail)
  refine wp_region_y (zs := []) (S := fun w' => Below w.heap.size w w' ∧ At w' w.heap.size (.cells #[.int .i64 p, .int .i64 n, .int .i64 m, .int .i64 k, .slice (some ⟨b0, off0, none⟩) qs.length cap] 28 (0, 0)) ∧ At w' Wz2.heap.size (.cells (u8s (form)) 39 (0, 0))) (S2 := fun w' => True) (by kernel_rfl) ?_
  change wpAnyY _ _ _ _ _ _ _ _ _ _ (World.drew _)
  generalize hwdz47 : World.drew _ = wdz47
  replace hB : Below w.heap.size w wdz47 := by rw [← hwdz47]; exact hB.drew
  replace hz5 : At wdz47 w.heap.size (.cells #[.int .i64 p, .int .i64 n, .int .i64 m, .int .i64 k, .slice (some ⟨b0, off0, none⟩) qs.length cap] 28 (0, 0)) := by rw [← hwdz47]; exact hz5
  replace hz11 : At wdz47 Wz2.heap.size (.cells (u8s (form)) 39 (0, 0)) := by rw [← hwdz47]; exact hz11
  replace hz18 : At wdz47 Wz8.heap.size (.cells #[.int .i64 0, .int .i64 0, .int .i64 0, .int .i64 0, .slice none 0 0] 28 (0, 0)) := by rw [← hwdz47]; exact hz18
  replace hz32 : At wdz47 Wz19.heap.size (.cells #[.int .i64 i] 2 (0, 0)) := by rw [← hwdz47]; exact hz32
  clear hwdz47
  refine y_yield 0 (some 30) (.pointer (some ⟨w.heap.size, 0, none⟩)) rfl (by kernel_rfl) (by kernel_rfl) (by kernel_rfl) (fun _ _ _ h => h) rfl rfl ⟨hB, hz5, hz11⟩ (fun w' h' => exec_fieldAddr 28 _ 0 rfl _ (by kernel_rfl)) ?_
  go_frame
  refine y_yield 1 (some 31) (.int .i64 p) rfl (by kernel_rfl) (by kernel_rfl) (by kernel_rfl) (fun _ _ _ h => h) rfl rfl ⟨hB, hz5, hz11⟩ (fun w' h' => exec_load_one 2 _ rfl w.heap.size 0 rfl (.int .i64 p) _ Try.underlying2 rfl (h'.2.1.at_ 0)) ?_
  go_frame
  refine y_yield 2 (some 32) (.agg (u8s (form))) rfl (by kernel_rfl) (by kernel_rfl) (by kernel_rfl) (fun _ _ _ h => h) rfl rfl ⟨hB, hz5, hz11⟩ (fun w' h' => exec_load_all 39 _ rfl Wz2.heap.size rfl _ _ _ h'.2.2 Try.underlying39 rfl 9 (by kernel_rfl) ((u8s_size _).trans hfm.len)) ?_
  go_frame
  refine y_yield 3 (some 33) (.agg #[.int .i64 p, .int .i64 n, .int .i64 m, .int .i64 k, .slice (some ⟨b0, off0, none⟩) qs.length cap]) rfl (by kernel_rfl) (by kernel_rfl) (by kernel_rfl) (fun _ _ _ h => h) rfl rfl ⟨hB, hz5, hz11⟩ (fun w' h' => exec_load_all 28 _ rfl w.heap.size rfl _ _ _ h'.2.1 Try.underlying28 rfl 5 (by kernel_rfl) rfl) ?_
  go_frame
  refine y_yield 4 (some 34) (.int .i64 0) rfl (by kernel_rfl) (by kernel_rfl) (by kernel_rfl) (fun _ _ _ h => h) rfl rfl ⟨hB, hz5, hz11⟩ (fun w' h' => exec_move _ rfl (.int .i64 0) rfl) ?_
  go_frame
  refine y_oper 5 (by kernel_rfl) rfl rfl (fun K' hK' => ?_)
  have lz50 := hB.size
  have lz51 := hz5.lt
  have lz52 := hz11.lt
  have lz53 := hz18.lt
  have lz54 := hz32.lt
  refine wp_call2 (some 35) rfl 44 _ _ _ rfl (fun args w => by kernel_rfl) _ _ rfl rfl _ (l03Length_c p n m k _ 0 (by omega) _ hsn hsm hsk) (fun e Wz48 h => ?_)
  obtain ⟨rfl, bz49⟩ := h
  replace hB := below_after hB bz49
  replace hz5 := hz5.after bz49
  replace hz11 := hz11.after bz49
  replace hz18 := hz18.after bz49
  replace hz32 := hz32.after bz49
  rw [show lenF n m k 0 = n * m from rfl]
  clear bz49
  refine ⟨_, rfl, ?_⟩
  refine hK' _ _ ⟨hB, hz5, hz11⟩ (fun _ => trivial) ?_
  clear hK' K'
  go_frame
  refine y_oper 6 (by kernel_rfl) rfl rfl (fun K' hK' => ?_)
  have lz57 := hB.size
  have lz58 := hz5.lt
  have lz59 := hz11.lt
  have lz60 := hz18.lt
  have lz61 := hz32.lt
  refine wp_call3 (some 36) rfl 43 _ _ _ _ rfl (fun args w => by kernel_rfl) _ _ _ rfl rfl rfl _ (l01Form_c p form (n * m) hfm _) (fun e Wz55 h => ?_)
  obtain ⟨rfl, bz56⟩ := h
  replace hB := below_after hB bz56
  replace hz5 := hz5.after bz56
  replace hz11 := hz11.after bz56
  replace hz18 := hz18.after bz56
  replace hz32 := hz32.after bz56
  rw [Hm.out]
  clear bz56
  refine ⟨_, rfl, ?_⟩
  refine hK' _ _ ⟨hB, hz5, hz11⟩ (fun _ => trivial) ?_
  clear hK' K'
  go_frame
  refine y_yield 7 (some 37) (.bool true) rfl (by kernel_rfl) (by kernel_rfl) (by kernel_rfl) (fun _ _ _ h => h) rfl rfl ⟨hB, hz5, hz11⟩ (fun w' h' => exec_not _ _ rfl false rfl) ?_
  go_frame
  refine y_oper 8 (by kernel_rfl) rfl rfl (fun K' hK' => ?_)
  refine wp_exec (some 29) rfl (.bool true) (exec_assign _ rfl (.bool true) rfl) ?_
  refine hK' _ _ ⟨hB, hz5, hz11⟩ (fun _ => trivial) ?_
  clear hK' K'
  go_frame
  refine y_done (by kernel_rfl) ?_ _
  go_upto_region 6 with (fail)
  refine wp_region_lit ?_
  refine ls_ex (some 38) (.agg #[.int .i64 0, .int .i64 0, .int .i64 0, .int .i64 0, .slice none 0 0]) rfl rfl (exec_build_nil 28 rfl _ (by kernel_rfl)) ?_
  go_frame
  refine ls_op rfl (fun K' hK' => ?_)
  refine wp_store_all 28 _ _ rfl rfl Wz8.heap.size rfl #[.int .i64 0, .int .i64 0, .int .i64 0, .int .i64 0, .slice none 0 0] rfl _ _ hz18 5 (by kernel_rfl) rfl rfl (one5 _ _ _ _ _ _ _) (fun Wz62 pz63 => ?_)
  replace hB := pz63.below hB (by omega)
  replace hz5 := pz63.other hz5 (by omega)
  replace hz11 := pz63.other hz11 (by omega)
  replace hz32 := pz63.other hz32 (by omega)
  replace hz18 : At Wz62 Wz8.heap.size (.cells #[.int .i64 0, .int .i64 0, .int .i64 0, .int .i64 0, .slice none 0 0] 28 (0, 0)) := pz63.at_
  refine hK' _ _ ?_
  clear hK' K' pz63
  refine ls_ex (some 9) (.int .i64 2) rfl rfl (exec_assign _ rfl (.int .i64 2) rfl) ?_
  go_frame
  refine wpList_nil ?_
  go_wp2_with fail
  refine bodyPost_ret (results_at2 rfl _ _ (Wz8.heap.size) _ _ _ rfl _ rfl hz18 Try.underlying28 rfl 5 (by kernel_rfl) rfl) rfl ?_
  exact ⟨.slice none 0 0, by rw [Hz.out, Hz.out, Hz.out, Hz.out, Hcode.out]; rfl, by rw [Hr.out]; exact Own.nil _ _, hB⟩
set_option maxHeartbeats 4000000 in
theorem specSplit_e0 (p n m k : Int) (b0 off0 : Nat) (cap : Nat) (qs : List (List Nat)) (i : Nat) (form : List Nat) (w : World) (hR : Rd w (some ⟨b0, off0, none⟩) qs) (hlen : qs.length ≤ 1048576) (hfm : Bytes 9 form) (hs : schemeB p n m k qs = true) (hilt : i < qs.length) (hm : formB p form (n * m) = true) (hz : zeroB form = true) :
    Calls Try.prog 16 #[.agg #[.int .i64 p, .int .i64 n, .int .i64 m, .int .i64 k, .slice (some ⟨b0, off0, none⟩) qs.length cap], .int .i64 i, .int .i64 0, .agg (u8s form)] w (ResS w (spZ p n m k qs i 0 form p) (spZ p n m k qs i 0 form n) (spZ p n m k qs i 0 form m) (spZ p n m k qs i 0 form k) (spR p n m k qs i 0 form) (spCode p n m k qs i 0 form)) := by
  have HIs := Lib.hid (fun w hr => l01Is_c p n m k (some ⟨b0, off0, none⟩) cap qs w hr hlen)
  have hB := Below.refl w.heap.size w
  have Hs := Lib.hid hs
  have hpr := (sizesB_parts (schemeB_sizes hs)).1
  have h5 := primeB_5 hpr
  have hsn := (sizesB_parts (schemeB_sizes hs)).2.1
  have hsm := (sizesB_parts (schemeB_sizes hs)).2.2.1
  have hsk := (sizesB_parts (schemeB_sizes hs)).2.2.2
  have hi : inI (i : Int) qs.length = true := by simp [inI]; omega
  have h31 := schemeB_len hs
  have Hxs : Hid (([(i : Int)].all fun x => inI x qs.length) = true) := Lib.hid (by simp [hi])
  have hbi := hR.good _ (List.getElem_mem hilt)
  have hel : qs[i]?.getD [] = qs[i] := by simp [hilt]
  have Hc := Lib.hid (fun W (hb : Below w.heap.size w W) => Rd.cells27 (hR.keep hb) hilt)
  have Hm := Lib.hid hm
  have Hcode : Hid (spCode p n m k qs i 0 form = 5) := Lib.hid (by unfold spCode; rw [if_pos hs, hi, show inI 0 3 = true from rfl, show lenF n m k (0 : Int).toNat = n * m from rfl, hm]; simp [hz])
  have Hz : Hid (∀ x, spZ p n m k qs i 0 form x = 0) := Lib.hid (fun x => by simp [spZ, Hcode.out])
  have Hr : Hid (spR p n m k qs i 0 form = []) := Lib.hid (by simp [spR, Hcode.out])
  have Hz0 : Hid (zeroB form = true) := Lib.hid hz
  clear hs hm hi hz
  generalize HQ0 : qs[i] = q at *
  have HQi := Lib.hid HQ0
  clear HQ0
  obtain ⟨QA, QB, QC, rfl, hQA, hQB, hQC⟩ := parts3 hbi
  have hq := bytes3 hQA hQB hQC
  have Hfac : Hid (facQ (cat3 QA QB QC) 0 = QA) := Lib.hid (segm_a hQA.len)
  go_enter Try.func16, Try.ntmps16
  go_upto_region 0 with (fail)
  refine wp_region_lit ?_
  refine ls_op rfl (fun K' hK' => ?_)
  have lz1 := hB.size
  refine wp_new (some 4) rfl (exec_box 28 _ rfl (#[.int .i64 p, .int .i64 n, .int .i64 m, .int .i64 k, .slice (some ⟨b0, off0, none⟩) qs.length cap]) rfl) (fun Wz2 nnz3 => ?_)
  have bz4 := nnz3.below (Below.refl _ _) (Nat.le_refl _)
  replace hB := below_after hB bz4
  have hz5 : At Wz2 w.heap.size (.cells #[.int .i64 p, .int .i64 n, .int .i64 m, .int .i64 k, .slice (some ⟨b0, off0, none⟩) qs.length cap] 28 (0, 0)) := nnz3.at_
  refine hK' _ _ ?_
  clear hK' K' nnz3 bz4
  go_frame
  refine ls_op rfl (fun K' hK' => ?_)
  have lz6 := hB.size
  have lz7 := hz5.lt
  refine wp_new (some 7) rfl (exec_box 39 _ rfl (u8s (form)) rfl) (fun Wz8 nnz9 => ?_)
  have bz10 := nnz9.below (Below.refl _ _) (Nat.le_refl _)
  replace hB := below_after hB bz10
  replace hz5 := hz5.after bz10
  have hz11 : At Wz8 Wz2.heap.size (.cells (u8s (form)) 39 (0, 0)) := nnz9.at_
  refine hK' _ _ ?_
  clear hK' K' nnz9 bz10
  go_frame
  refine ls_op rfl (fun K' hK' => ?_)
  have lz12 := hB.size
  have lz13 := hz5.lt
  have lz14 := hz11.lt
  refine wp_new (some 8) rfl (als_impl_Scheme rfl) (fun Wz15 nnz16 => ?_)
  have bz17 := nnz16.below (Below.refl _ _) (Nat.le_refl _)
  replace hB := below_after hB bz17
  replace hz5 := hz5.after bz17
  replace hz11 := hz11.after bz17
  have hz18 : At Wz15 Wz8.heap.size (.cells #[.int .i64 0, .int .i64 0, .int .i64 0, .int .i64 0, .slice none 0 0] 28 (0, 0)) := nnz16.at_
  refine hK' _ _ ?_
  clear hK' K' nnz16 bz17
  go_frame
  refine ls_ex (some 9) (.int .i64 0) rfl rfl (exec_assign _ rfl (.int .i64 0) rfl) ?_
  go_frame
  refine wpList_nil ?_
  go_upto_region 1 with (fail)
  refine wp_region_lit ?_
  refine ls_ex (some 13) (.agg #[.int .i64 p, .int .i64 n, .int .i64 m, .int .i64 k, .slice (some ⟨b0, off0, none⟩) qs.length cap]) rfl rfl (exec_load_all 28 _ rfl w.heap.size rfl _ _ _ hz5 Try.underlying28 rfl 5 (by kernel_rfl) rfl) ?_
  go_frame
  refine ls_op rfl (fun K' hK' => ?_)
  have lz21 := hB.size
  have lz22 := hz5.lt
  have lz23 := hz11.lt
  have lz24 := hz18.lt
  refine wp_call1 (some 14) rfl 22 _ _ rfl (fun args w => by kernel_rfl) _ rfl _ (HIs.out _ (hR.keep hB)) (fun e Wz19 h => ?_)
  obtain ⟨rfl, bz20⟩ := h
  replace hB := below_after hB bz20
  replace hz5 := hz5.after bz20
  replace hz11 := hz11.after bz20
  replace hz18 := hz18.after bz20
  rw [Hs.out]
  clear bz20
  refine ⟨_, rfl, ?_⟩
  refine hK' _ _ ?_
  clear hK' K'
  go_frame
  refine ls_ex (some 15) (.bool false) rfl rfl (exec_not _ _ rfl true rfl) ?_
  go_frame
  refine ls_ex (some 12) (.bool false) rfl rfl (exec_assign _ rfl (.bool false) rfl) ?_
  go_frame
  refine wpList_nil ?_
  go_upto_region 3 with (fail)
  refine wp_region_lit ?_
  refine ls_ex (some 18) (.agg #[.int .i64 p, .int .i64 n, .int .i64 m, .int .i64 k, .slice (some ⟨b0, off0, none⟩) qs.length cap]) rfl rfl (exec_load_all 28 _ rfl w.heap.size rfl _ _ _ hz5 Try.underlying28 rfl 5 (by kernel_rfl) rfl) ?_
  go_frame
  refine ls_ex (some 19) (.int .i64 i) rfl rfl (exec_move _ rfl (.int .i64 i) rfl) ?_
  go_frame
  refine ls_op rfl (fun K' hK' => ?_)
  have lz25 := hB.size
  have lz26 := hz5.lt
  have lz27 := hz11.lt
  have lz28 := hz18.lt
  refine wp_new (some 20) rfl (exec_bsi1 _ rfl i rfl) (fun Wz29 nnz30 => ?_)
  have bz31 := nnz30.below (Below.refl _ _) (Nat.le_refl _)
  replace hB := below_after hB bz31
  replace hz5 := hz5.after bz31
  replace hz11 := hz11.after bz31
  replace hz18 := hz18.after bz31
  have hz32 : At Wz29 Wz19.heap.size (.cells #[.int .i64 i] 2 (0, 0)) := nnz30.at_
  refine hK' _ _ ?_
  clear hK' K' nnz30 bz31
  go_frame
  refine ls_op rfl (fun K' hK' => ?_)
  have lz35 := hB.size
  have lz36 := hz5.lt
  have lz37 := hz11.lt
  have lz38 := hz18.lt
  have lz39 := hz32.lt
  refine wp_call2 (some 21) rfl 32 _ _ _ rfl (fun args w => by kernel_rfl) _ _ rfl rfl _ (l03Numbers_c p n m k _ cap qs.length (Wz19.heap.size) 1 [(i : Int)] _ (by omega) (by simp) (fun t ht => by match t, ht with | 0, _ => exact hz32.at_ 0)) (fun e Wz33 h => ?_)
  obtain ⟨rfl, bz34⟩ := h
  replace hB := below_after hB bz34
  replace hz5 := hz5.after bz34
  replace hz11 := hz11.after bz34
  replace hz18 := hz18.after bz34
  replace hz32 := hz32.after bz34
  rw [Hxs.out]
  clear bz34
  refine ⟨_, rfl, ?_⟩
  refine hK' _ _ ?_
  clear hK' K'
  go_frame
  refine ls_ex (some 22) (.bool false) rfl rfl (exec_not _ _ rfl true rfl) ?_
  go_frame
  refine ls_ex (some 23) (.bool false) rfl rfl (exec_move _ rfl (.bool false) rfl) ?_
  go_frame
  refine ls_ex_g (some 24) (.int .i64 0) rfl rfl (exec_move _ rfl (.int .i64 0) rfl) ?_
  go_frame
  refine ls_op_g rfl (fun K' hK' => ?_)
  have lz42 := hB.size
  have lz43 := hz5.lt
  have lz44 := hz11.lt
  have lz45 := hz18.lt
  have lz46 := hz32.lt
  refine wp_call3 (some 25) rfl 42 _ _ _ _ rfl (fun args w => by kernel_rfl) _ _ _ rfl rfl rfl _ (l01In_c 0 0 2 _) (fun e Wz40 h => ?_)
  obtain ⟨rfl, rfl⟩ := h
  refine ⟨_, rfl, ?_⟩
  refine hK' _ _ ?_
  clear hK' K'
  go_frame
  refine ls_ex_g (some 26) (.bool false) rfl rfl (exec_not _ _ rfl true rfl) ?_
  go_frame
  refine ls_ex (some 27) (.bool false) rfl rfl (exec_pick _ _ _ rfl false rfl (.bool false) rfl) ?_
  go_frame
  refine ls_ex (some 17) (.bool false) rfl rfl (exec_assign _ rfl (.bool false) rfl) ?_
  go_frame
  refine wpList_nil ?_
  go_upto_region 5 with (fail)
  refine wp_region_y (zs := []) (S := fun w' => Below w.heap.size w w' ∧ At w' w.heap.size (.cells #[.int .i64 p, .int .i64 n, .int .i64 m, .int .i64 k, .slice (some ⟨b0, off0, none⟩) qs.length cap] 28 (0, 0)) ∧ At w' Wz2.heap.size (.cells (u8s (form)) 39 (0, 0))) (S2 := fun w' => True) (by kernel_rfl) ?_
  change wpAnyY _ _ _ _ _ _ _ _ _ _ (World.drew _)
  generalize hwdz47 : World.drew _ = wdz47
  replace hB : Below w.heap.size w wdz47 := by rw [← hwdz47]; exact hB.drew
  replace hz5 : At wdz47 w.heap.size (.cells #[.int .i64 p, .int .i64 n, .int .i64 m, .int .i64 k, .slice (some ⟨b0, off0, none⟩) qs.length cap] 28 (0, 0)) := by rw [← hwdz47]; exact hz5
  replace hz11 : At wdz47 Wz2.heap.size (.cells (u8s (form)) 39 (0, 0)) := by rw [← hwdz47]; exact hz11
  replace hz18 : At wdz47 Wz8.heap.size (.cells #[.int .i64 0, .int .i64 0, .int .i64 0, .int .i64 0, .slice none 0 0] 28 (0, 0)) := by rw [← hwdz47]; exact hz18
  replace hz32 : At wdz47 Wz19.heap.size (.cells #[.int .i64 i] 2 (0, 0)) := by rw [← hwdz47]; exact hz32
  clear hwdz47
  refine y_yield 0 (some 30) (.pointer (some ⟨w.heap.size, 0, none⟩)) rfl (by kernel_rfl) (by kernel_rfl) (by kernel_rfl) (fun _ _ _ h => h) rfl rfl ⟨hB, hz5, hz11⟩ (fun w' h' => exec_fieldAddr 28 _ 0 rfl _ (by kernel_rfl)) ?_
  go_frame
  refine y_yield 1 (some 31) (.int .i64 p) rfl (by kernel_rfl) (by kernel_rfl) (by kernel_rfl) (fun _ _ _ h => h) rfl rfl ⟨hB, hz5, hz11⟩ (fun w' h' => exec_load_one 2 _ rfl w.heap.size 0 rfl (.int .i64 p) _ Try.underlying2 rfl (h'.2.1.at_ 0)) ?_
  go_frame
  refine y_yield 2 (some 32) (.agg (u8s (form))) rfl (by kernel_rfl) (by kernel_rfl) (by kernel_rfl) (fun _ _ _ h => h) rfl rfl ⟨hB, hz5, hz11⟩ (fun w' h' => exec_load_all 39 _ rfl Wz2.heap.size rfl _ _ _ h'.2.2 Try.underlying39 rfl 9 (by kernel_rfl) ((u8s_size _).trans hfm.len)) ?_
  go_frame
  refine y_yield 3 (some 33) (.agg #[.int .i64 p, .int .i64 n, .int .i64 m, .int .i64 k, .slice (some ⟨b0, off0, none⟩) qs.length cap]) rfl (by kernel_rfl) (by kernel_rfl) (by kernel_rfl) (fun _ _ _ h => h) rfl rfl ⟨hB, hz5, hz11⟩ (fun w' h' => exec_load_all 28 _ rfl w.heap.size rfl _ _ _ h'.2.1 Try.underlying28 rfl 5 (by kernel_rfl) rfl) ?_
  go_frame
  refine y_yield 4 (some 34) (.int .i64 0) rfl (by kernel_rfl) (by kernel_rfl) (by kernel_rfl) (fun _ _ _ h => h) rfl rfl ⟨hB, hz5, hz11⟩ (fun w' h' => exec_move _ rfl (.int .i64 0) rfl) ?_
  go_frame
  refine y_oper 5 (by kernel_rfl) rfl rfl (fun K' hK' => ?_)
  have lz50 := hB.size
  have lz51 := hz5.lt
  have lz52 := hz11.lt
  have lz53 := hz18.lt
  have lz54 := hz32.lt
  refine wp_call2 (some 35) rfl 44 _ _ _ rfl (fun args w => by kernel_rfl) _ _ rfl rfl _ (l03Length_c p n m k _ 0 (by omega) _ hsn hsm hsk) (fun e Wz48 h => ?_)
  obtain ⟨rfl, bz49⟩ := h
  replace hB := below_after hB bz49
  replace hz5 := hz5.after bz49
  replace hz11 := hz11.after bz49
  replace hz18 := hz18.after bz49
  replace hz32 := hz32.after bz49
  rw [show lenF n m k 0 = n * m from rfl]
  clear bz49
  refine ⟨_, rfl, ?_⟩
  refine hK' _ _ ⟨hB, hz5, hz11⟩ (fun _ => trivial) ?_
  clear hK' K'
  go_frame
  refine y_oper 6 (by kernel_rfl) rfl rfl (fun K' hK' => ?_)
  have lz57 := hB.size
  have lz58 := hz5.lt
  have lz59 := hz11.lt
  have lz60 := hz18.lt
  have lz61 := hz32.lt
  refine wp_call3 (some 36) rfl 43 _ _ _ _ rfl (fun args w => by kernel_rfl) _ _ _ rfl rfl rfl _ (l01Form_c p form (n * m) hfm _) (fun e Wz55 h => ?_)
  obtain ⟨rfl, bz56⟩ := h
  replace hB := below_after hB bz56
  replace hz5 := hz5.after bz56
  replace hz11 := hz11.after bz56
  replace hz18 := hz18.after bz56
  replace hz32 := hz32.after bz56
  rw [Hm.out]
  clear bz56
  refine ⟨_, rfl, ?_⟩
  refine hK' _ _ ⟨hB, hz5, hz11⟩ (fun _ => trivial) ?_
  clear hK' K'
  go_frame
  refine y_yield 7 (some 37) (.bool false) rfl (by kernel_rfl) (by kernel_rfl) (by kernel_rfl) (fun _ _ _ h => h) rfl rfl ⟨hB, hz5, hz11⟩ (fun w' h' => exec_not _ _ rfl true rfl) ?_
  go_frame
  refine y_oper 8 (by kernel_rfl) rfl rfl (fun K' hK' => ?_)
  refine wp_exec (some 29) rfl (.bool false) (exec_assign _ rfl (.bool false) rfl) ?_
  refine hK' _ _ ⟨hB, hz5, hz11⟩ (fun _ => trivial) ?_
  clear hK' K'
  go_frame
  refine y_done (by kernel_rfl) ?_ _
  go_upto_region 7 with (fail)
  refine wp_region_y (zs := []) (S := fun w' => Below w.heap.size w w' ∧ At w' Wz2.heap.size (.cells (u8s (form)) 39 (0, 0))) (S2 := fun w' => True) (by kernel_rfl) ?_
  change wpAnyY _ _ _ _ _ _ _ _ _ _ (World.drew _)
  generalize hwdz62 : World.drew _ = wdz62
  replace hB : Below w.heap.size w wdz62 := by rw [← hwdz62]; exact hB.drew
  replace hz5 : At wdz62 w.heap.size (.cells #[.int .i64 p, .int .i64 n, .int .i64 m, .int .i64 k, .slice (some ⟨b0, off0, none⟩) qs.length cap] 28 (0, 0)) := by rw [← hwdz62]; exact hz5
  replace hz11 : At wdz62 Wz2.heap.size (.cells (u8s (form)) 39 (0, 0)) := by rw [← hwdz62]; exact hz11
  replace hz18 : At wdz62 Wz8.heap.size (.cells #[.int .i64 0, .int .i64 0, .int .i64 0, .int .i64 0, .slice none 0 0] 28 (0, 0)) := by rw [← hwdz62]; exact hz18
  replace hz32 : At wdz62 Wz19.heap.size (.cells #[.int .i64 i] 2 (0, 0)) := by rw [← hwdz62]; exact hz32
  clear hwdz62
  refine y_yield 0 (some 40) (.agg (u8s (form))) rfl (by kernel_rfl) (by kernel_rfl) (by kernel_rfl) (fun _ _ _ h => h) rfl rfl ⟨hB, hz11⟩ (fun w' h' => exec_load_all 39 _ rfl Wz2.heap.size rfl _ _ _ h'.2 Try.underlying39 rfl 9 (by kernel_rfl) ((u8s_size _).trans hfm.len)) ?_
  go_frame
  refine y_oper 1 (by kernel_rfl) rfl rfl (fun K' hK' => ?_)
  have lz65 := hB.size
  have lz66 := hz5.lt
  have lz67 := hz11.lt
  have lz68 := hz18.lt
  have lz69 := hz32.lt
  refine wp_call1 (some 41) rfl 45 _ _ rfl (fun args w => by kernel_rfl) _ rfl _ (l01Zero_c form hfm _) (fun e Wz63 h => ?_)
  obtain ⟨rfl, bz64⟩ := h
  replace hB := below_after hB bz64
  replace hz5 := hz5.after bz64
  replace hz11 := hz11.after bz64
  replace hz18 := hz18.after bz64
  replace hz32 := hz32.after bz64
  rw [Hz0.out]
  clear bz64
  refine ⟨_, rfl, ?_⟩
  refine hK' _ _ ⟨hB, hz11⟩ (fun _ => trivial) ?_
  clear hK' K'
  go_frame
  refine y_yield 2 (some 42) (.bool true) rfl (by kernel_rfl) (by kernel_rfl) (by kernel_rfl) (fun _ _ _ h => h) rfl rfl ⟨hB, hz11⟩ (fun w' h' => exec_move _ rfl (.bool true) rfl) ?_
  go_frame
  refine y_skip 3 (some 43) rfl (by kernel_rfl) (by kernel_rfl) (by kernel_rfl) (fun _ _ _ h => h) rfl rfl ⟨hB, hz11⟩ ?_
  go_frame
  refine y_skip 4 (some 44) rfl (by kernel_rfl) (by kernel_rfl) (by kernel_rfl) (fun _ _ _ h => h) rfl rfl ⟨hB, hz11⟩ ?_
  go_frame
  refine y_skip 5 (some 45) rfl (by kernel_rfl) (by kernel_rfl) (by kernel_rfl) (fun _ _ _ h => h) rfl rfl ⟨hB, hz11⟩ ?_
  go_frame
  refine y_skip 6 (some 46) rfl (by kernel_rfl) (by kernel_rfl) (by kernel_rfl) (fun _ _ _ h => h) rfl rfl ⟨hB, hz11⟩ ?_
  go_frame
  refine y_skip 7 (some 47) rfl (by kernel_rfl) (by kernel_rfl) (by kernel_rfl) (fun _ _ _ h => h) rfl rfl ⟨hB, hz11⟩ ?_
  go_frame
  refine y_skip 8 (some 48) rfl (by kernel_rfl) (by kernel_rfl) (by kernel_rfl) (fun _ _ _ h => h) rfl rfl ⟨hB, hz11⟩ ?_
  go_frame
  refine y_skip 9 (some 49) rfl (by kernel_rfl) (by kernel_rfl) (by kernel_rfl) (fun _ _ _ h => h) rfl rfl ⟨hB, hz11⟩ ?_
  go_frame
  refine y_pass 10 (some 50) (by kernel_rfl) rfl rfl rfl ⟨hB, hz11⟩ ?_
  go_frame
  refine y_skip 11 (some 51) rfl (by kernel_rfl) (by kernel_rfl) (by kernel_rfl) (fun _ _ _ h => h) rfl rfl ⟨hB, hz11⟩ ?_
  go_frame
  refine y_yield 12 (some 52) (.bool true) rfl (by kernel_rfl) (by kernel_rfl) (by kernel_rfl) (fun _ _ _ h => h) rfl rfl ⟨hB, hz11⟩ (fun w' h' => exec_pick _ _ _ rfl true rfl (.bool true) rfl) ?_
  go_frame
  refine y_oper 13 (by kernel_rfl) rfl rfl (fun K' hK' => ?_)
  refine wp_exec (some 39) rfl (.bool true) (exec_assign _ rfl (.bool true) rfl) ?_
  refine hK' _ _ ⟨hB, hz11⟩ (fun _ => trivial) ?_
  clear hK' K'
  go_frame
  refine y_done (by kernel_rfl) ?_ _
  go_upto_region 8 with (fail)
  refine wp_region_lit ?_
  refine ls_ex (some 53) (.agg #[.int .i64 0, .int .i64 0, .int .i64 0, .int .i64 0, .slice none 0 0]) rfl rfl (exec_build_nil 28 rfl _ (by kernel_rfl)) ?_
  go_frame
  refine ls_op rfl (fun K' hK' => ?_)
  refine wp_store_all 28 _ _ rfl rfl Wz8.heap.size rfl #[.int .i64 0, .int .i64 0, .int .i64 0, .int .i64 0, .slice none 0 0] rfl _ _ hz18 5 (by kernel_rfl) rfl rfl (one5 _ _ _ _ _ _ _) (fun Wz70 pz71 => ?_)
  replace hB := pz71.below hB (by omega)
  replace hz5 := pz71.other hz5 (by omega)
  replace hz11 := pz71.other hz11 (by omega)
  replace hz32 := pz71.other hz32 (by omega)
  replace hz18 : At Wz70 Wz8.heap.size (.cells #[.int .i64 0, .int .i64 0, .int .i64 0, .int .i64 0, .slice none 0 0] 28 (0, 0)) := pz71.at_
  refine hK' _ _ ?_
  clear hK' K' pz71
  refine ls_ex (some 9) (.int .i64 5) rfl rfl (exec_assign _ rfl (.int .i64 5) rfl) ?_
  go_frame
  refine wpList_nil ?_
  go_wp2_with fail
  refine bodyPost_ret (results_at2 rfl _ _ (Wz8.heap.size) _ _ _ rfl _ rfl hz18 Try.underlying28 rfl 5 (by kernel_rfl) rfl) rfl ?_
  exact ⟨.slice none 0 0, by rw [Hz.out, Hz.out, Hz.out, Hz.out, Hcode.out]; rfl, by rw [Hr.out]; exact Own.nil _ _, hB⟩
set_option maxHeartbeats 4000000 in
theorem specSplit_g0 (p n m k : Int) (b0 off0 : Nat) (cap : Nat) (qs : List (List Nat)) (i : Nat) (form : List Nat) (w : World) (hR : Rd w (some ⟨b0, off0, none⟩) qs) (hlen : qs.length ≤ 1048576) (hfm : Bytes 9 form) (hs : schemeB p n m k qs = true) (hilt : i < qs.length) (hm : formB p form (n * m) = true) (hz : zeroB form = false) (heq : (form == segm qs[i] 0 9) = true) :
    Calls Try.prog 16 #[.agg #[.int .i64 p, .int .i64 n, .int .i64 m, .int .i64 k, .slice (some ⟨b0, off0, none⟩) qs.length cap], .int .i64 i, .int .i64 0, .agg (u8s form)] w (ResS w (spZ p n m k qs i 0 form p) (spZ p n m k qs i 0 form n) (spZ p n m k qs i 0 form m) (spZ p n m k qs i 0 form k) (spR p n m k qs i 0 form) (spCode p n m k qs i 0 form)) := by
  have HIs := Lib.hid (fun w hr => l01Is_c p n m k (some ⟨b0, off0, none⟩) cap qs w hr hlen)
  have hB := Below.refl w.heap.size w
  have Hs := Lib.hid hs
  have hpr := (sizesB_parts (schemeB_sizes hs)).1
  have h5 := primeB_5 hpr
  have hsn := (sizesB_parts (schemeB_sizes hs)).2.1
  have hsm := (sizesB_parts (schemeB_sizes hs)).2.2.1
  have hsk := (sizesB_parts (schemeB_sizes hs)).2.2.2
  have hi : inI (i : Int) qs.length = true := by simp [inI]; omega
  have h31 := schemeB_len hs
  have Hxs : Hid (([(i : Int)].all fun x => inI x qs.length) = true) := Lib.hid (by simp [hi])
  have hbi := hR.good _ (List.getElem_mem hilt)
  have hel : qs[i]?.getD [] = qs[i] := by simp [hilt]
  have Hc := Lib.hid (fun W (hb : Below w.heap.size w W) => Rd.cells27 (hR.keep hb) hilt)
  have hfq : facQ (qs[i]?.getD []) 0 = segm qs[i] 0 9 := by rw [hel]; rfl
  have heq2 := eq_of_beq heq
  have Hm := Lib.hid hm
  have Hcode : Hid (spCode p n m k qs i 0 form = 5) := Lib.hid (by unfold spCode; rw [if_pos hs, hi, show inI 0 3 = true from rfl, show lenF n m k (0 : Int).toNat = n * m from rfl, hm]; simp [hfq, heq2])
  have Hz : Hid (∀ x, spZ p n m k qs i 0 form x = 0) := Lib.hid (fun x => by simp [spZ, Hcode.out])
  have Hr : Hid (spR p n m k qs i 0 form = []) := Lib.hid (by simp [spR, Hcode.out])
  have Hz0 : Hid (zeroB form = false) := Lib.hid hz
  clear hs hm hi hz hfq hel heq2
  generalize HQ0 : qs[i] = q at *
  have HQi := Lib.hid HQ0
  clear HQ0
  obtain ⟨QA, QB, QC, rfl, hQA, hQB, hQC⟩ := parts3 hbi
  have hq := bytes3 hQA hQB hQC
  have Hfac : Hid (facQ (cat3 QA QB QC) 0 = QA) := Lib.hid (segm_a hQA.len)
  rw [segm_a hQA.len] at heq
  have Heq := Lib.hid heq
  clear heq
  go_enter Try.func16, Try.ntmps16
  go_upto_region 0 with (fail)
  refine wp_region_lit ?_
  refine ls_op rfl (fun K' hK' => ?_)
  have lz1 := hB.size
  refine wp_new (some 4) rfl (exec_box 28 _ rfl (#[.int .i64 p, .int .i64 n, .int .i64 m, .int .i64 k, .slice (some ⟨b0, off0, none⟩) qs.length cap]) rfl) (fun Wz2 nnz3 => ?_)
  have bz4 := nnz3.below (Below.refl _ _) (Nat.le_refl _)
  replace hB := below_after hB bz4
  have hz5 : At Wz2 w.heap.size (.cells #[.int .i64 p, .int .i64 n, .int .i64 m, .int .i64 k, .slice (some ⟨b0, off0, none⟩) qs.length cap] 28 (0, 0)) := nnz3.at_
  refine hK' _ _ ?_
  clear hK' K' nnz3 bz4
  go_frame
  refine ls_op rfl (fun K' hK' => ?_)
  have lz6 := hB.size
  have lz7 := hz5.lt
  refine wp_new (some 7) rfl (exec_box 39 _ rfl (u8s (form)) rfl) (fun Wz8 nnz9 => ?_)
  have bz10 := nnz9.below (Below.refl _ _) (Nat.le_refl _)
  replace hB := below_after hB bz10
  replace hz5 := hz5.after bz10
  have hz11 : At Wz8 Wz2.heap.size (.cells (u8s (form)) 39 (0, 0)) := nnz9.at_
  refine hK' _ _ ?_
  clear hK' K' nnz9 bz10
  go_frame
  refine ls_op rfl (fun K' hK' => ?_)
  have lz12 := hB.size
  have lz13 := hz5.lt
  have lz14 := hz11.lt
  refine wp_new (some 8) rfl (als_impl_Scheme rfl) (fun Wz15 nnz16 => ?_)
  have bz17 := nnz16.below (Below.refl _ _) (Nat.le_refl _)
  replace hB := below_after hB bz17
  replace hz5 := hz5.after bz17
  replace hz11 := hz11.after bz17
  have hz18 : At Wz15 Wz8.heap.size (.cells #[.int .i64 0, .int .i64 0, .int .i64 0, .int .i64 0, .slice none 0 0] 28 (0, 0)) := nnz16.at_
  refine hK' _ _ ?_
  clear hK' K' nnz16 bz17
  go_frame
  refine ls_ex (some 9) (.int .i64 0) rfl rfl (exec_assign _ rfl (.int .i64 0) rfl) ?_
  go_frame
  refine wpList_nil ?_
  go_upto_region 1 with (fail)
  refine wp_region_lit ?_
  refine ls_ex (some 13) (.agg #[.int .i64 p, .int .i64 n, .int .i64 m, .int .i64 k, .slice (some ⟨b0, off0, none⟩) qs.length cap]) rfl rfl (exec_load_all 28 _ rfl w.heap.size rfl _ _ _ hz5 Try.underlying28 rfl 5 (by kernel_rfl) rfl) ?_
  go_frame
  refine ls_op rfl (fun K' hK' => ?_)
  have lz21 := hB.size
  have lz22 := hz5.lt
  have lz23 := hz11.lt
  have lz24 := hz18.lt
  refine wp_call1 (some 14) rfl 22 _ _ rfl (fun args w => by kernel_rfl) _ rfl _ (HIs.out _ (hR.keep hB)) (fun e Wz19 h => ?_)
  obtain ⟨rfl, bz20⟩ := h
  replace hB := below_after hB bz20
  replace hz5 := hz5.after bz20
  replace hz11 := hz11.after bz20
  replace hz18 := hz18.after bz20
  rw [Hs.out]
  clear bz20
  refine ⟨_, rfl, ?_⟩
  refine hK' _ _ ?_
  clear hK' K'
  go_frame
  refine ls_ex (some 15) (.bool false) rfl rfl (exec_not _ _ rfl true rfl) ?_
  go_frame
  refine ls_ex (some 12) (.bool false) rfl rfl (exec_assign _ rfl (.bool false) rfl) ?_
  go_frame
  refine wpList_nil ?_
  go_upto_region 3 with (fail)
  refine wp_region_lit ?_
  refine ls_ex (some 18) (.agg #[.int .i64 p, .int .i64 n, .int .i64 m, .int .i64 k, .slice (some ⟨b0, off0, none⟩) qs.length cap]) rfl rfl (exec_load_all 28 _ rfl w.heap.size rfl _ _ _ hz5 Try.underlying28 rfl 5 (by kernel_rfl) rfl) ?_
  go_frame
  refine ls_ex (some 19) (.int .i64 i) rfl rfl (exec_move _ rfl (.int .i64 i) rfl) ?_
  go_frame
  refine ls_op rfl (fun K' hK' => ?_)
  have lz25 := hB.size
  have lz26 := hz5.lt
  have lz27 := hz11.lt
  have lz28 := hz18.lt
  refine wp_new (some 20) rfl (exec_bsi1 _ rfl i rfl) (fun Wz29 nnz30 => ?_)
  have bz31 := nnz30.below (Below.refl _ _) (Nat.le_refl _)
  replace hB := below_after hB bz31
  replace hz5 := hz5.after bz31
  replace hz11 := hz11.after bz31
  replace hz18 := hz18.after bz31
  have hz32 : At Wz29 Wz19.heap.size (.cells #[.int .i64 i] 2 (0, 0)) := nnz30.at_
  refine hK' _ _ ?_
  clear hK' K' nnz30 bz31
  go_frame
  refine ls_op rfl (fun K' hK' => ?_)
  have lz35 := hB.size
  have lz36 := hz5.lt
  have lz37 := hz11.lt
  have lz38 := hz18.lt
  have lz39 := hz32.lt
  refine wp_call2 (some 21) rfl 32 _ _ _ rfl (fun args w => by kernel_rfl) _ _ rfl rfl _ (l03Numbers_c p n m k _ cap qs.length (Wz19.heap.size) 1 [(i : Int)] _ (by omega) (by simp) (fun t ht => by match t, ht with | 0, _ => exact hz32.at_ 0)) (fun e Wz33 h => ?_)
  obtain ⟨rfl, bz34⟩ := h
  replace hB := below_after hB bz34
  replace hz5 := hz5.after bz34
  replace hz11 := hz11.after bz34
  replace hz18 := hz18.after bz34
  replace hz32 := hz32.after bz34
  rw [Hxs.out]
  clear bz34
  refine ⟨_, rfl, ?_⟩
  refine hK' _ _ ?_
  clear hK' K'
  go_frame
  refine ls_ex (some 22) (.bool false) rfl rfl (exec_not _ _ rfl true rfl) ?_
  go_frame
  refine ls_ex (some 23) (.bool false) rfl rfl (exec_move _ rfl (.bool false) rfl) ?_
  go_frame
  refine ls_ex_g (some 24) (.int .i64 0) rfl rfl (exec_move _ rfl (.int .i64 0) rfl) ?_
  go_frame
  refine ls_op_g rfl (fun K' hK' => ?_)
  have lz42 := hB.size
  have lz43 := hz5.lt
  have lz44 := hz11.lt
  have lz45 := hz18.lt
  have lz46 := hz32.lt
  refine wp_call3 (some 25) rfl 42 _ _ _ _ rfl (fun args w => by kernel_rfl) _ _ _ rfl rfl rfl _ (l01In_c 0 0 2 _) (fun e Wz40 h => ?_)
  obtain ⟨rfl, rfl⟩ := h
  refine ⟨_, rfl, ?_⟩
  refine hK' _ _ ?_
  clear hK' K'
  go_frame
  refine ls_ex_g (some 26) (.bool false) rfl rfl (exec_not _ _ rfl true rfl) ?_
  go_frame
  refine ls_ex (some 27) (.bool false) rfl rfl (exec_pick _ _ _ rfl false rfl (.bool false) rfl) ?_
  go_frame
  refine ls_ex (some 17) (.bool false) rfl rfl (exec_assign _ rfl (.bool false) rfl) ?_
  go_frame
  refine wpList_nil ?_
  go_upto_region 5 with (fail)
  refine wp_region_y (zs := []) (S := fun w' => Below w.heap.size w w' ∧ At w' w.heap.size (.cells #[.int .i64 p, .int .i64 n, .int .i64 m, .int .i64 k, .slice (some ⟨b0, off0, none⟩) qs.length cap] 28 (0, 0)) ∧ At w' Wz2.heap.size (.cells (u8s (form)) 39 (0, 0))) (S2 := fun w' => True) (by kernel_rfl) ?_
  change wpAnyY _ _ _ _ _ _ _ _ _ _ (World.drew _)
  generalize hwdz47 : World.drew _ = wdz47
  replace hB : Below w.heap.size w wdz47 := by rw [← hwdz47]; exact hB.drew
  replace hz5 : At wdz47 w.heap.size (.cells #[.int .i64 p, .int .i64 n, .int .i64 m, .int .i64 k, .slice (some ⟨b0, off0, none⟩) qs.length cap] 28 (0, 0)) := by rw [← hwdz47]; exact hz5
  replace hz11 : At wdz47 Wz2.heap.size (.cells (u8s (form)) 39 (0, 0)) := by rw [← hwdz47]; exact hz11
  replace hz18 : At wdz47 Wz8.heap.size (.cells #[.int .i64 0, .int .i64 0, .int .i64 0, .int .i64 0, .slice none 0 0] 28 (0, 0)) := by rw [← hwdz47]; exact hz18
  replace hz32 : At wdz47 Wz19.heap.size (.cells #[.int .i64 i] 2 (0, 0)) := by rw [← hwdz47]; exact hz32
  clear hwdz47
  refine y_yield 0 (some 30) (.pointer (some ⟨w.heap.size, 0, none⟩)) rfl (by kernel_rfl) (by kernel_rfl) (by kernel_rfl) (fun _ _ _ h => h) rfl rfl ⟨hB, hz5, hz11⟩ (fun w' h' => exec_fieldAddr 28 _ 0 rfl _ (by kernel_rfl)) ?_
  go_frame
  refine y_yield 1 (some 31) (.int .i64 p) rfl (by kernel_rfl) (by kernel_rfl) (by kernel_rfl) (fun _ _ _ h => h) rfl rfl ⟨hB, hz5, hz11⟩ (fun w' h' => exec_load_one 2 _ rfl w.heap.size 0 rfl (.int .i64 p) _ Try.underlying2 rfl (h'.2.1.at_ 0)) ?_
  go_frame
  refine y_yield 2 (some 32) (.agg (u8s (form))) rfl (by kernel_rfl) (by kernel_rfl) (by kernel_rfl) (fun _ _ _ h => h) rfl rfl ⟨hB, hz5, hz11⟩ (fun w' h' => exec_load_all 39 _ rfl Wz2.heap.size rfl _ _ _ h'.2.2 Try.underlying39 rfl 9 (by kernel_rfl) ((u8s_size _).trans hfm.len)) ?_
  go_frame
  refine y_yield 3 (some 33) (.agg #[.int .i64 p, .int .i64 n, .int .i64 m, .int .i64 k, .slice (some ⟨b0, off0, none⟩) qs.length cap]) rfl (by kernel_rfl) (by kernel_rfl) (by kernel_rfl) (fun _ _ _ h => h) rfl rfl ⟨hB, hz5, hz11⟩ (fun w' h' => exec_load_all 28 _ rfl w.heap.size rfl _ _ _ h'.2.1 Try.underlying28 rfl 5 (by kernel_rfl) rfl) ?_
  go_frame
  refine y_yield 4 (some 34) (.int .i64 0) rfl (by kernel_rfl) (by kernel_rfl) (by kernel_rfl) (fun _ _ _ h => h) rfl rfl ⟨hB, hz5, hz11⟩ (fun w' h' => exec_move _ rfl (.int .i64 0) rfl) ?_
  go_frame
  refine y_oper 5 (by kernel_rfl) rfl rfl (fun K' hK' => ?_)
  have lz50 := hB.size
  have lz51 := hz5.lt
  have lz52 := hz11.lt
  have lz53 := hz18.lt
  have lz54 := hz32.lt
  refine wp_call2 (some 35) rfl 44 _ _ _ rfl (fun args w => by kernel_rfl) _ _ rfl rfl _ (l03Length_c p n m k _ 0 (by omega) _ hsn hsm hsk) (fun e Wz48 h => ?_)
  obtain ⟨rfl, bz49⟩ := h
  replace hB := below_after hB bz49
  replace hz5 := hz5.after bz49
  replace hz11 := hz11.after bz49
  replace hz18 := hz18.after bz49
  replace hz32 := hz32.after bz49
  rw [show lenF n m k 0 = n * m from rfl]
  clear bz49
  refine ⟨_, rfl, ?_⟩
  refine hK' _ _ ⟨hB, hz5, hz11⟩ (fun _ => trivial) ?_
  clear hK' K'
  go_frame
  refine y_oper 6 (by kernel_rfl) rfl rfl (fun K' hK' => ?_)
  have lz57 := hB.size
  have lz58 := hz5.lt
  have lz59 := hz11.lt
  have lz60 := hz18.lt
  have lz61 := hz32.lt
  refine wp_call3 (some 36) rfl 43 _ _ _ _ rfl (fun args w => by kernel_rfl) _ _ _ rfl rfl rfl _ (l01Form_c p form (n * m) hfm _) (fun e Wz55 h => ?_)
  obtain ⟨rfl, bz56⟩ := h
  replace hB := below_after hB bz56
  replace hz5 := hz5.after bz56
  replace hz11 := hz11.after bz56
  replace hz18 := hz18.after bz56
  replace hz32 := hz32.after bz56
  rw [Hm.out]
  clear bz56
  refine ⟨_, rfl, ?_⟩
  refine hK' _ _ ⟨hB, hz5, hz11⟩ (fun _ => trivial) ?_
  clear hK' K'
  go_frame
  refine y_yield 7 (some 37) (.bool false) rfl (by kernel_rfl) (by kernel_rfl) (by kernel_rfl) (fun _ _ _ h => h) rfl rfl ⟨hB, hz5, hz11⟩ (fun w' h' => exec_not _ _ rfl true rfl) ?_
  go_frame
  refine y_oper 8 (by kernel_rfl) rfl rfl (fun K' hK' => ?_)
  refine wp_exec (some 29) rfl (.bool false) (exec_assign _ rfl (.bool false) rfl) ?_
  refine hK' _ _ ⟨hB, hz5, hz11⟩ (fun _ => trivial) ?_
  clear hK' K'
  go_frame
  refine y_done (by kernel_rfl) ?_ _
  go_upto_region 7 with (fail)
  refine wp_region_y (zs := []) (S := fun w' => Below w.heap.size w w' ∧ At w' Wz2.heap.size (.cells (u8s (form)) 39 (0, 0)) ∧ At w' w.heap.size (.cells #[.int .i64 p, .int .i64 n, .int .i64 m, .int .i64 k, .slice (some ⟨b0, off0, none⟩) qs.length cap] 28 (0, 0))) (S2 := fun w' => True) (by kernel_rfl) ?_
  change wpAnyY _ _ _ _ _ _ _ _ _ _ (World.drew _)
  generalize hwdz62 : World.drew _ = wdz62
  replace hB : Below w.heap.size w wdz62 := by rw [← hwdz62]; exact hB.drew
  replace hz5 : At wdz62 w.heap.size (.cells #[.int .i64 p, .int .i64 n, .int .i64 m, .int .i64 k, .slice (some ⟨b0, off0, none⟩) qs.length cap] 28 (0, 0)) := by rw [← hwdz62]; exact hz5
  replace hz11 : At wdz62 Wz2.heap.size (.cells (u8s (form)) 39 (0, 0)) := by rw [← hwdz62]; exact hz11
  replace hz18 : At wdz62 Wz8.heap.size (.cells #[.int .i64 0, .int .i64 0, .int .i64 0, .int .i64 0, .slice none 0 0] 28 (0, 0)) := by rw [← hwdz62]; exact hz18
  replace hz32 : At wdz62 Wz19.heap.size (.cells #[.int .i64 i] 2 (0, 0)) := by rw [← hwdz62]; exact hz32
  clear hwdz62
  refine y_yield 0 (some 40) (.agg (u8s (form))) rfl (by kernel_rfl) (by kernel_rfl) (by kernel_rfl) (fun _ _ _ h => h) rfl rfl ⟨hB, hz11, hz5⟩ (fun w' h' => exec_load_all 39 _ rfl Wz2.heap.size rfl _ _ _ h'.2.1 Try.underlying39 rfl 9 (by kernel_rfl) ((u8s_size _).trans hfm.len)) ?_
  go_frame
  refine y_oper 1 (by kernel_rfl) rfl rfl (fun K' hK' => ?_)
  have lz65 := hB.size
  have lz66 := hz5.lt
  have lz67 := hz11.lt
  have lz68 := hz18.lt
  have lz69 := hz32.lt
  refine wp_call1 (some 41) rfl 45 _ _ rfl (fun args w => by kernel_rfl) _ rfl _ (l01Zero_c form hfm _) (fun e Wz63 h => ?_)
  obtain ⟨rfl, bz64⟩ := h
  replace hB := below_after hB bz64
  replace hz5 := hz5.after bz64
  replace hz11 := hz11.after bz64
  replace hz18 := hz18.after bz64
  replace hz32 := hz32.after bz64
  rw [Hz0.out]
  clear bz64
  refine ⟨_, rfl, ?_⟩
  refine hK' _ _ ⟨hB, hz11, hz5⟩ (fun _ => trivial) ?_
  clear hK' K'
  go_frame
  refine y_yield 2 (some 42) (.bool false) rfl (by kernel_rfl) (by kernel_rfl) (by kernel_rfl) (fun _ _ _ h => h) rfl rfl ⟨hB, hz11, hz5⟩ (fun w' h' => exec_move _ rfl (.bool false) rfl) ?_
  go_frame
  refine y_yield 3 (some 43) (.agg (u8s (form))) rfl (by kernel_rfl) (by kernel_rfl) (by kernel_rfl) (fun _ _ _ h => h) rfl rfl ⟨hB, hz11, hz5⟩ (fun w' h' => exec_load_all 39 _ rfl Wz2.heap.size rfl _ _ _ h'.2.1 Try.underlying39 rfl 9 (by kernel_rfl) ((u8s_size _).trans hfm.len)) ?_
  go_frame
  refine y_yield 4 (some 44) (.pointer (some ⟨w.heap.size, 4, none⟩)) rfl (by kernel_rfl) (by kernel_rfl) (by kernel_rfl) (fun _ _ _ h => h) rfl rfl ⟨hB, hz11, hz5⟩ (fun w' h' => exec_fieldAddr 28 _ 4 rfl _ (by kernel_rfl)) ?_
  go_frame
  refine y_yield 5 (some 45) (.slice (some ⟨b0, off0, none⟩) qs.length cap) rfl (by kernel_rfl) (by kernel_rfl) (by kernel_rfl) (fun _ _ _ h => h) rfl rfl ⟨hB, hz11, hz5⟩ (fun w' h' => exec_load_one 26 _ rfl w.heap.size 4 rfl (.slice (some ⟨b0, off0, none⟩) qs.length cap) _ Try.underlying26 rfl (h'.2.2.at_ 4)) ?_
  go_frame
  refine y_yield 6 (some 46) (.int .i64 i) rfl (by kernel_rfl) (by kernel_rfl) (by kernel_rfl) (fun _ _ _ h => h) rfl rfl ⟨hB, hz11, hz5⟩ (fun w' h' => exec_move _ rfl (.int .i64 i) rfl) ?_
  go_frame
  refine y_yield 7 (some 47) (.pointer (some ⟨b0, off0 + i * 27, none⟩)) rfl (by kernel_rfl) (by kernel_rfl) (by kernel_rfl) (fun _ _ _ h => h) rfl rfl ⟨hB, hz11, hz5⟩ (fun w' h' => exec_index_slice _ 58 _ _ rfl b0 off0 qs.length cap i 27 rfl rfl Try.underlying26 (by kernel_rfl) hilt) ?_
  go_frame
  refine y_yield 8 (some 48) (.agg (u8s (cat3 QA QB QC))) rfl (by kernel_rfl) (by kernel_rfl) (by kernel_rfl) (fun _ _ _ h => h) rfl rfl ⟨hB, hz11, hz5⟩ (fun w' h' => exec_load_cells 58 _ rfl b0 (off0 + i * 27) rfl (cat3 QA QB QC) _ 27 (Hc.out _ h'.1) Try.underlying58 rfl (by kernel_rfl) (hq.len)) ?_
  go_frame
  refine y_yield 9 (some 49) (.int .i64 0) rfl (by kernel_rfl) (by kernel_rfl) (by kernel_rfl) (fun _ _ _ h => h) rfl rfl ⟨hB, hz11, hz5⟩ (fun w' h' => exec_move _ rfl (.int .i64 0) rfl) ?_
  go_frame
  refine y_oper 10 (by kernel_rfl) rfl rfl (fun K' hK' => ?_)
  have lz72 := hB.size
  have lz73 := hz5.lt
  have lz74 := hz11.lt
  have lz75 := hz18.lt
  have lz76 := hz32.lt
  refine wp_call2 (some 50) rfl 46 _ _ _ rfl (fun args w => by kernel_rfl) _ _ rfl rfl _ (l03Factor_c (cat3 QA QB QC) 0 hq (by omega) _) (fun e Wz70 h => ?_)
  obtain ⟨rfl, bz71⟩ := h
  replace hB := below_after hB bz71
  replace hz5 := hz5.after bz71
  replace hz11 := hz11.after bz71
  replace hz18 := hz18.after bz71
  replace hz32 := hz32.after bz71
  rw [Hfac.out]
  clear bz71
  refine ⟨_, rfl, ?_⟩
  refine hK' _ _ ⟨hB, hz11, hz5⟩ (fun _ => trivial) ?_
  clear hK' K'
  go_frame
  refine y_yield 11 (some 51) (.bool true) rfl (by kernel_rfl) (by kernel_rfl) (by kernel_rfl) (fun _ _ _ h => h) rfl rfl ⟨hB, hz11, hz5⟩ (fun w' h' => exec_eql_u8s_b 39 _ _ _ _ rfl 9 Try.underlying39 Try.underlying5 (by kernel_rfl) (by kernel_rfl) (form) (QA) rfl rfl hfm.len hQA.len true Heq.out) ?_
  go_frame
  refine y_yield 12 (some 52) (.bool true) rfl (by kernel_rfl) (by kernel_rfl) (by kernel_rfl) (fun _ _ _ h => h) rfl rfl ⟨hB, hz11, hz5⟩ (fun w' h' => exec_pick _ _ _ rfl false rfl (.bool true) rfl) ?_
  go_frame
  refine y_oper 13 (by kernel_rfl) rfl rfl (fun K' hK' => ?_)
  refine wp_exec (some 39) rfl (.bool true) (exec_assign _ rfl (.bool true) rfl) ?_
  refine hK' _ _ ⟨hB, hz11, hz5⟩ (fun _ => trivial) ?_
  clear hK' K'
  go_frame
  refine y_done (by kernel_rfl) ?_ _
  go_upto_region 8 with (fail)
  refine wp_region_lit ?_
  refine ls_ex (some 53) (.agg #[.int .i64 0, .int .i64 0, .int .i64 0, .int .i64 0, .slice none 0 0]) rfl rfl (exec_build_nil 28 rfl _ (by kernel_rfl)) ?_
  go_frame
  refine ls_op rfl (fun K' hK' => ?_)
  refine wp_store_all 28 _ _ rfl rfl Wz8.heap.size rfl #[.int .i64 0, .int .i64 0, .int .i64 0, .int .i64 0, .slice none 0 0] rfl _ _ hz18 5 (by kernel_rfl) rfl rfl (one5 _ _ _ _ _ _ _) (fun Wz77 pz78 => ?_)
  replace hB := pz78.below hB (by omega)
  replace hz5 := pz78.other hz5 (by omega)
  replace hz11 := pz78.other hz11 (by omega)
  replace hz32 := pz78.other hz32 (by omega)
  replace hz18 : At Wz77 Wz8.heap.size (.cells #[.int .i64 0, .int .i64 0, .int .i64 0, .int .i64 0, .slice none 0 0] 28 (0, 0)) := pz78.at_
  refine hK' _ _ ?_
  clear hK' K' pz78
  refine ls_ex (some 9) (.int .i64 5) rfl rfl (exec_assign _ rfl (.int .i64 5) rfl) ?_
  go_frame
  refine wpList_nil ?_
  go_wp2_with fail
  refine bodyPost_ret (results_at2 rfl _ _ (Wz8.heap.size) _ _ _ rfl _ rfl hz18 Try.underlying28 rfl 5 (by kernel_rfl) rfl) rfl ?_
  exact ⟨.slice none 0 0, by rw [Hz.out, Hz.out, Hz.out, Hz.out, Hcode.out]; rfl, by rw [Hr.out]; exact Own.nil _ _, hB⟩
set_option maxHeartbeats 4000000 in
theorem specSplit_h0 (p n m k : Int) (b0 off0 : Nat) (cap : Nat) (qs : List (List Nat)) (i : Nat) (form : List Nat) (w : World) (hR : Rd w (some ⟨b0, off0, none⟩) qs) (hlen : qs.length ≤ 1048576) (hfm : Bytes 9 form) (hs : schemeB p n m k qs = true) (hilt : i < qs.length) (hm : formB p form (n * m) = true) (hz : zeroB form = false) (heq : (form == segm qs[i] 0 9) = false) (h30 : qs.length = 30) :
    Calls Try.prog 16 #[.agg #[.int .i64 p, .int .i64 n, .int .i64 m, .int .i64 k, .slice (some ⟨b0, off0, none⟩) qs.length cap], .int .i64 i, .int .i64 0, .agg (u8s form)] w (ResS w (spZ p n m k qs i 0 form p) (spZ p n m k qs i 0 form n) (spZ p n m k qs i 0 form m) (spZ p n m k qs i 0 form k) (spR p n m k qs i 0 form) (spCode p n m k qs i 0 form)) := by
  have HIs := Lib.hid (fun w hr => l01Is_c p n m k (some ⟨b0, off0, none⟩) cap qs w hr hlen)
  have hB := Below.refl w.heap.size w
  have Hs := Lib.hid hs
  have hpr := (sizesB_parts (schemeB_sizes hs)).1
  have h5 := primeB_5 hpr
  have hsn := (sizesB_parts (schemeB_sizes hs)).2.1
  have hsm := (sizesB_parts (schemeB_sizes hs)).2.2.1
  have hsk := (sizesB_parts (schemeB_sizes hs)).2.2.2
  have hi : inI (i : Int) qs.length = true := by simp [inI]; omega
  have h31 := schemeB_len hs
  have Hxs : Hid (([(i : Int)].all fun x => inI x qs.length) = true) := Lib.hid (by simp [hi])
  have hbi := hR.good _ (List.getElem_mem hilt)
  have hel : qs[i]?.getD [] = qs[i] := by simp [hilt]
  have Hc := Lib.hid (fun W (hb : Below w.heap.size w W) => Rd.cells27 (hR.keep hb) hilt)
  have hfq : facQ (qs[i]?.getD []) 0 = segm qs[i] 0 9 := by rw [hel]; rfl
  have heq2 : ¬ form = segm qs[i] 0 9 := by simpa using heq
  have Hm := Lib.hid hm
  have Hcode : Hid (spCode p n m k qs i 0 form = 3) := Lib.hid (by unfold spCode; rw [if_pos hs, hi, show inI 0 3 = true from rfl, show lenF n m k (0 : Int).toNat = n * m from rfl, hm]; simp [hz, hfq, heq2, h30])
  have Hz : Hid (∀ x, spZ p n m k qs i 0 form x = 0) := Lib.hid (fun x => by simp [spZ, Hcode.out])
  have Hr : Hid (spR p n m k qs i 0 form = []) := Lib.hid (by simp [spR, Hcode.out])
  have Hz0 : Hid (zeroB form = false) := Lib.hid hz
  have Hlen : Hid (((qs.length : Int) == 30) = true) := Lib.hid (by simp; omega)
  clear hs hm hi hz hfq hel heq2
  generalize HQ0 : qs[i] = q at *
  have HQi := Lib.hid HQ0
  clear HQ0
  obtain ⟨QA, QB, QC, rfl, hQA, hQB, hQC⟩ := parts3 hbi
  have hq := bytes3 hQA hQB hQC
  have Hfac : Hid (facQ (cat3 QA QB QC) 0 = QA) := Lib.hid (segm_a hQA.len)
  rw [segm_a hQA.len] at heq
  have Heq := Lib.hid heq
  clear heq
  go_enter Try.func16, Try.ntmps16
  go_upto_region 0 with (fail)
  refine wp_region_lit ?_
  refine ls_op rfl (fun K' hK' => ?_)
  have lz1 := hB.size
  refine wp_new (some 4) rfl (exec_box 28 _ rfl (#[.int .i64 p, .int .i64 n, .int .i64 m, .int .i64 k, .slice (some ⟨b0, off0, none⟩) qs.length cap]) rfl) (fun Wz2 nnz3 => ?_)
  have bz4 := nnz3.below (Below.refl _ _) (Nat.le_refl _)
  replace hB := below_after hB bz4
  have hz5 : At Wz2 w.heap.size (.cells #[.int .i64 p, .int .i64 n, .int .i64 m, .int .i64 k, .slice (some ⟨b0, off0, none⟩) qs.length cap] 28 (0, 0)) := nnz3.at_
  refine hK' _ _ ?_
  clear hK' K' nnz3 bz4
  go_frame
  refine ls_op rfl (fun K' hK' => ?_)
  have lz6 := hB.size
  have lz7 := hz5.lt
  refine wp_new (some 7) rfl (exec_box 39 _ rfl (u8s (form)) rfl) (fun Wz8 nnz9 => ?_)
  have bz10 := nnz9.below (Below.refl _ _) (Nat.le_refl _)
  replace hB := below_after hB bz10
  replace hz5 := hz5.after bz10
  have hz11 : At Wz8 Wz2.heap.size (.cells (u8s (form)) 39 (0, 0)) := nnz9.at_
  refine hK' _ _ ?_
  clear hK' K' nnz9 bz10
  go_frame
  refine ls_op rfl (fun K' hK' => ?_)
  have lz12 := hB.size
  have lz13 := hz5.lt
  have lz14 := hz11.lt
  refine wp_new (some 8) rfl (als_impl_Scheme rfl) (fun Wz15 nnz16 => ?_)
  have bz17 := nnz16.below (Below.refl _ _) (Nat.le_refl _)
  replace hB := below_after hB bz17
  replace hz5 := hz5.after bz17
  replace hz11 := hz11.after bz17
  have hz18 : At Wz15 Wz8.heap.size (.cells #[.int .i64 0, .int .i64 0, .int .i64 0, .int .i64 0, .slice none 0 0] 28 (0, 0)) := nnz16.at_
  refine hK' _ _ ?_
  clear hK' K' nnz16 bz17
  go_frame
  refine ls_ex (some 9) (.int .i64 0) rfl rfl (exec_assign _ rfl (.int .i64 0) rfl) ?_
  go_frame
  refine wpList_nil ?_
  go_upto_region 1 with (fail)
  refine wp_region_lit ?_
  refine ls_ex (some 13) (.agg #[.int .i64 p, .int .i64 n, .int .i64 m, .int .i64 k, .slice (some ⟨b0, off0, none⟩) qs.length cap]) rfl rfl (exec_load_all 28 _ rfl w.heap.size rfl _ _ _ hz5 Try.underlying28 rfl 5 (by kernel_rfl) rfl) ?_
  go_frame
  refine ls_op rfl (fun K' hK' => ?_)
  have lz21 := hB.size
  have lz22 := hz5.lt
  have lz23 := hz11.lt
  have lz24 := hz18.lt
  refine wp_call1 (some 14) rfl 22 _ _ rfl (fun args w => by kernel_rfl) _ rfl _ (HIs.out _ (hR.keep hB)) (fun e Wz19 h => ?_)
  obtain ⟨rfl, bz20⟩ := h
  replace hB := below_after hB bz20
  replace hz5 := hz5.after bz20
  replace hz11 := hz11.after bz20
  replace hz18 := hz18.after bz20
  rw [Hs.out]
  clear bz20
  refine ⟨_, rfl, ?_⟩
  refine hK' _ _ ?_
  clear hK' K'
  go_frame
  refine ls_ex (some 15) (.bool false) rfl rfl (exec_not _ _ rfl true rfl) ?_
  go_frame
  refine ls_ex (some 12) (.bool false) rfl rfl (exec_assign _ rfl (.bool false) rfl) ?_
  go_frame
  refine wpList_nil ?_
  go_upto_region 3 with (fail)
  refine wp_region_lit ?_
  refine ls_ex (some 18) (.agg #[.int .i64 p, .int .i64 n, .int .i64 m, .int .i64 k, .slice (some ⟨b0, off0, none⟩) qs.length cap]) rfl rfl (exec_load_all 28 _ rfl w.heap.size rfl _ _ _ hz5 Try.underlying28 rfl 5 (by kernel_rfl) rfl) ?_
  go_frame
  refine ls_ex (some 19) (.int .i64 i) rfl rfl (exec_move _ rfl (.int .i64 i) rfl) ?_
  go_frame
  refine ls_op rfl (fun K' hK' => ?_)
  have lz25 := hB.size
  have lz26 := hz5.lt
  have lz27 := hz11.lt
  have lz28 := hz18.lt
  refine wp_new (some 20) rfl (exec_bsi1 _ rfl i rfl) (fun Wz29 nnz30 => ?_)
  have bz31 := nnz30.below (Below.refl _ _) (Nat.le_refl _)
  replace hB := below_after hB bz31
  replace hz5 := hz5.after bz31
  replace hz11 := hz11.after bz31
  replace hz18 := hz18.after bz31
  have hz32 : At Wz29 Wz19.heap.size (.cells #[.int .i64 i] 2 (0, 0)) := nnz30.at_
  refine hK' _ _ ?_
  clear hK' K' nnz30 bz31
  go_frame
  refine ls_op rfl (fun K' hK' => ?_)
  have lz35 := hB.size
  have lz36 := hz5.lt
  have lz37 := hz11.lt
  have lz38 := hz18.lt
  have lz39 := hz32.lt
  refine wp_call2 (some 21) rfl 32 _ _ _ rfl (fun args w => by kernel_rfl) _ _ rfl rfl _ (l03Numbers_c p n m k _ cap qs.length (Wz19.heap.size) 1 [(i : Int)] _ (by omega) (by simp) (fun t ht => by match t, ht with | 0, _ => exact hz32.at_ 0)) (fun e Wz33 h => ?_)
  obtain ⟨rfl, bz34⟩ := h
  replace hB := below_after hB bz34
  replace hz5 := hz5.after bz34
  replace hz11 := hz11.after bz34
  replace hz18 := hz18.after bz34
  replace hz32 := hz32.after bz34
  rw [Hxs.out]
  clear bz34
  refine ⟨_, rfl, ?_⟩
  refine hK' _ _ ?_
  clear hK' K'
  go_frame
  refine ls_ex (some 22) (.bool false) rfl rfl (exec_not _ _ rfl true rfl) ?_
  go_frame
  refine ls_ex (some 23) (.bool false) rfl rfl (exec_move _ rfl (.bool false) rfl) ?_
  go_frame
  refine ls_ex_g (some 24) (.int .i64 0) rfl rfl (exec_move _ rfl (.int .i64 0) rfl) ?_
  go_frame
  refine ls_op_g rfl (fun K' hK' => ?_)
  have lz42 := hB.size
  have lz43 := hz5.lt
  have lz44 := hz11.lt
  have lz45 := hz18.lt
  have lz46 := hz32.lt
  refine wp_call3 (some 25) rfl 42 _ _ _ _ rfl (fun args w => by kernel_rfl) _ _ _ rfl rfl rfl _ (l01In_c 0 0 2 _) (fun e Wz40 h => ?_)
  obtain ⟨rfl, rfl⟩ := h
  refine ⟨_, rfl, ?_⟩
  refine hK' _ _ ?_
  clear hK' K'
  go_frame
  refine ls_ex_g (some 26) (.bool false) rfl rfl (exec_not _ _ rfl true rfl) ?_
  go_frame
  refine ls_ex (some 27) (.bool false) rfl rfl (exec_pick _ _ _ rfl false rfl (.bool false) rfl) ?_
  go_frame
  refine ls_ex (some 17) (.bool false) rfl rfl (exec_assign _ rfl (.bool false) rfl) ?_
  go_frame
  refine wpList_nil ?_
  go_upto_region 5 with (fail)
  refine wp_region_y (zs := []) (S := fun w' => Below w.heap.size w w' ∧ At w' w.heap.size (.cells #[.int .i64 p, .int .i64 n, .int .i64 m, .int .i64 k, .slice (some ⟨b0, off0, none⟩) qs.length cap] 28 (0, 0)) ∧ At w' Wz2.heap.size (.cells (u8s (form)) 39 (0, 0))) (S2 := fun w' => True) (by kernel_rfl) ?_
  change wpAnyY _ _ _ _ _ _ _ _ _ _ (World.drew _)
  generalize hwdz47 : World.drew _ = wdz47
  replace hB : Below w.heap.size w wdz47 := by rw [← hwdz47]; exact hB.drew
  replace hz5 : At wdz47 w.heap.size (.cells #[.int .i64 p, .int .i64 n, .int .i64 m, .int .i64 k, .slice (some ⟨b0, off0, none⟩) qs.length cap] 28 (0, 0)) := by rw [← hwdz47]; exact hz5
  replace hz11 : At wdz47 Wz2.heap.size (.cells (u8s (form)) 39 (0, 0)) := by rw [← hwdz47]; exact hz11
  replace hz18 : At wdz47 Wz8.heap.size (.cells #[.int .i64 0, .int .i64 0, .int .i64 0, .int .i64 0, .slice none 0 0] 28 (0, 0)) := by rw [← hwdz47]; exact hz18
  replace hz32 : At wdz47 Wz19.heap.size (.cells #[.int .i64 i] 2 (0, 0)) := by rw [← hwdz47]; exact hz32
  clear hwdz47
  refine y_yield 0 (some 30) (.pointer (some ⟨w.heap.size, 0, none⟩)) rfl (by kernel_rfl) (by kernel_rfl) (by kernel_rfl) (fun _ _ _ h => h) rfl rfl ⟨hB, hz5, hz11⟩ (fun w' h' => exec_fieldAddr 28 _ 0 rfl _ (by kernel_rfl)) ?_
  go_frame
  refine y_yield 1 (some 31) (.int .i64 p) rfl (by kernel_rfl) (by kernel_rfl) (by kernel_rfl) (fun _ _ _ h => h) rfl rfl ⟨hB, hz5, hz11⟩ (fun w' h' => exec_load_one 2 _ rfl w.heap.size 0 rfl (.int .i64 p) _ Try.underlying2 rfl (h'.2.1.at_ 0)) ?_
  go_frame
  refine y_yield 2 (some 32) (.agg (u8s (form))) rfl (by kernel_rfl) (by kernel_rfl) (by kernel_rfl) (fun _ _ _ h => h) rfl rfl ⟨hB, hz5, hz11⟩ (fun w' h' => exec_load_all 39 _ rfl Wz2.heap.size rfl _ _ _ h'.2.2 Try.underlying39 rfl 9 (by kernel_rfl) ((u8s_size _).trans hfm.len)) ?_
  go_frame
  refine y_yield 3 (some 33) (.agg #[.int .i64 p, .int .i64 n, .int .i64 m, .int .i64 k, .slice (some ⟨b0, off0, none⟩) qs.length cap]) rfl (by kernel_rfl) (by kernel_rfl) (by kernel_rfl) (fun _ _ _ h => h) rfl rfl ⟨hB, hz5, hz11⟩ (fun w' h' => exec_load_all 28 _ rfl w.heap.size rfl _ _ _ h'.2.1 Try.underlying28 rfl 5 (by kernel_rfl) rfl) ?_
  go_frame
  refine y_yield 4 (some 34) (.int .i64 0) rfl (by kernel_rfl) (by kernel_rfl) (by kernel_rfl) (fun _ _ _ h => h) rfl rfl ⟨hB, hz5, hz11⟩ (fun w' h' => exec_move _ rfl (.int .i64 0) rfl) ?_
  go_frame
  refine y_oper 5 (by kernel_rfl) rfl rfl (fun K' hK' => ?_)
  have lz50 := hB.size
  have lz51 := hz5.lt
  have lz52 := hz11.lt
  have lz53 := hz18.lt
  have lz54 := hz32.lt
  refine wp_call2 (some 35) rfl 44 _ _ _ rfl (fun args w => by kernel_rfl) _ _ rfl rfl _ (l03Length_c p n m k _ 0 (by omega) _ hsn hsm hsk) (fun e Wz48 h => ?_)
  obtain ⟨rfl, bz49⟩ := h
  replace hB := below_after hB bz49
  replace hz5 := hz5.after bz49
  replace hz11 := hz11.after bz49
  replace hz18 := hz18.after bz49
  replace hz32 := hz32.after bz49
  rw [show lenF n m k 0 = n * m from rfl]
  clear bz49
  refine ⟨_, rfl, ?_⟩
  refine hK' _ _ ⟨hB, hz5, hz11⟩ (fun _ => trivial) ?_
  clear hK' K'
  go_frame
  refine y_oper 6 (by kernel_rfl) rfl rfl (fun K' hK' => ?_)
  have lz57 := hB.size
  have lz58 := hz5.lt
  have lz59 := hz11.lt
  have lz60 := hz18.lt
  have lz61 := hz32.lt
  refine wp_call3 (some 36) rfl 43 _ _ _ _ rfl (fun args w => by kernel_rfl) _ _ _ rfl rfl rfl _ (l01Form_c p form (n * m) hfm _) (fun e Wz55 h => ?_)
  obtain ⟨rfl, bz56⟩ := h
  replace hB := below_after hB bz56
  replace hz5 := hz5.after bz56
  replace hz11 := hz11.after bz56
  replace hz18 := hz18.after bz56
  replace hz32 := hz32.after bz56
  rw [Hm.out]
  clear bz56
  refine ⟨_, rfl, ?_⟩
  refine hK' _ _ ⟨hB, hz5, hz11⟩ (fun _ => trivial) ?_
  clear hK' K'
  go_frame
  refine y_yield 7 (some 37) (.bool false) rfl (by kernel_rfl) (by kernel_rfl) (by kernel_rfl) (fun _ _ _ h => h) rfl rfl ⟨hB, hz5, hz11⟩ (fun w' h' => exec_not _ _ rfl true rfl) ?_
  go_frame
  refine y_oper 8 (by kernel_rfl) rfl rfl (fun K' hK' => ?_)
  refine wp_exec (some 29) rfl (.bool false) (exec_assign _ rfl (.bool false) rfl) ?_
  refine hK' _ _ ⟨hB, hz5, hz11⟩ (fun _ => trivial) ?_
  clear hK' K'
  go_frame
  refine y_done (by kernel_rfl) ?_ _
  go_upto_region 7 with (fail)
  refine wp_region_y (zs := []) (S := fun w' => Below w.heap.size w w' ∧ At w' Wz2.heap.size (.cells (u8s (form)) 39 (0, 0)) ∧ At w' w.heap.size (.cells #[.int .i64 p, .int .i64 n, .int .i64 m, .int .i64 k, .slice (some ⟨b0, off0, none⟩) qs.length cap] 28 (0, 0))) (S2 := fun w' => True) (by kernel_rfl) ?_
  change wpAnyY _ _ _ _ _ _ _ _ _ _ (World.drew _)
  generalize hwdz62 : World.drew _ = wdz62
  replace hB : Below w.heap.size w wdz62 := by rw [← hwdz62]; exact hB.drew
  replace hz5 : At wdz62 w.heap.size (.cells #[.int .i64 p, .int .i64 n, .int .i64 m, .int .i64 k, .slice (some ⟨b0, off0, none⟩) qs.length cap] 28 (0, 0)) := by rw [← hwdz62]; exact hz5
  replace hz11 : At wdz62 Wz2.heap.size (.cells (u8s (form)) 39 (0, 0)) := by rw [← hwdz62]; exact hz11
  replace hz18 : At wdz62 Wz8.heap.size (.cells #[.int .i64 0, .int .i64 0, .int .i64 0, .int .i64 0, .slice none 0 0] 28 (0, 0)) := by rw [← hwdz62]; exact hz18
  replace hz32 : At wdz62 Wz19.heap.size (.cells #[.int .i64 i] 2 (0, 0)) := by rw [← hwdz62]; exact hz32
  clear hwdz62
  refine y_yield 0 (some 40) (.agg (u8s (form))) rfl (by kernel_rfl) (by kernel_rfl) (by kernel_rfl) (fun _ _ _ h => h) rfl rfl ⟨hB, hz11, hz5⟩ (fun w' h' => exec_load_all 39 _ rfl Wz2.heap.size rfl _ _ _ h'.2.1 Try.underlying39 rfl 9 (by kernel_rfl) ((u8s_size _).trans hfm.len)) ?_
  go_frame
  refine y_oper 1 (by kernel_rfl) rfl rfl (fun K' hK' => ?_)
  have lz65 := hB.size
  have lz66 := hz5.lt
  have lz67 := hz11.lt
  have lz68 := hz18.lt
  have lz69 := hz32.lt
  refine wp_call1 (some 41) rfl 45 _ _ rfl (fun args w => by kernel_rfl) _ rfl _ (l01Zero_c form hfm _) (fun e Wz63 h => ?_)
  obtain ⟨rfl, bz64⟩ := h
  replace hB := below_after hB bz64
  replace hz5 := hz5.after bz64
  replace hz11 := hz11.after bz64
  replace hz18 := hz18.after bz64
  replace hz32 := hz32.after bz64
  rw [Hz0.out]
  clear bz64
  refine ⟨_, rfl, ?_⟩
  refine hK' _ _ ⟨hB, hz11, hz5⟩ (fun _ => trivial) ?_
  clear hK' K'
  go_frame
  refine y_yield 2 (some 42) (.bool false) rfl (by kernel_rfl) (by kernel_rfl) (by kernel_rfl) (fun _ _ _ h => h) rfl rfl ⟨hB, hz11, hz5⟩ (fun w' h' => exec_move _ rfl (.bool false) rfl) ?_
  go_frame
  refine y_yield 3 (some 43) (.agg (u8s (form))) rfl (by kernel_rfl) (by kernel_rfl) (by kernel_rfl) (fun _ _ _ h => h) rfl rfl ⟨hB, hz11, hz5⟩ (fun w' h' => exec_load_all 39 _ rfl Wz2.heap.size rfl _ _ _ h'.2.1 Try.underlying39 rfl 9 (by kernel_rfl) ((u8s_size _).trans hfm.len)) ?_
  go_frame
  refine y_yield 4 (some 44) (.pointer (some ⟨w.heap.size, 4, none⟩)) rfl (by kernel_rfl) (by kernel_rfl) (by kernel_rfl) (fun _ _ _ h => h) rfl rfl ⟨hB, hz11, hz5⟩ (fun w' h' => exec_fieldAddr 28 _ 4 rfl _ (by kernel_rfl)) ?_
  go_frame
  refine y_yield 5 (some 45) (.slice (some ⟨b0, off0, none⟩) qs.length cap) rfl (by kernel_rfl) (by kernel_rfl) (by kernel_rfl) (fun _ _ _ h => h) rfl rfl ⟨hB, hz11, hz5⟩ (fun w' h' => exec_load_one 26 _ rfl w.heap.size 4 rfl (.slice (some ⟨b0, off0, none⟩) qs.length cap) _ Try.underlying26 rfl (h'.2.2.at_ 4)) ?_
  go_frame
  refine y_yield 6 (some 46) (.int .i64 i) rfl (by kernel_rfl) (by kernel_rfl) (by kernel_rfl) (fun _ _ _ h => h) rfl rfl ⟨hB, hz11, hz5⟩ (fun w' h' => exec_move _ rfl (.int .i64 i) rfl) ?_
  go_frame
  refine y_yield 7 (some 47) (.pointer (some ⟨b0, off0 + i * 27, none⟩)) rfl (by kernel_rfl) (by kernel_rfl) (by kernel_rfl) (fun _ _ _ h => h) rfl rfl ⟨hB, hz11, hz5⟩ (fun w' h' => exec_index_slice _ 58 _ _ rfl b0 off0 qs.length cap i 27 rfl rfl Try.underlying26 (by kernel_rfl) hilt) ?_
  go_frame
  refine y_yield 8 (some 48) (.agg (u8s (cat3 QA QB QC))) rfl (by kernel_rfl) (by kernel_rfl) (by kernel_rfl) (fun _ _ _ h => h) rfl rfl ⟨hB, hz11, hz5⟩ (fun w' h' => exec_load_cells 58 _ rfl b0 (off0 + i * 27) rfl (cat3 QA QB QC) _ 27 (Hc.out _ h'.1) Try.underlying58 rfl (by kernel_rfl) (hq.len)) ?_
  go_frame
  refine y_yield 9 (some 49) (.int .i64 0) rfl (by kernel_rfl) (by kernel_rfl) (by kernel_rfl) (fun _ _ _ h => h) rfl rfl ⟨hB, hz11, hz5⟩ (fun w' h' => exec_move _ rfl (.int .i64 0) rfl) ?_
  go_frame
  refine y_oper 10 (by kernel_rfl) rfl rfl (fun K' hK' => ?_)
  have lz72 := hB.size
  have lz73 := hz5.lt
  have lz74 := hz11.lt
  have lz75 := hz18.lt
  have lz76 := hz32.lt
  refine wp_call2 (some 50) rfl 46 _ _ _ rfl (fun args w => by kernel_rfl) _ _ rfl rfl _ (l03Factor_c (cat3 QA QB QC) 0 hq (by omega) _) (fun e Wz70 h => ?_)
  obtain ⟨rfl, bz71⟩ := h
  replace hB := below_after hB bz71
  replace hz5 := hz5.after bz71
  replace hz11 := hz11.after bz71
  replace hz18 := hz18.after bz71
  replace hz32 := hz32.after bz71
  rw [Hfac.out]
  clear bz71
  refine ⟨_, rfl, ?_⟩
  refine hK' _ _ ⟨hB, hz11, hz5⟩ (fun _ => trivial) ?_
  clear hK' K'
  go_frame
  refine y_yield 11 (some 51) (.bool false) rfl (by kernel_rfl) (by kernel_rfl) (by kernel_rfl) (fun _ _ _ h => h) rfl rfl ⟨hB, hz11, hz5⟩ (fun w' h' => exec_eql_u8s_b 39 _ _ _ _ rfl 9 Try.underlying39 Try.underlying5 (by kernel_rfl) (by kernel_rfl) (form) (QA) rfl rfl hfm.len hQA.len false Heq.out) ?_
  go_frame
  refine y_yield 12 (some 52) (.bool false) rfl (by kernel_rfl) (by kernel_rfl) (by kernel_rfl) (fun _ _ _ h => h) rfl rfl ⟨hB, hz11, hz5⟩ (fun w' h' => exec_pick _ _ _ rfl false rfl (.bool false) rfl) ?_
  go_frame
  refine y_oper 13 (by kernel_rfl) rfl rfl (fun K' hK' => ?_)
  refine wp_exec (some 39) rfl (.bool false) (exec_assign _ rfl (.bool false) rfl) ?_
  refine hK' _ _ ⟨hB, hz11, hz5⟩ (fun _ => trivial) ?_
  clear hK' K'
  go_frame
  refine y_done (by kernel_rfl) ?_ _
  go_upto_region 9 with (fail)
  refine wp_region_lit ?_
  refine ls_ex (some 55) (.pointer (some ⟨w.heap.size, 4, none⟩)) rfl rfl (exec_fieldAddr 28 _ 4 rfl _ (by kernel_rfl)) ?_
  go_frame
  refine ls_ex (some 56) (.slice (some ⟨b0, off0, none⟩) qs.length cap) rfl rfl (exec_load_one 26 _ rfl w.heap.size 4 rfl (.slice (some ⟨b0, off0, none⟩) qs.length cap) _ Try.underlying26 rfl (hz5.at_ 4)) ?_
  go_frame
  refine ls_ex (some 57) (.int .i64 qs.length) rfl rfl (exec_len _ 26 58 rfl ((some ⟨b0, off0, none⟩)) qs.length cap rfl Try.underlying26) ?_
  go_frame
  refine ls_ex (some 58) (.bool true) rfl rfl (exec_eql _ _ _ _ rfl qs.length 30 rfl rfl true Hlen.out) ?_
  go_frame
  refine ls_ex (some 54) (.bool true) rfl rfl (exec_assign _ rfl (.bool true) rfl) ?_
  go_frame
  refine wpList_nil ?_
  go_upto_region 10 with (fail)
  refine wp_region_lit ?_
  refine ls_ex (some 59) (.agg #[.int .i64 0, .int .i64 0, .int .i64 0, .int .i64 0, .slice none 0 0]) rfl rfl (exec_build_nil 28 rfl _ (by kernel_rfl)) ?_
  go_frame
  refine ls_op rfl (fun K' hK' => ?_)
  refine wp_store_all 28 _ _ rfl rfl Wz8.heap.size rfl #[.int .i64 0, .int .i64 0, .int .i64 0, .int .i64 0, .slice none 0 0] rfl _ _ hz18 5 (by kernel_rfl) rfl rfl (one5 _ _ _ _ _ _ _) (fun Wz77 pz78 => ?_)
  replace hB := pz78.below hB (by omega)
  replace hz5 := pz78.other hz5 (by omega)
  replace hz11 := pz78.other hz11 (by omega)
  replace hz32 := pz78.other hz32 (by omega)
  replace hz18 : At Wz77 Wz8.heap.size (.cells #[.int .i64 0, .int .i64 0, .int .i64 0, .int .i64 0, .slice none 0 0] 28 (0, 0)) := pz78.at_
  refine hK' _ _ ?_
  clear hK' K' pz78
  refine ls_ex (some 9) (.int .i64 3) rfl rfl (exec_assign _ rfl (.int .i64 3) rfl) ?_
  go_frame
  refine wpList_nil ?_
  go_wp2_with fail
  refine bodyPost_ret (results_at2 rfl _ _ (Wz8.heap.size) _ _ _ rfl _ rfl hz18 Try.underlying28 rfl 5 (by kernel_rfl) rfl) rfl ?_
  exact ⟨.slice none 0 0, by rw [Hz.out, Hz.out, Hz.out, Hz.out, Hcode.out]; rfl, by rw [Hr.out]; exact Own.nil _ _, hB⟩
set_option maxHeartbeats 4000000 in
theorem specSplit_y0 (p n m k : Int) (b0 off0 : Nat) (cap : Nat) (qs : List (List Nat)) (i : Nat) (form : List Nat) (w : World) (hR : Rd w (some ⟨b0, off0, none⟩) qs) (hlen : qs.length ≤ 1048576) (hfm : Bytes 9 form) (hs : schemeB p n m k qs = true) (hilt : i < qs.length) (hm : formB p form (n * m) = true) (hz : zeroB form = false) (heq : (form == segm qs[i] 0 9) = false) (h30 : qs.length ≠ 30) :
    Calls Try.prog 16 #[.agg #[.int .i64 p, .int .i64 n, .int .i64 m, .int .i64 k, .slice (some ⟨b0, off0, none⟩) qs.length cap], .int .i64 i, .int .i64 0, .agg (u8s form)] w (ResS w (spZ p n m k qs i 0 form p) (spZ p n m k qs i 0 form n) (spZ p n m k qs i 0 form m) (spZ p n m k qs i 0 form k) (spR p n m k qs i 0 form) (spCode p n m k qs i 0 form)) := by
  have HIs := Lib.hid (fun w hr => l01Is_c p n m k (some ⟨b0, off0, none⟩) cap qs w hr hlen)
  have hB := Below.refl w.heap.size w
  have Hs := Lib.hid hs
  have hpr := (sizesB_parts (schemeB_sizes hs)).1
  have h5 := primeB_5 hpr
  have hsn := (sizesB_parts (schemeB_sizes hs)).2.1
  have hsm := (sizesB_parts (schemeB_sizes hs)).2.2.1
  have hsk := (sizesB_parts (schemeB_sizes hs)).2.2.2
  have hi : inI (i : Int) qs.length = true := by simp [inI]; omega
  have h31 := schemeB_len hs
  have Hxs : Hid (([(i : Int)].all fun x => inI x qs.length) = true) := Lib.hid (by simp [hi])
  have hbi := hR.good _ (List.getElem_mem hilt)
  have hel : qs[i]?.getD [] = qs[i] := by simp [hilt]
  have Hc := Lib.hid (fun W (hb : Below w.heap.size w W) => Rd.cells27 (hR.keep hb) hilt)
  have hfq : facQ (qs[i]?.getD []) 0 = segm qs[i] 0 9 := by rw [hel]; rfl
  have heq2 : ¬ form = segm qs[i] 0 9 := by simpa using heq
  have Hm := Lib.hid hm
  have Hcode : Hid (spCode p n m k qs i 0 form = 0) := Lib.hid (by unfold spCode; rw [if_pos hs, hi, show inI 0 3 = true from rfl, show lenF n m k (0 : Int).toNat = n * m from rfl, hm]; simp [hz, hfq, heq2, h30])
  have Hz : Hid (∀ x, spZ p n m k qs i 0 form x = x) := Lib.hid (fun x => by simp [spZ, Hcode.out])
  have Hr0 : spR p n m k qs i 0 form = qs.set i (withQ qs[i] 0 form) ++ [withQ qs[i] 0 (adF p (-1) (facQ qs[i] 0) form)] := by unfold spR spQs; rw [if_pos Hcode.out, Int.toNat_natCast, hel]; rfl
  have Hz0 : Hid (zeroB form = false) := Lib.hid hz
  have Hlen : Hid (((qs.length : Int) == 30) = false) := Lib.hid (by simp; omega)
  have Hgood := Lib.hid hR.good
  have Hq27 : Hid (∀ q ∈ qs, q.length = 27) := Lib.hid (fun q hm => (Hgood.out q hm).len)
  have HPB : ∀ q ∈ qs, prodB p n m k q = true := fun q hq => by simp only [schemeB, Bool.and_eq_true, List.all_eq_true] at hs; exact hs.2 q hq
  have hpi := HPB _ (List.getElem_mem hilt)
  have hnzs : ∀ q ∈ qs, nzB q = true := fun q hq => prodB_nz (HPB q hq)
  clear hs hi hfq hel
  generalize HQ0 : qs[i] = q at *
  have HQi := Lib.hid HQ0
  clear HQ0
  obtain ⟨QA, QB, QC, rfl, hQA, hQB, hQC⟩ := parts3 hbi
  have hq := bytes3 hQA hQB hQC
  have Hfac : Hid (facQ (cat3 QA QB QC) 0 = QA) := Lib.hid (segm_a hQA.len)
  rw [segm_a hQA.len] at heq heq2
  have Heq := Lib.hid heq
  have hG := adF_bytes (-1) QA form h5.1 h5.2
  have HAdd := Lib.hid (fun w => l01Add_c p (-1) QA form hQA hfm w h5.1 h5.2 (by omega) (by omega))
  obtain ⟨⟨fA, fB, fC⟩, zA, zB, zC⟩ := prodB_open hQA.len hQB.len hQC.len hpi
  have hzG := adF_nz QA form hQA hfm hpr fA hm heq2
  unfold withQ facQ at Hr0
  rw [show 0 * 9 = 0 from rfl, segm_a hQA.len, over_a hQA.len hfm.len] at Hr0
  generalize adF p (-1) QA form = G at *
  rw [over_a hQA.len hG.len] at Hr0
  have hN1 := bytes3 hfm hQB hQC
  have hN2 := bytes3 hG hQB hQC
  have HW1 : Hid (∀ w, Calls Try.prog 33 #[.agg (u8s (cat3 QA QB QC)), .int .i64 0, .agg (u8s form)] w fun e w' => e = .returned (.agg (u8s (cat3 form QB QC))) ∧ Below w.heap.size w w') := Lib.hid (fun w => by have h := l03With_c (cat3 QA QB QC) form 0 hq hfm (by omega) w; unfold withQ at h; rw [show 0 * 9 = 0 from rfl, over_a hQA.len hfm.len] at h; exact h)
  have HW2 : Hid (∀ w, Calls Try.prog 33 #[.agg (u8s (cat3 QA QB QC)), .int .i64 0, .agg (u8s G)] w fun e w' => e = .returned (.agg (u8s (cat3 G QB QC))) ∧ Below w.heap.size w w') := Lib.hid (fun w => by have h := l03With_c (cat3 QA QB QC) G 0 hq hG (by omega) w; unfold withQ at h; rw [show 0 * 9 = 0 from rfl, over_a hQA.len hG.len] at h; exact h)
  obtain ⟨M1, HM1e⟩ : ∃ M, Hid (qs.set i (cat3 form QB QC) = M) := ⟨_, Lib.hid rfl⟩
  have eM1 : M1.length = qs.length := by rw [← HM1e.out]; simp
  have HM2b : Hid (∀ q ∈ M1 ++ [cat3 G QB QC], Bytes 27 q) := Lib.hid (fun q h => by
    rcases List.mem_append.1 h with h | h
    · rw [← HM1e.out] at h
      rcases List.mem_or_eq_of_mem_set h with h | rfl
      · exact Hgood.out q h
      · exact hN1
    · obtain rfl := List.mem_singleton.1 h; exact hN2)
  obtain ⟨R, HRe⟩ : ∃ R, Hid (M1 ++ [cat3 G QB QC] = R) := ⟨_, Lib.hid rfl⟩
  have HF : Hid ((M1 ++ [cat3 G QB QC]).filter nzB = R) := Lib.hid (by
    rw [← HRe.out, List.filter_eq_self]
    intro q h
    rcases List.mem_append.1 h with h | h
    · rw [← HM1e.out] at h
      rcases List.mem_or_eq_of_mem_set h with h | rfl
      · exact hnzs q h
      · unfold nzB; rw [segm_a hfm.len, segm_b hfm.len hQB.len, segm_c hfm.len hQB.len hQC.len]; simp [hz, zB, zC]
    · obtain rfl := List.mem_singleton.1 h
      unfold nzB; rw [segm_a hG.len, segm_b hG.len hQB.len, segm_c hG.len hQB.len hQC.len]; simp [hzG, zB, zC])
  have HRb : Hid (∀ q ∈ R, Bytes 27 q) := Lib.hid (by rw [← HRe.out]; exact HM2b.out)
  have HQ : Hid (spR p n m k qs i 0 form = R) := Lib.hid (by rw [Hr0, ← HRe.out, ← HM1e.out])
  clear Hr0 hm hz heq heq2 hnzs HPB hpi
  go_enter Try.func16, Try.ntmps16
  go_upto_region 0 with (fail)
  refine wp_region_lit ?_
  refine ls_op rfl (fun K' hK' => ?_)
  have lz1 := hB.size
  refine wp_new (some 4) rfl (exec_box 28 _ rfl (#[.int .i64 p, .int .i64 n, .int .i64 m, .int .i64 k, .slice (some ⟨b0, off0, none⟩) qs.length cap]) rfl) (fun Wz2 nnz3 => ?_)
  have bz4 := nnz3.below (Below.refl _ _) (Nat.le_refl _)
  replace hB := below_after hB bz4
  have hz5 : At Wz2 w.heap.size (.cells #[.int .i64 p, .int .i64 n, .int .i64 m, .int .i64 k, .slice (some ⟨b0, off0, none⟩) qs.length cap] 28 (0, 0)) := nnz3.at_
  refine hK' _ _ ?_
  clear hK' K' nnz3 bz4
  go_frame
  refine ls_op rfl (fun K' hK' => ?_)
  have lz6 := hB.size
  have lz7 := hz5.lt
  refine wp_new (some 7) rfl (exec_box 39 _ rfl (u8s (form)) rfl) (fun Wz8 nnz9 => ?_)
  have bz10 := nnz9.below (Below.refl _ _) (Nat.le_refl _)
  replace hB := below_after hB bz10
  replace hz5 := hz5.after bz10
  have hz11 : At Wz8 Wz2.heap.size (.cells (u8s (form)) 39 (0, 0)) := nnz9.at_
  refine hK' _ _ ?_
  clear hK' K' nnz9 bz10
  go_frame
  refine ls_op rfl (fun K' hK' => ?_)
  have lz12 := hB.size
  have lz13 := hz5.lt
  have lz14 := hz11.lt
  refine wp_new (some 8) rfl (als_impl_Scheme rfl) (fun Wz15 nnz16 => ?_)
  have bz17 := nnz16.below (Below.refl _ _) (Nat.le_refl _)
  replace hB := below_after hB bz17
  replace hz5 := hz5.after bz17
  replace hz11 := hz11.after bz17
  have hz18 : At Wz15 Wz8.heap.size (.cells #[.int .i64 0, .int .i64 0, .int .i64 0, .int .i64 0, .slice none 0 0] 28 (0, 0)) := nnz16.at_
  refine hK' _ _ ?_
  clear hK' K' nnz16 bz17
  go_frame
  refine ls_ex (some 9) (.int .i64 0) rfl rfl (exec_assign _ rfl (.int .i64 0) rfl) ?_
  go_frame
  refine wpList_nil ?_
  go_upto_region 1 with (fail)
  refine wp_region_lit ?_
  refine ls_ex (some 13) (.agg #[.int .i64 p, .int .i64 n, .int .i64 m, .int .i64 k, .slice (some ⟨b0, off0, none⟩) qs.length cap]) rfl rfl (exec_load_all 28 _ rfl w.heap.size rfl _ _ _ hz5 Try.underlying28 rfl 5 (by kernel_rfl) rfl) ?_
  go_frame
  refine ls_op rfl (fun K' hK' => ?_)
  have lz21 := hB.size
  have lz22 := hz5.lt
  have lz23 := hz11.lt
  have lz24 := hz18.lt
  refine wp_call1 (some 14) rfl 22 _ _ rfl (fun args w => by kernel_rfl) _ rfl _ (HIs.out _ (hR.keep hB)) (fun e Wz19 h => ?_)
  obtain ⟨rfl, bz20⟩ := h
  replace hB := below_after hB bz20
  replace hz5 := hz5.after bz20
  replace hz11 := hz11.after bz20
  replace hz18 := hz18.after bz20
  rw [Hs.out]
  clear bz20
  refine ⟨_, rfl, ?_⟩
  refine hK' _ _ ?_
  clear hK' K'
  go_frame
  refine ls_ex (some 15) (.bool false) rfl rfl (exec_not _ _ rfl true rfl) ?_
  go_frame
  refine ls_ex (some 12) (.bool false) rfl rfl (exec_assign _ rfl (.bool false) rfl) ?_
  go_frame
  refine wpList_nil ?_
  go_upto_region 3 with (fail)
  refine wp_region_lit ?_
  refine ls_ex (some 18) (.agg #[.int .i64 p, .int .i64 n, .int .i64 m, .int .i64 k, .slice (some ⟨b0, off0, none⟩) qs.length cap]) rfl rfl (exec_load_all 28 _ rfl w.heap.size rfl _ _ _ hz5 Try.underlying28 rfl 5 (by kernel_rfl) rfl) ?_
  go_frame
  refine ls_ex (some 19) (.int .i64 i) rfl rfl (exec_move _ rfl (.int .i64 i) rfl) ?_
  go_frame
  refine ls_op rfl (fun K' hK' => ?_)
  have lz25 := hB.size
  have lz26 := hz5.lt
  have lz27 := hz11.lt
  have lz28 := hz18.lt
  refine wp_new (some 20) rfl (exec_bsi1 _ rfl i rfl) (fun Wz29 nnz30 => ?_)
  have bz31 := nnz30.below (Below.refl _ _) (Nat.le_refl _)
  replace hB := below_after hB bz31
  replace hz5 := hz5.after bz31
  replace hz11 := hz11.after bz31
  replace hz18 := hz18.after bz31
  have hz32 : At Wz29 Wz19.heap.size (.cells #[.int .i64 i] 2 (0, 0)) := nnz30.at_
  refine hK' _ _ ?_
  clear hK' K' nnz30 bz31
  go_frame
  refine ls_op rfl (fun K' hK' => ?_)
  have lz35 := hB.size
  have lz36 := hz5.lt
  have lz37 := hz11.lt
  have lz38 := hz18.lt
  have lz39 := hz32.lt
  refine wp_call2 (some 21) rfl 32 _ _ _ rfl (fun args w => by kernel_rfl) _ _ rfl rfl _ (l03Numbers_c p n m k _ cap qs.length (Wz19.heap.size) 1 [(i : Int)] _ (by omega) (by simp) (fun t ht => by match t, ht with | 0, _ => exact hz32.at_ 0)) (fun e Wz33 h => ?_)
  obtain ⟨rfl, bz34⟩ := h
  replace hB := below_after hB bz34
  replace hz5 := hz5.after bz34
  replace hz11 := hz11.after bz34
  replace hz18 := hz18.after bz34
  replace hz32 := hz32.after bz34
  rw [Hxs.out]
  clear bz34
  refine ⟨_, rfl, ?_⟩
  refine hK' _ _ ?_
  clear hK' K'
  go_frame
  refine ls_ex (some 22) (.bool false) rfl rfl (exec_not _ _ rfl true rfl) ?_
  go_frame
  refine ls_ex (some 23) (.bool false) rfl rfl (exec_move _ rfl (.bool false) rfl) ?_
  go_frame
  refine ls_ex_g (some 24) (.int .i64 0) rfl rfl (exec_move _ rfl (.int .i64 0) rfl) ?_
  go_frame
  refine ls_op_g rfl (fun K' hK' => ?_)
  have lz42 := hB.size
  have lz43 := hz5.lt
  have lz44 := hz11.lt
  have lz45 := hz18.lt
  have lz46 := hz32.lt
  refine wp_call3 (some 25) rfl 42 _ _ _ _ rfl (fun args w => by kernel_rfl) _ _ _ rfl rfl rfl _ (l01In_c 0 0 2 _) (fun e Wz40 h => ?_)
  obtain ⟨rfl, rfl⟩ := h
  refine ⟨_, rfl, ?_⟩
  refine hK' _ _ ?_
  clear hK' K'
  go_frame
  refine ls_ex_g (some 26) (.bool false) rfl rfl (exec_not _ _ rfl true rfl) ?_
  go_frame
  refine ls_ex (some 27) (.bool false) rfl rfl (exec_pick _ _ _ rfl false rfl (.bool false) rfl) ?_
  go_frame
  refine ls_ex (some 17) (.bool false) rfl rfl (exec_assign _ rfl (.bool false) rfl) ?_
  go_frame
  refine wpList_nil ?_
  go_upto_region 5 with (fail)
  refine wp_region_y (zs := []) (S := fun w' => Below w.heap.size w w' ∧ At w' w.heap.size (.cells #[.int .i64 p, .int .i64 n, .int .i64 m, .int .i64 k, .slice (some ⟨b0, off0, none⟩) qs.length cap] 28 (0, 0)) ∧ At w' Wz2.heap.size (.cells (u8s (form)) 39 (0, 0))) (S2 := fun w' => True) (by kernel_rfl) ?_
  change wpAnyY _ _ _ _ _ _ _ _ _ _ (World.drew _)
  generalize hwdz47 : World.drew _ = wdz47
  replace hB : Below w.heap.size w wdz47 := by rw [← hwdz47]; exact hB.drew
  replace hz5 : At wdz47 w.heap.size (.cells #[.int .i64 p, .int .i64 n, .int .i64 m, .int .i64 k, .slice (some ⟨b0, off0, none⟩) qs.length cap] 28 (0, 0)) := by rw [← hwdz47]; exact hz5
  replace hz11 : At wdz47 Wz2.heap.size (.cells (u8s (form)) 39 (0, 0)) := by rw [← hwdz47]; exact hz11
  replace hz18 : At wdz47 Wz8.heap.size (.cells #[.int .i64 0, .int .i64 0, .int .i64 0, .int .i64 0, .slice none 0 0] 28 (0, 0)) := by rw [← hwdz47]; exact hz18
  replace hz32 : At wdz47 Wz19.heap.size (.cells #[.int .i64 i] 2 (0, 0)) := by rw [← hwdz47]; exact hz32
  clear hwdz47
  refine y_yield 0 (some 30) (.pointer (some ⟨w.heap.size, 0, none⟩)) rfl (by kernel_rfl) (by kernel_rfl) (by kernel_rfl) (fun _ _ _ h => h) rfl rfl ⟨hB, hz5, hz11⟩ (fun w' h' => exec_fieldAddr 28 _ 0 rfl _ (by kernel_rfl)) ?_
  go_frame
  refine y_yield 1 (some 31) (.int .i64 p) rfl (by kernel_rfl) (by kernel_rfl) (by kernel_rfl) (fun _ _ _ h => h) rfl rfl ⟨hB, hz5, hz11⟩ (fun w' h' => exec_load_one 2 _ rfl w.heap.size 0 rfl (.int .i64 p) _ Try.underlying2 rfl (h'.2.1.at_ 0)) ?_
  go_frame
  refine y_yield 2 (some 32) (.agg (u8s (form))) rfl (by kernel_rfl) (by kernel_rfl) (by kernel_rfl) (fun _ _ _ h => h) rfl rfl ⟨hB, hz5, hz11⟩ (fun w' h' => exec_load_all 39 _ rfl Wz2.heap.size rfl _ _ _ h'.2.2 Try.underlying39 rfl 9 (by kernel_rfl) ((u8s_size _).trans hfm.len)) ?_
  go_frame
  refine y_yield 3 (some 33) (.agg #[.int .i64 p, .int .i64 n, .int .i64 m, .int .i64 k, .slice (some ⟨b0, off0, none⟩) qs.length cap]) rfl (by kernel_rfl) (by kernel_rfl) (by kernel_rfl) (fun _ _ _ h => h) rfl rfl ⟨hB, hz5, hz11⟩ (fun w' h' => exec_load_all 28 _ rfl w.heap.size rfl _ _ _ h'.2.1 Try.underlying28 rfl 5 (by kernel_rfl) rfl) ?_
  go_frame
  refine y_yield 4 (some 34) (.int .i64 0) rfl (by kernel_rfl) (by kernel_rfl) (by kernel_rfl) (fun _ _ _ h => h) rfl rfl ⟨hB, hz5, hz11⟩ (fun w' h' => exec_move _ rfl (.int .i64 0) rfl) ?_
  go_frame
  refine y_oper 5 (by kernel_rfl) rfl rfl (fun K' hK' => ?_)
  have lz50 := hB.size
  have lz51 := hz5.lt
  have lz52 := hz11.lt
  have lz53 := hz18.lt
  have lz54 := hz32.lt
  refine wp_call2 (some 35) rfl 44 _ _ _ rfl (fun args w => by kernel_rfl) _ _ rfl rfl _ (l03Length_c p n m k _ 0 (by omega) _ hsn hsm hsk) (fun e Wz48 h => ?_)
  obtain ⟨rfl, bz49⟩ := h
  replace hB := below_after hB bz49
  replace hz5 := hz5.after bz49
  replace hz11 := hz11.after bz49
  replace hz18 := hz18.after bz49
  replace hz32 := hz32.after bz49
  rw [show lenF n m k 0 = n * m from rfl]
  clear bz49
  refine ⟨_, rfl, ?_⟩
  refine hK' _ _ ⟨hB, hz5, hz11⟩ (fun _ => trivial) ?_
  clear hK' K'
  go_frame
  refine y_oper 6 (by kernel_rfl) rfl rfl (fun K' hK' => ?_)
  have lz57 := hB.size
  have lz58 := hz5.lt
  have lz59 := hz11.lt
  have lz60 := hz18.lt
  have lz61 := hz32.lt
  refine wp_call3 (some 36) rfl 43 _ _ _ _ rfl (fun args w => by kernel_rfl) _ _ _ rfl rfl rfl _ (l01Form_c p form (n * m) hfm _) (fun e Wz55 h => ?_)
  obtain ⟨rfl, bz56⟩ := h
  replace hB := below_after hB bz56
  replace hz5 := hz5.after bz56
  replace hz11 := hz11.after bz56
  replace hz18 := hz18.after bz56
  replace hz32 := hz32.after bz56
  rw [Hm.out]
  clear bz56
  refine ⟨_, rfl, ?_⟩
  refine hK' _ _ ⟨hB, hz5, hz11⟩ (fun _ => trivial) ?_
  clear hK' K'
  go_frame
  refine y_yield 7 (some 37) (.bool false) rfl (by kernel_rfl) (by kernel_rfl) (by kernel_rfl) (fun _ _ _ h => h) rfl rfl ⟨hB, hz5, hz11⟩ (fun w' h' => exec_not _ _ rfl true rfl) ?_
  go_frame
  refine y_oper 8 (by kernel_rfl) rfl rfl (fun K' hK' => ?_)
  refine wp_exec (some 29) rfl (.bool false) (exec_assign _ rfl (.bool false) rfl) ?_
  refine hK' _ _ ⟨hB, hz5, hz11⟩ (fun _ => trivial) ?_
  clear hK' K'
  go_frame
  refine y_done (by kernel_rfl) ?_ _
  go_upto_region 7 with (fail)
  refine wp_region_y (zs := []) (S := fun w' => Below w.heap.size w w' ∧ At w' Wz2.heap.size (.cells (u8s (form)) 39 (0, 0)) ∧ At w' w.heap.size (.cells #[.int .i64 p, .int .i64 n, .int .i64 m, .int .i64 k, .slice (some ⟨b0, off0, none⟩) qs.length cap] 28 (0, 0))) (S2 := fun w' => True) (by kernel_rfl) ?_
  change wpAnyY _ _ _ _ _ _ _ _ _ _ (World.drew _)
  generalize hwdz62 : World.drew _ = wdz62
  replace hB : Below w.heap.size w wdz62 := by rw [← hwdz62]; exact hB.drew
  replace hz5 : At wdz62 w.heap.size (.cells #[.int .i64 p, .int .i64 n, .int .i64 m, .int .i64 k, .slice (some ⟨b0, off0, none⟩) qs.length cap] 28 (0, 0)) := by rw [← hwdz62]; exact hz5
  replace hz11 : At wdz62 Wz2.heap.size (.cells (u8s (form)) 39 (0, 0)) := by rw [← hwdz62]; exact hz11
  replace hz18 : At wdz62 Wz8.heap.size (.cells #[.int .i64 0, .int .i64 0, .int .i64 0, .int .i64 0, .slice none 0 0] 28 (0, 0)) := by rw [← hwdz62]; exact hz18
  replace hz32 : At wdz62 Wz19.heap.size (.cells #[.int .i64 i] 2 (0, 0)) := by rw [← hwdz62]; exact hz32
  clear hwdz62
  refine y_yield 0 (some 40) (.agg (u8s (form))) rfl (by kernel_rfl) (by kernel_rfl) (by kernel_rfl) (fun _ _ _ h => h) rfl rfl ⟨hB, hz11, hz5⟩ (fun w' h' => exec_load_all 39 _ rfl Wz2.heap.size rfl _ _ _ h'.2.1 Try.underlying39 rfl 9 (by kernel_rfl) ((u8s_size _).trans hfm.len)) ?_
  go_frame
  refine y_oper 1 (by kernel_rfl) rfl rfl (fun K' hK' => ?_)
  have lz65 := hB.size
  have lz66 := hz5.lt
  have lz67 := hz11.lt
  have lz68 := hz18.lt
  have lz69 := hz32.lt
  refine wp_call1 (some 41) rfl 45 _ _ rfl (fun args w => by kernel_rfl) _ rfl _ (l01Zero_c form hfm _) (fun e Wz63 h => ?_)
  obtain ⟨rfl, bz64⟩ := h
  replace hB := below_after hB bz64
  replace hz5 := hz5.after bz64
  replace hz11 := hz11.after bz64
  replace hz18 := hz18.after bz64
  replace hz32 := hz32.after bz64
  rw [Hz0.out]
  clear bz64
  refine ⟨_, rfl, ?_⟩
  refine hK' _ _ ⟨hB, hz11, hz5⟩ (fun _ => trivial) ?_
  clear hK' K'
  go_frame
  refine y_yield 2 (some 42) (.bool false) rfl (by kernel_rfl) (by kernel_rfl) (by kernel_rfl) (fun _ _ _ h => h) rfl rfl ⟨hB, hz11, hz5⟩ (fun w' h' => exec_move _ rfl (.bool false) rfl) ?_
  go_frame
  refine y_yield 3 (some 43) (.agg (u8s (form))) rfl (by kernel_rfl) (by kernel_rfl) (by kernel_rfl) (fun _ _ _ h => h) rfl rfl ⟨hB, hz11, hz5⟩ (fun w' h' => exec_load_all 39 _ rfl Wz2.heap.size rfl _ _ _ h'.2.1 Try.underlying39 rfl 9 (by kernel_rfl) ((u8s_size _).trans hfm.len)) ?_
  go_frame
  refine y_yield 4 (some 44) (.pointer (some ⟨w.heap.size, 4, none⟩)) rfl (by kernel_rfl) (by kernel_rfl) (by kernel_rfl) (fun _ _ _ h => h) rfl rfl ⟨hB, hz11, hz5⟩ (fun w' h' => exec_fieldAddr 28 _ 4 rfl _ (by kernel_rfl)) ?_
  go_frame
  refine y_yield 5 (some 45) (.slice (some ⟨b0, off0, none⟩) qs.length cap) rfl (by kernel_rfl) (by kernel_rfl) (by kernel_rfl) (fun _ _ _ h => h) rfl rfl ⟨hB, hz11, hz5⟩ (fun w' h' => exec_load_one 26 _ rfl w.heap.size 4 rfl (.slice (some ⟨b0, off0, none⟩) qs.length cap) _ Try.underlying26 rfl (h'.2.2.at_ 4)) ?_
  go_frame
  refine y_yield 6 (some 46) (.int .i64 i) rfl (by kernel_rfl) (by kernel_rfl) (by kernel_rfl) (fun _ _ _ h => h) rfl rfl ⟨hB, hz11, hz5⟩ (fun w' h' => exec_move _ rfl (.int .i64 i) rfl) ?_
  go_frame
  refine y_yield 7 (some 47) (.pointer (some ⟨b0, off0 + i * 27, none⟩)) rfl (by kernel_rfl) (by kernel_rfl) (by kernel_rfl) (fun _ _ _ h => h) rfl rfl ⟨hB, hz11, hz5⟩ (fun w' h' => exec_index_slice _ 58 _ _ rfl b0 off0 qs.length cap i 27 rfl rfl Try.underlying26 (by kernel_rfl) hilt) ?_
  go_frame
  refine y_yield 8 (some 48) (.agg (u8s (cat3 QA QB QC))) rfl (by kernel_rfl) (by kernel_rfl) (by kernel_rfl) (fun _ _ _ h => h) rfl rfl ⟨hB, hz11, hz5⟩ (fun w' h' => exec_load_cells 58 _ rfl b0 (off0 + i * 27) rfl (cat3 QA QB QC) _ 27 (Hc.out _ h'.1) Try.underlying58 rfl (by kernel_rfl) (hq.len)) ?_
  go_frame
  refine y_yield 9 (some 49) (.int .i64 0) rfl (by kernel_rfl) (by kernel_rfl) (by kernel_rfl) (fun _ _ _ h => h) rfl rfl ⟨hB, hz11, hz5⟩ (fun w' h' => exec_move _ rfl (.int .i64 0) rfl) ?_
  go_frame
  refine y_oper 10 (by kernel_rfl) rfl rfl (fun K' hK' => ?_)
  have lz72 := hB.size
  have lz73 := hz5.lt
  have lz74 := hz11.lt
  have lz75 := hz18.lt
  have lz76 := hz32.lt
  refine wp_call2 (some 50) rfl 46 _ _ _ rfl (fun args w => by kernel_rfl) _ _ rfl rfl _ (l03Factor_c (cat3 QA QB QC) 0 hq (by omega) _) (fun e Wz70 h => ?_)
  obtain ⟨rfl, bz71⟩ := h
  replace hB := below_after hB bz71
  replace hz5 := hz5.after bz71
  replace hz11 := hz11.after bz71
  replace hz18 := hz18.after bz71
  replace hz32 := hz32.after bz71
  rw [Hfac.out]
  clear bz71
  refine ⟨_, rfl, ?_⟩
  refine hK' _ _ ⟨hB, hz11, hz5⟩ (fun _ => trivial) ?_
  clear hK' K'
  go_frame
  refine y_yield 11 (some 51) (.bool false) rfl (by kernel_rfl) (by kernel_rfl) (by kernel_rfl) (fun _ _ _ h => h) rfl rfl ⟨hB, hz11, hz5⟩ (fun w' h' => exec_eql_u8s_b 39 _ _ _ _ rfl 9 Try.underlying39 Try.underlying5 (by kernel_rfl) (by kernel_rfl) (form) (QA) rfl rfl hfm.len hQA.len false Heq.out) ?_
  go_frame
  refine y_yield 12 (some 52) (.bool false) rfl (by kernel_rfl) (by kernel_rfl) (by kernel_rfl) (fun _ _ _ h => h) rfl rfl ⟨hB, hz11, hz5⟩ (fun w' h' => exec_pick _ _ _ rfl false rfl (.bool false) rfl) ?_
  go_frame
  refine y_oper 13 (by kernel_rfl) rfl rfl (fun K' hK' => ?_)
  refine wp_exec (some 39) rfl (.bool false) (exec_assign _ rfl (.bool false) rfl) ?_
  refine hK' _ _ ⟨hB, hz11, hz5⟩ (fun _ => trivial) ?_
  clear hK' K'
  go_frame
  refine y_done (by kernel_rfl) ?_ _
  go_upto_region 9 with (fail)
  refine wp_region_lit ?_
  refine ls_ex (some 55) (.pointer (some ⟨w.heap.size, 4, none⟩)) rfl rfl (exec_fieldAddr 28 _ 4 rfl _ (by kernel_rfl)) ?_
  go_frame
  refine ls_ex (some 56) (.slice (some ⟨b0, off0, none⟩) qs.length cap) rfl rfl (exec_load_one 26 _ rfl w.heap.size 4 rfl (.slice (some ⟨b0, off0, none⟩) qs.length cap) _ Try.underlying26 rfl (hz5.at_ 4)) ?_
  go_frame
  refine ls_ex (some 57) (.int .i64 qs.length) rfl rfl (exec_len _ 26 58 rfl ((some ⟨b0, off0, none⟩)) qs.length cap rfl Try.underlying26) ?_
  go_frame
  refine ls_ex (some 58) (.bool false) rfl rfl (exec_eql _ _ _ _ rfl qs.length 30 rfl rfl false Hlen.out) ?_
  go_frame
  refine ls_ex (some 54) (.bool false) rfl rfl (exec_assign _ rfl (.bool false) rfl) ?_
  go_frame
  refine wpList_nil ?_
  go_upto_region 11 with (fail)
  refine wp_region_lit ?_
  refine ls_op rfl (fun K' hK' => ?_)
  have lz81 := hB.size
  have lz82 := hz5.lt
  have lz83 := hz11.lt
  have lz84 := hz18.lt
  have lz85 := hz32.lt
  refine wp_new (some 60) rfl (exec_bs0 rfl) (fun Wz78 nnz79 => ?_)
  have bz80 := nnz79.below (Below.refl _ _) (Nat.le_refl _)
  replace hB := below_after hB bz80
  replace hz5 := hz5.after bz80
  replace hz11 := hz11.after bz80
  replace hz18 := hz18.after bz80
  replace hz32 := hz32.after bz80
  have hoz77 : Own Wz78 Wz70.heap.size (.slice (some ⟨Wz70.heap.size, 0, none⟩) 0 0) [] := own_bs0 nnz79
  refine hK' _ _ ?_
  clear hK' K' nnz79 bz80
  go_frame
  refine ls_ex (some 61) (.pointer (some ⟨w.heap.size, 4, none⟩)) rfl rfl (exec_fieldAddr 28 _ 4 rfl _ (by kernel_rfl)) ?_
  go_frame
  refine ls_ex (some 62) (.slice (some ⟨b0, off0, none⟩) qs.length cap) rfl rfl (exec_load_one 26 _ rfl w.heap.size 4 rfl (.slice (some ⟨b0, off0, none⟩) qs.length cap) _ Try.underlying26 rfl (hz5.at_ 4)) ?_
  go_frame
  refine ls_op rfl (fun K' hK' => ?_)
  have lz88 := hB.size
  have lz89 := hz5.lt
  have lz90 := hz11.lt
  have lz91 := hz18.lt
  have lz92 := hz32.lt
  have lz93 : Wz70.heap.size < Wz78.heap.size := (hoz77.lt rfl).2
  have lz94 : Wz70.heap.size ≤ Wz70.heap.size := (hoz77.lt rfl).1
  refine wp_append_rd (some 63) rfl _ _ rfl (.slice (some ⟨Wz70.heap.size, 0, none⟩) 0 0) ([]) (qs) rfl hoz77 ((some ⟨b0, off0, none⟩)) cap rfl (hR.keep hB) ((by simp)) (by simp; omega) (by omega) (fun v8 Wz86 ho8 grz87 => ?_)
  replace hB := below_grown hB grz87 hoz77 (by omega)
  replace hz5 := hz5.grown grz87 (hoz77.ne_lt (by omega))
  replace hz11 := hz11.grown grz87 (hoz77.ne_lt (by omega))
  replace hz18 := hz18.grown grz87 (hoz77.ne_lt (by omega))
  replace hz32 := hz32.grown grz87 (hoz77.ne_lt (by omega))
  rw [List.nil_append] at ho8
  obtain ⟨A8, c8, rfl, _⟩ := ho8.rd Hgood.out
  obtain ⟨g, rfl, hg⟩ := ho8.blk (by omega)
  have Hcg := fun (W : World) (ho : Own W (Wz70.heap.size) (.slice (some ⟨g, 0, none⟩) qs.length c8) (qs)) => (fun t ht => by have := Rd.cells27 (ho.rd' Hgood.out) hilt t ht; rwa [Nat.zero_add, HQi.out] at this : ∀ t, t < 27 → W.cell? ⟨g, i * 27 + t, none⟩ = some (.int .u8 (((cat3 QA QB QC)[t]?.getD 0 : Nat) : Int)))
  refine hK' _ _ ?_
  clear hK' K' grz87 hoz77
  go_frame
  refine ls_ex (some 10) (.slice (some ⟨g, 0, none⟩) qs.length c8) rfl rfl (exec_assign _ rfl (.slice (some ⟨g, 0, none⟩) qs.length c8) rfl) ?_
  go_frame
  refine wpList_nil ?_
  go_upto_region 12 with (fail)
  refine wp_region_lit ?_
  refine ls_ex (some 64) (.slice (some ⟨g, 0, none⟩) qs.length c8) rfl rfl (exec_move _ rfl (.slice (some ⟨g, 0, none⟩) qs.length c8) rfl) ?_
  go_frame
  refine ls_ex (some 65) (.int .i64 i) rfl rfl (exec_move _ rfl (.int .i64 i) rfl) ?_
  go_frame
  refine ls_ex (some 66) (.pointer (some ⟨g, i * 27, none⟩)) rfl rfl (exec_ix0 _ 58 _ _ rfl g qs.length c8 i 27 rfl rfl Try.underlying26 (by kernel_rfl) hilt) ?_
  go_frame
  refine ls_ex (some 67) (.agg (u8s (cat3 QA QB QC))) rfl rfl (exec_load_cells 58 _ rfl g (i * 27) rfl (cat3 QA QB QC) _ 27 (Hcg _ ho8) Try.underlying58 rfl (by kernel_rfl) (hq.len)) ?_
  go_frame
  refine ls_op rfl (fun K' hK' => ?_)
  have lz95 := hB.size
  have lz96 := hz5.lt
  have lz97 := hz11.lt
  have lz98 := hz18.lt
  have lz99 := hz32.lt
  have lz100 : g < Wz86.heap.size := (ho8.lt rfl).2
  have lz101 : Wz70.heap.size ≤ g := (ho8.lt rfl).1
  have naz106 := ho8.away_new
  refine wp_new (some 11) rfl (als_impl_Product rfl) (fun Wz102 nnz103 => ?_)
  have bz104 := nnz103.below (Below.refl _ _) (Nat.le_refl _)
  replace hB := below_after hB bz104
  replace hz5 := hz5.after bz104
  replace hz11 := hz11.after bz104
  replace hz18 := hz18.after bz104
  replace hz32 := hz32.after bz104
  replace ho8 := ho8.below bz104
  have hz105 : At Wz102 Wz86.heap.size (.cells (u8s (List.replicate 27 0)) 58 (0, 0)) := nnz103.at_
  refine hK' _ _ ?_
  clear hK' K' nnz103 bz104
  go_frame
  refine ls_op rfl (fun K' hK' => ?_)
  refine wp_store_bytes 58 _ _ rfl rfl Wz86.heap.size rfl (cat3 QA QB QC) rfl _ _ hz105 27 (by kernel_rfl) hq.len (by simp) (fun Wz107 pz108 => ?_)
  replace hB := pz108.below hB (by omega)
  replace hz5 := pz108.other hz5 (by omega)
  replace hz11 := pz108.other hz11 (by omega)
  replace hz18 := pz108.other hz18 (by omega)
  replace hz32 := pz108.other hz32 (by omega)
  replace ho8 := ho8.put pz108 naz106
  replace hz105 : At Wz107 Wz86.heap.size (.cells (u8s (cat3 QA QB QC)) 58 (0, 0)) := pz108.at_
  refine hK' _ _ ?_
  clear hK' K' pz108
  refine wpList_nil ?_
  go_upto_region 13 with (fail)
  refine wp_region_lit ?_
  refine ls_ex (some 68) (.slice (some ⟨g, 0, none⟩) qs.length c8) rfl rfl (exec_move _ rfl (.slice (some ⟨g, 0, none⟩) qs.length c8) rfl) ?_
  go_frame
  refine ls_ex (some 69) (.int .i64 i) rfl rfl (exec_move _ rfl (.int .i64 i) rfl) ?_
  go_frame
  refine ls_ex (some 70) (.agg (u8s (cat3 QA QB QC))) rfl rfl (exec_load_all 58 _ rfl Wz86.heap.size rfl _ _ _ hz105 Try.underlying58 rfl 27 (by kernel_rfl) ((u8s_size _).trans hq.len)) ?_
  go_frame
  refine ls_ex (some 71) (.int .i64 0) rfl rfl (exec_move _ rfl (.int .i64 0) rfl) ?_
  go_frame
  refine ls_ex (some 72) (.agg (u8s (form))) rfl rfl (exec_load_all 39 _ rfl Wz2.heap.size rfl _ _ _ hz11 Try.underlying39 rfl 9 (by kernel_rfl) ((u8s_size _).trans hfm.len)) ?_
  go_frame
  refine ls_op rfl (fun K' hK' => ?_)
  have lz111 := hB.size
  have lz112 := hz5.lt
  have lz113 := hz11.lt
  have lz114 := hz18.lt
  have lz115 := hz32.lt
  have lz116 : g < Wz107.heap.size := (ho8.lt rfl).2
  have lz117 : Wz70.heap.size ≤ g := (ho8.lt rfl).1
  have lz118 := hz105.lt
  refine wp_call3 (some 73) rfl 33 _ _ _ _ rfl (fun args w => by kernel_rfl) _ _ _ rfl rfl rfl _ (HW1.out _) (fun e Wz109 h => ?_)
  obtain ⟨rfl, bz110⟩ := h
  replace hB := below_after hB bz110
  replace hz5 := hz5.after bz110
  replace hz11 := hz11.after bz110
  replace hz18 := hz18.after bz110
  replace hz32 := hz32.after bz110
  replace ho8 := ho8.below bz110
  replace hz105 := hz105.after bz110
  clear bz110
  refine ⟨_, rfl, ?_⟩
  refine hK' _ _ ?_
  clear hK' K'
  go_frame
  refine ls_ex (some 74) (.pointer (some ⟨g, i * 27, none⟩)) rfl rfl (exec_ix0 _ 58 _ _ rfl g qs.length c8 i 27 rfl rfl Try.underlying26 (by kernel_rfl) hilt) ?_
  go_frame
  refine ls_op rfl (fun K' hK' => ?_)
  refine wp_store_own 58 _ _ rfl rfl g i rfl (cat3 form QB QC) rfl ho8 (Hq27.out) (by kernel_rfl) (hilt) hN1.len (fun Wz119 hoz121 pz120 _ => ?_)
  replace hB := pz120.below hB (by omega)
  replace hz5 := pz120.other hz5 (by omega)
  replace hz11 := pz120.other hz11 (by omega)
  replace hz18 := pz120.other hz18 (by omega)
  replace hz32 := pz120.other hz32 (by omega)
  replace hz105 := pz120.other hz105 (by omega)
  replace ho8 := hoz121
  refine hK' _ _ ?_
  clear hK' K' pz120 hoz121
  refine wpList_nil ?_
  rw [HM1e.out] at ho8
  go_upto_region 14 with (fail)
  refine wp_region_y (zs := []) (S := fun w' => Below w.heap.size w w' ∧ At w' Wz86.heap.size (.cells (u8s (cat3 QA QB QC)) 58 (0, 0)) ∧ At w' w.heap.size (.cells #[.int .i64 p, .int .i64 n, .int .i64 m, .int .i64 k, .slice (some ⟨b0, off0, none⟩) qs.length cap] 28 (0, 0)) ∧ At w' Wz2.heap.size (.cells (u8s (form)) 39 (0, 0))) (S2 := fun w' => True) (by kernel_rfl) ?_
  change wpAnyY _ _ _ _ _ _ _ _ _ _ (World.drew _)
  generalize hwdz122 : World.drew _ = wdz122
  replace hB : Below w.heap.size w wdz122 := by rw [← hwdz122]; exact hB.drew
  replace hz5 : At wdz122 w.heap.size (.cells #[.int .i64 p, .int .i64 n, .int .i64 m, .int .i64 k, .slice (some ⟨b0, off0, none⟩) qs.length cap] 28 (0, 0)) := by rw [← hwdz122]; exact hz5
  replace hz11 : At wdz122 Wz2.heap.size (.cells (u8s (form)) 39 (0, 0)) := by rw [← hwdz122]; exact hz11
  replace hz18 : At wdz122 Wz8.heap.size (.cells #[.int .i64 0, .int .i64 0, .int .i64 0, .int .i64 0, .slice none 0 0] 28 (0, 0)) := by rw [← hwdz122]; exact hz18
  replace hz32 : At wdz122 Wz19.heap.size (.cells #[.int .i64 i] 2 (0, 0)) := by rw [← hwdz122]; exact hz32
  replace ho8 : Own wdz122 (Wz70.heap.size) (.slice (some ⟨g, 0, none⟩) qs.length c8) M1 := by rw [← hwdz122]; exact ho8.drew
  replace hz105 : At wdz122 Wz86.heap.size (.cells (u8s (cat3 QA QB QC)) 58 (0, 0)) := by rw [← hwdz122]; exact hz105
  clear hwdz122
  refine y_yield 0 (some 75) (.slice (some ⟨g, 0, none⟩) qs.length c8) rfl (by kernel_rfl) (by kernel_rfl) (by kernel_rfl) (fun _ _ _ h => h) rfl rfl ⟨hB, hz105, hz5, hz11⟩ (fun w' h' => exec_move _ rfl (.slice (some ⟨g, 0, none⟩) qs.length c8) rfl) ?_
  go_frame
  refine y_yield 1 (some 76) (.agg (u8s (cat3 QA QB QC))) rfl (by kernel_rfl) (by kernel_rfl) (by kernel_rfl) (fun _ _ _ h => h) rfl rfl ⟨hB, hz105, hz5, hz11⟩ (fun w' h' => exec_load_all 58 _ rfl Wz86.heap.size rfl _ _ _ h'.2.1 Try.underlying58 rfl 27 (by kernel_rfl) ((u8s_size _).trans hq.len)) ?_
  go_frame
  refine y_yield 2 (some 77) (.int .i64 0) rfl (by kernel_rfl) (by kernel_rfl) (by kernel_rfl) (fun _ _ _ h => h) rfl rfl ⟨hB, hz105, hz5, hz11⟩ (fun w' h' => exec_move _ rfl (.int .i64 0) rfl) ?_
  go_frame
  refine y_yield 3 (some 78) (.pointer (some ⟨w.heap.size, 0, none⟩)) rfl (by kernel_rfl) (by kernel_rfl) (by kernel_rfl) (fun _ _ _ h => h) rfl rfl ⟨hB, hz105, hz5, hz11⟩ (fun w' h' => exec_fieldAddr 28 _ 0 rfl _ (by kernel_rfl)) ?_
  go_frame
  refine y_yield 4 (some 79) (.int .i64 p) rfl (by kernel_rfl) (by kernel_rfl) (by kernel_rfl) (fun _ _ _ h => h) rfl rfl ⟨hB, hz105, hz5, hz11⟩ (fun w' h' => exec_load_one 2 _ rfl w.heap.size 0 rfl (.int .i64 p) _ Try.underlying2 rfl (h'.2.2.1.at_ 0)) ?_
  go_frame
  refine y_yield 5 (some 80) (.agg (u8s (cat3 QA QB QC))) rfl (by kernel_rfl) (by kernel_rfl) (by kernel_rfl) (fun _ _ _ h => h) rfl rfl ⟨hB, hz105, hz5, hz11⟩ (fun w' h' => exec_load_all 58 _ rfl Wz86.heap.size rfl _ _ _ h'.2.1 Try.underlying58 rfl 27 (by kernel_rfl) ((u8s_size _).trans hq.len)) ?_
  go_frame
  refine y_yield 6 (some 81) (.int .i64 0) rfl (by kernel_rfl) (by kernel_rfl) (by kernel_rfl) (fun _ _ _ h => h) rfl rfl ⟨hB, hz105, hz5, hz11⟩ (fun w' h' => exec_move _ rfl (.int .i64 0) rfl) ?_
  go_frame
  refine y_yield 8 (some 83) (.agg (u8s (form))) rfl (by kernel_rfl) (by kernel_rfl) (by kernel_rfl) (fun _ _ _ h => h) rfl rfl ⟨hB, hz105, hz5, hz11⟩ (fun w' h' => exec_load_all 39 _ rfl Wz2.heap.size rfl _ _ _ h'.2.2.2 Try.underlying39 rfl 9 (by kernel_rfl) ((u8s_size _).trans hfm.len)) ?_
  go_frame
  refine y_oper 7 (by kernel_rfl) rfl rfl (fun K' hK' => ?_)
  have lz125 := hB.size
  have lz126 := hz5.lt
  have lz127 := hz11.lt
  have lz128 := hz18.lt
  have lz129 := hz32.lt
  have lz130 : g < wdz122.heap.size := (ho8.lt rfl).2
  have lz131 : Wz70.heap.size ≤ g := (ho8.lt rfl).1
  have lz132 := hz105.lt
  refine wp_call2 (some 82) rfl 46 _ _ _ rfl (fun args w => by kernel_rfl) _ _ rfl rfl _ (l03Factor_c (cat3 QA QB QC) 0 hq (by omega) _) (fun e Wz123 h => ?_)
  obtain ⟨rfl, bz124⟩ := h
  replace hB := below_after hB bz124
  replace hz5 := hz5.after bz124
  replace hz11 := hz11.after bz124
  replace hz18 := hz18.after bz124
  replace hz32 := hz32.after bz124
  replace ho8 := ho8.below bz124
  replace hz105 := hz105.after bz124
  rw [Hfac.out]
  clear bz124
  refine ⟨_, rfl, ?_⟩
  refine hK' _ _ ⟨hB, hz105, hz5, hz11⟩ (fun _ => trivial) ?_
  clear hK' K'
  go_frame
  refine y_oper 9 (by kernel_rfl) rfl rfl (fun K' hK' => ?_)
  have lz135 := hB.size
  have lz136 := hz5.lt
  have lz137 := hz11.lt
  have lz138 := hz18.lt
  have lz139 := hz32.lt
  have lz140 : g < Wz123.heap.size := (ho8.lt rfl).2
  have lz141 : Wz70.heap.size ≤ g := (ho8.lt rfl).1
  have lz142 := hz105.lt
  refine wp_call4 (some 84) rfl 34 _ _ _ _ _ rfl (fun args w => by kernel_rfl) _ _ _ _ rfl rfl rfl rfl _ (HAdd.out _) (fun e Wz133 h => ?_)
  obtain ⟨rfl, bz134⟩ := h
  replace hB := below_after hB bz134
  replace hz5 := hz5.after bz134
  replace hz11 := hz11.after bz134
  replace hz18 := hz18.after bz134
  replace hz32 := hz32.after bz134
  replace ho8 := ho8.below bz134
  replace hz105 := hz105.after bz134
  clear bz134
  refine ⟨_, rfl, ?_⟩
  refine hK' _ _ ⟨hB, hz105, hz5, hz11⟩ (fun _ => trivial) ?_
  clear hK' K'
  go_frame
  refine y_oper 10 (by kernel_rfl) rfl rfl (fun K' hK' => ?_)
  have lz145 := hB.size
  have lz146 := hz5.lt
  have lz147 := hz11.lt
  have lz148 := hz18.lt
  have lz149 := hz32.lt
  have lz150 : g < Wz133.heap.size := (ho8.lt rfl).2
  have lz151 : Wz70.heap.size ≤ g := (ho8.lt rfl).1
  have lz152 := hz105.lt
  refine wp_call3 (some 85) rfl 33 _ _ _ _ rfl (fun args w => by kernel_rfl) _ _ _ rfl rfl rfl _ (HW2.out _) (fun e Wz143 h => ?_)
  obtain ⟨rfl, bz144⟩ := h
  replace hB := below_after hB bz144
  replace hz5 := hz5.after bz144
  replace hz11 := hz11.after bz144
  replace hz18 := hz18.after bz144
  replace hz32 := hz32.after bz144
  replace ho8 := ho8.below bz144
  replace hz105 := hz105.after bz144
  clear bz144
  refine ⟨_, rfl, ?_⟩
  refine hK' _ _ ⟨hB, hz105, hz5, hz11⟩ (fun _ => trivial) ?_
  clear hK' K'
  go_frame
  refine y_oper 11 (by kernel_rfl) rfl rfl (fun K' hK' => ?_)
  have lz157 := hB.size
  have lz158 := hz5.lt
  have lz159 := hz11.lt
  have lz160 := hz18.lt
  have lz161 := hz32.lt
  have lz162 : g < Wz143.heap.size := (ho8.lt rfl).2
  have lz163 : Wz70.heap.size ≤ g := (ho8.lt rfl).1
  have lz164 := hz105.lt
  have naz165 := ho8.away_new
  refine wp_slice1 (some 86) rfl 26 58 _ rfl (cat3 G QB QC) rfl Try.underlying26 infoProd hN2.len (fun Wz153 nnz154 => ?_)
  have bz155 := nnz154.below (Below.refl _ _) (Nat.le_refl _)
  have hrdz156 := Rd.one nnz154 (hN2)
  replace hB := below_after hB bz155
  replace hz5 := hz5.after bz155
  replace hz11 := hz11.after bz155
  replace hz18 := hz18.after bz155
  replace hz32 := hz32.after bz155
  replace ho8 := ho8.below bz155
  replace hz105 := hz105.after bz155
  refine hK' _ _ ⟨hB, hz105, hz5, hz11⟩ (fun _ => trivial) ?_
  clear hK' K' nnz154 bz155
  go_frame
  refine y_oper 12 (by kernel_rfl) rfl rfl (fun K' hK' => ?_)
  have lz168 := hB.size
  have lz169 := hz5.lt
  have lz170 := hz11.lt
  have lz171 := hz18.lt
  have lz172 := hz32.lt
  have lz173 : g < Wz153.heap.size := (ho8.lt rfl).2
  have lz174 : Wz70.heap.size ≤ g := (ho8.lt rfl).1
  have lz175 := hz105.lt
  refine wp_append_rd (some 87) rfl _ _ rfl (.slice (some ⟨g, 0, none⟩) qs.length c8) (M1) ([cat3 G QB QC]) rfl ho8 ((some ⟨Wz143.heap.size, 0, none⟩)) 1 rfl (hrdz156) ((by simp)) (by simp only [List.length_cons, List.length_nil]; omega) (by omega) (fun v9 Wz166 ho9 grz167 => ?_)
  replace hB := below_grown hB grz167 ho8 (by omega)
  replace hz5 := hz5.grown grz167 (ho8.ne_lt (by omega))
  replace hz11 := hz11.grown grz167 (ho8.ne_lt (by omega))
  replace hz18 := hz18.grown grz167 (ho8.ne_lt (by omega))
  replace hz32 := hz32.grown grz167 (ho8.ne_lt (by omega))
  replace hz105 := hz105.grown grz167 naz106
  obtain ⟨A9, c9, rfl, hR9⟩ := ho9.rd HM2b.out
  refine hK' _ _ ⟨hB, hz105, hz5, hz11⟩ (fun _ => trivial) ?_
  clear hK' K' grz167 ho8
  go_frame
  refine y_oper 13 (by kernel_rfl) rfl rfl (fun K' hK' => ?_)
  refine wp_exec (some 10) rfl (.slice A9 (M1 ++ [cat3 G QB QC]).length c9) (exec_assign _ rfl (.slice A9 (M1 ++ [cat3 G QB QC]).length c9) rfl) ?_
  refine hK' _ _ ⟨hB, hz105, hz5, hz11⟩ (fun _ => trivial) ?_
  clear hK' K'
  go_frame
  refine y_done (by kernel_rfl) ?_ _
  go_upto_region 15 with (fail)
  refine wp_region_lit ?_
  refine ls_ex (some 88) (.agg #[.int .i64 p, .int .i64 n, .int .i64 m, .int .i64 k, .slice (some ⟨b0, off0, none⟩) qs.length cap]) rfl rfl (exec_load_all 28 _ rfl w.heap.size rfl _ _ _ hz5 Try.underlying28 rfl 5 (by kernel_rfl) rfl) ?_
  go_frame
  refine ls_ex (some 89) (.slice A9 (M1 ++ [cat3 G QB QC]).length c9) rfl rfl (exec_move _ rfl (.slice A9 (M1 ++ [cat3 G QB QC]).length c9) rfl) ?_
  go_frame
  refine ls_op rfl (fun K' hK' => ?_)
  have lz178 := hB.size
  have lz179 := hz5.lt
  have lz180 := hz11.lt
  have lz181 := hz18.lt
  have lz182 := hz32.lt
  have lz183 := hz105.lt
  have lo9 := hB.size
  refine wp_call2 (some 90) rfl 35 _ _ _ rfl (fun args w => by kernel_rfl) _ _ rfl rfl _ (l03Told_c p n m k _ qs.length cap A9 c9 _ _ (ho9.rd' HM2b.out) (by simp; omega)) (fun e Wz176 h => ?_)
  obtain ⟨v, rfl, hov, bz177⟩ := h
  replace hB := below_after hB bz177
  replace hz5 := hz5.after bz177
  replace hz11 := hz11.after bz177
  replace hz18 := hz18.after bz177
  replace hz32 := hz32.after bz177
  replace hz105 := hz105.after bz177
  replace ho9 := ho9.below bz177
  rw [HF.out] at hov
  obtain ⟨Av, cv, rfl, _⟩ := hov.rd HRb.out
  clear bz177
  refine ⟨_, rfl, ?_⟩
  refine hK' _ _ ?_
  clear hK' K'
  go_frame
  refine ls_op rfl (fun K' hK' => ?_)
  refine wp_store_all 28 _ _ rfl rfl Wz8.heap.size rfl #[.int .i64 p, .int .i64 n, .int .i64 m, .int .i64 k, .slice Av R.length cv] rfl _ _ hz18 5 (by kernel_rfl) rfl rfl (one5 _ _ _ _ _ _ _) (fun Wz184 pz185 => ?_)
  replace hB := pz185.below hB (by omega)
  replace hz5 := pz185.other hz5 (by omega)
  replace hz11 := pz185.other hz11 (by omega)
  replace hz32 := pz185.other hz32 (by omega)
  replace hz105 := pz185.other hz105 (by omega)
  replace ho9 := ho9.put pz185 (ho9.ne_lt (by omega))
  replace hov := hov.put pz185 (hov.ne_lt (by omega))
  replace hz18 : At Wz184 Wz8.heap.size (.cells #[.int .i64 p, .int .i64 n, .int .i64 m, .int .i64 k, .slice Av R.length cv] 28 (0, 0)) := pz185.at_
  refine hK' _ _ ?_
  clear hK' K' pz185
  refine ls_ex (some 9) (.int .i64 0) rfl rfl (exec_assign _ rfl (.int .i64 0) rfl) ?_
  go_frame
  refine wpList_nil ?_
  go_wp2_with fail
  refine bodyPost_ret (results_at2 rfl _ _ (Wz8.heap.size) _ _ _ rfl _ rfl hz18 Try.underlying28 rfl 5 (by kernel_rfl) rfl) rfl ?_
  exact ⟨_, by rw [Hz.out, Hz.out, Hz.out, Hz.out, Hcode.out]; rfl, by rw [HQ.out]; exact hov.mono lo9, hB⟩
end Go.Proofs.Ytbgoopmmdbhogaa
