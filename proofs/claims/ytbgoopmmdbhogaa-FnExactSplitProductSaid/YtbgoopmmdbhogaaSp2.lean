/-
  impl.SplitProduct. (Made by mksp.py.)
-/
import Derived.Test.YtbgoopmmdbhogaaSx
import Derived.Test.YtbgoopmmdbhogaaSp0
import Derived.Test.YtbgoopmmdbhogaaPo
import Derived.Test.YtbgoopmmdbhogaaSub
import Derived.Test.YtbgoopmmdbhogaaAdd1
import Derived.Deep.CutRange
namespace Go.Proofs.Ytbgoopmmdbhogaa
open Go.RowKit
set_option maxRecDepth 100000
theorem al__3_impl_Form {o : Oper} {a : Act} {w : World} (ho : o.op = .alloc 79) : (execOp a.eval o).run Try.prog w = .ok (.value (.pointer (some ⟨w.heap.size, 0, none⟩))) (w.alloc (.cells (u8s (List.replicate 27 0)) 79 (0, 0))) := by
  unfold execOp
  rw [ho]
  kernel_rfl
theorem al_impl_Scheme {o : Oper} {a : Act} {w : World} (ho : o.op = .alloc 28) : (execOp a.eval o).run Try.prog w = .ok (.value (.pointer (some ⟨w.heap.size, 0, none⟩))) (w.alloc (.cells #[.int .i64 0, .int .i64 0, .int .i64 0, .int .i64 0, .slice none 0 0] 28 (0, 0))) := by
  unfold execOp
  rw [ho]
  kernel_rfl
set_option maxHeartbeats 4000000 in
theorem implSplit_a (p n m k : Int) (b0 off0 : Nat) (cap : Nat) (qs : List (List Nat)) (i f : Int) (form : List Nat) (w : World) (hR : Rd w (some ⟨b0, off0, none⟩) qs) (hlen : qs.length ≤ 1048576) (_hfm : Bytes 9 form) (hs : schemeB p n m k qs = false) :
    Calls Try.prog 18 #[.agg #[.int .i64 p, .int .i64 n, .int .i64 m, .int .i64 k, .slice (some ⟨b0, off0, none⟩) qs.length cap], .int .i64 i, .int .i64 f, .agg (u8s form)] w (ResS w (spZ p n m k qs i f form p) (spZ p n m k qs i f form n) (spZ p n m k qs i f form m) (spZ p n m k qs i f form k) (spR p n m k qs i f form) (spCode p n m k qs i f form)) := by
  have HIs := Lib.hid (fun w hr => implIsScheme_c p n m k (some ⟨b0, off0, none⟩) cap qs w hr hlen)
  have hB := Below.refl w.heap.size w
  have Hs := Lib.hid hs
  have Hcode : Hid (spCode p n m k qs i f form = 1) := Lib.hid (by simp [spCode, hs])
  have Hz : Hid (∀ x, spZ p n m k qs i f form x = 0) := Lib.hid (fun x => by simp [spZ, Hcode.out])
  have Hr : Hid (spR p n m k qs i f form = []) := Lib.hid (by simp [spR, Hcode.out])
  clear hs
  go_enter Try.func18, Try.ntmps18
  go_upto_region 0 with (fail)
  refine wp_region_lit ?_
  refine ls_op rfl (fun K' hK' => ?_)
  have lz1 := hB.size
  refine wp_new (some 4) rfl (exec_box 28 _ rfl (#[.int .i64 p, .int .i64 n, .int .i64 m, .int .i64 k, .slice (some ⟨b0, off0, none⟩) qs.length cap]) rfl) (fun Wz2 nnz3 => ?_)
  have bz4 := nnz3.below (Below.refl _ _) (Nat.le_refl _)
  replace hB := below_after hB bz4
  have hz5 : At Wz2 w.heap.size (.cells #[.int .i64 p, .int .i64 n, .int .i64 m, .int .i64 k, .slice (some ⟨b0, off0, none⟩) qs.length cap] 28 (0, 0)) := nnz3.at_
  refine hK' _ _ ?_
  clear hK' K' nnz3 bz4
  go_frame
  refine ls_op rfl (fun K' hK' => ?_)
  have lz6 := hB.size
  have lz7 := hz5.lt
  refine wp_new (some 7) rfl (exec_box 39 _ rfl (u8s (form)) rfl) (fun Wz8 nnz9 => ?_)
  have bz10 := nnz9.below (Below.refl _ _) (Nat.le_refl _)
  replace hB := below_after hB bz10
  replace hz5 := hz5.after bz10
  have hz11 : At Wz8 Wz2.heap.size (.cells (u8s (form)) 39 (0, 0)) := nnz9.at_
  refine hK' _ _ ?_
  clear hK' K' nnz9 bz10
  go_frame
  refine ls_op rfl (fun K' hK' => ?_)
  have lz12 := hB.size
  have lz13 := hz5.lt
  have lz14 := hz11.lt
  refine wp_new (some 8) rfl (al_impl_Scheme rfl) (fun Wz15 nnz16 => ?_)
  have bz17 := nnz16.below (Below.refl _ _) (Nat.le_refl _)
  replace hB := below_after hB bz17
  replace hz5 := hz5.after bz17
  replace hz11 := hz11.after bz17
  have hz18 : At Wz15 Wz8.heap.size (.cells #[.int .i64 0, .int .i64 0, .int .i64 0, .int .i64 0, .slice none 0 0] 28 (0, 0)) := nnz16.at_
  refine hK' _ _ ?_
  clear hK' K' nnz16 bz17
  go_frame
  refine ls_ex (some 9) (.int .i64 0) rfl rfl (exec_assign _ rfl (.int .i64 0) rfl) ?_
  go_frame
  refine wpList_nil ?_
  go_upto_region 1 with (fail)
  refine wp_region_lit ?_
  refine ls_ex (some 13) (.agg #[.int .i64 p, .int .i64 n, .int .i64 m, .int .i64 k, .slice (some ⟨b0, off0, none⟩) qs.length cap]) rfl rfl (exec_load_all 28 _ rfl w.heap.size rfl _ _ _ hz5 Try.underlying28 rfl 5 (by kernel_rfl) rfl) ?_
  go_frame
  refine ls_op rfl (fun K' hK' => ?_)
  have lz21 := hB.size
  have lz22 := hz5.lt
  have lz23 := hz11.lt
  have lz24 := hz18.lt
  refine wp_call1 (some 14) rfl 25 _ _ rfl (fun args w => by kernel_rfl) _ rfl _ (HIs.out _ (hR.keep hB)) (fun e Wz19 h => ?_)
  obtain ⟨rfl, bz20⟩ := h
  replace hB := below_after hB bz20
  replace hz5 := hz5.after bz20
  replace hz11 := hz11.after bz20
  replace hz18 := hz18.after bz20
  rw [Hs.out]
  clear bz20
  refine ⟨_, rfl, ?_⟩
  refine hK' _ _ ?_
  clear hK' K'
  go_frame
  refine ls_ex (some 15) (.bool true) rfl rfl (exec_not _ _ rfl false rfl) ?_
  go_frame
  refine wpList_nil ?_
  go_upto_region 2 with (fail)
  refine wp_region_lit ?_
  refine ls_ex (some 16) (.agg #[.int .i64 0, .int .i64 0, .int .i64 0, .int .i64 0, .slice none 0 0]) rfl rfl (exec_build_nil 28 rfl _ (by kernel_rfl)) ?_
  go_frame
  refine ls_op rfl (fun K' hK' => ?_)
  refine wp_store_all 28 _ _ rfl rfl Wz8.heap.size rfl #[.int .i64 0, .int .i64 0, .int .i64 0, .int .i64 0, .slice none 0 0] rfl _ _ hz18 5 (by kernel_rfl) rfl rfl (one5 _ _ _ _ _ _ _) (fun Wz25 pz26 => ?_)
  replace hB := pz26.below hB (by omega)
  replace hz5 := pz26.other hz5 (by omega)
  replace hz11 := pz26.other hz11 (by omega)
  replace hz18 : At Wz25 Wz8.heap.size (.cells #[.int .i64 0, .int .i64 0, .int .i64 0, .int .i64 0, .slice none 0 0] 28 (0, 0)) := pz26.at_
  refine hK' _ _ ?_
  clear hK' K' pz26
  refine ls_ex (some 9) (.int .i64 1) rfl rfl (exec_assign _ rfl (.int .i64 1) rfl) ?_
  go_frame
  refine wpList_nil ?_
  go_wp2_with fail
  refine bodyPost_ret (results_at2 rfl _ _ (Wz8.heap.size) _ _ _ rfl _ rfl hz18 Try.underlying28 rfl 5 (by kernel_rfl) rfl) rfl ?_
  exact ⟨.slice none 0 0, by rw [Hz.out, Hz.out, Hz.out, Hz.out, Hcode.out]; rfl, by rw [Hr.out]; exact Own.nil _ _, hB⟩
set_option maxHeartbeats 4000000 in
theorem implSplit_b (p n m k : Int) (b0 off0 : Nat) (cap : Nat) (qs : List (List Nat)) (i f : Int) (form : List Nat) (w : World) (hR : Rd w (some ⟨b0, off0, none⟩) qs) (hlen : qs.length ≤ 1048576) (_hfm : Bytes 9 form) (hs : schemeB p n m k qs = true) (hi : inI i qs.length = false) :
    Calls Try.prog 18 #[.agg #[.int .i64 p, .int .i64 n, .int .i64 m, .int .i64 k, .slice (some ⟨b0, off0, none⟩) qs.length cap], .int .i64 i, .int .i64 f, .agg (u8s form)] w (ResS w (spZ p n m k qs i f form p) (spZ p n m k qs i f form n) (spZ p n m k qs i f form m) (spZ p n m k qs i f form k) (spR p n m k qs i f form) (spCode p n m k qs i f form)) := by
  have HIs := Lib.hid (fun w hr => implIsScheme_c p n m k (some ⟨b0, off0, none⟩) cap qs w hr hlen)
  have hB := Below.refl w.heap.size w
  have Hs := Lib.hid hs
  have Hi := Lib.hid hi
  have Hcode : Hid (spCode p n m k qs i f form = 2) := Lib.hid (by simp [spCode, hs, hi])
  have Hz : Hid (∀ x, spZ p n m k qs i f form x = 0) := Lib.hid (fun x => by simp [spZ, Hcode.out])
  have Hr : Hid (spR p n m k qs i f form = []) := Lib.hid (by simp [spR, Hcode.out])
  clear hs hi
  go_enter Try.func18, Try.ntmps18
  go_upto_region 0 with (fail)
  refine wp_region_lit ?_
  refine ls_op rfl (fun K' hK' => ?_)
  have lz1 := hB.size
  refine wp_new (some 4) rfl (exec_box 28 _ rfl (#[.int .i64 p, .int .i64 n, .int .i64 m, .int .i64 k, .slice (some ⟨b0, off0, none⟩) qs.length cap]) rfl) (fun Wz2 nnz3 => ?_)
  have bz4 := nnz3.below (Below.refl _ _) (Nat.le_refl _)
  replace hB := below_after hB bz4
  have hz5 : At Wz2 w.heap.size (.cells #[.int .i64 p, .int .i64 n, .int .i64 m, .int .i64 k, .slice (some ⟨b0, off0, none⟩) qs.length cap] 28 (0, 0)) := nnz3.at_
  refine hK' _ _ ?_
  clear hK' K' nnz3 bz4
  go_frame
  refine ls_op rfl (fun K' hK' => ?_)
  have lz6 := hB.size
  have lz7 := hz5.lt
  refine wp_new (some 7) rfl (exec_box 39 _ rfl (u8s (form)) rfl) (fun Wz8 nnz9 => ?_)
  have bz10 := nnz9.below (Below.refl _ _) (Nat.le_refl _)
  replace hB := below_after hB bz10
  replace hz5 := hz5.after bz10
  have hz11 : At Wz8 Wz2.heap.size (.cells (u8s (form)) 39 (0, 0)) := nnz9.at_
  refine hK' _ _ ?_
  clear hK' K' nnz9 bz10
  go_frame
  refine ls_op rfl (fun K' hK' => ?_)
  have lz12 := hB.size
  have lz13 := hz5.lt
  have lz14 := hz11.lt
  refine wp_new (some 8) rfl (al_impl_Scheme rfl) (fun Wz15 nnz16 => ?_)
  have bz17 := nnz16.below (Below.refl _ _) (Nat.le_refl _)
  replace hB := below_after hB bz17
  replace hz5 := hz5.after bz17
  replace hz11 := hz11.after bz17
  have hz18 : At Wz15 Wz8.heap.size (.cells #[.int .i64 0, .int .i64 0, .int .i64 0, .int .i64 0, .slice none 0 0] 28 (0, 0)) := nnz16.at_
  refine hK' _ _ ?_
  clear hK' K' nnz16 bz17
  go_frame
  refine ls_ex (some 9) (.int .i64 0) rfl rfl (exec_assign _ rfl (.int .i64 0) rfl) ?_
  go_frame
  refine wpList_nil ?_
  go_upto_region 1 with (fail)
  refine wp_region_lit ?_
  refine ls_ex (some 13) (.agg #[.int .i64 p, .int .i64 n, .int .i64 m, .int .i64 k, .slice (some ⟨b0, off0, none⟩) qs.length cap]) rfl rfl (exec_load_all 28 _ rfl w.heap.size rfl _ _ _ hz5 Try.underlying28 rfl 5 (by kernel_rfl) rfl) ?_
  go_frame
  refine ls_op rfl (fun K' hK' => ?_)
  have lz21 := hB.size
  have lz22 := hz5.lt
  have lz23 := hz11.lt
  have lz24 := hz18.lt
  refine wp_call1 (some 14) rfl 25 _ _ rfl (fun args w => by kernel_rfl) _ rfl _ (HIs.out _ (hR.keep hB)) (fun e Wz19 h => ?_)
  obtain ⟨rfl, bz20⟩ := h
  replace hB := below_after hB bz20
  replace hz5 := hz5.after bz20
  replace hz11 := hz11.after bz20
  replace hz18 := hz18.after bz20
  rw [Hs.out]
  clear bz20
  refine ⟨_, rfl, ?_⟩
  refine hK' _ _ ?_
  clear hK' K'
  go_frame
  refine ls_ex (some 15) (.bool false) rfl rfl (exec_not _ _ rfl true rfl) ?_
  go_frame
  refine wpList_nil ?_
  go_upto_region 3 with (fail)
  refine wp_region_y (zs := []) (S := fun w' => Below w.heap.size w w' ∧ At w' w.heap.size (.cells #[.int .i64 p, .int .i64 n, .int .i64 m, .int .i64 k, .slice (some ⟨b0, off0, none⟩) qs.length cap] 28 (0, 0))) (S2 := fun w' => True) (by kernel_rfl) ?_
  change wpAnyY _ _ _ _ _ _ _ _ _ _ (World.drew _)
  generalize hwdz25 : World.drew _ = wdz25
  replace hB : Below w.heap.size w wdz25 := by rw [← hwdz25]; exact hB.drew
  replace hz5 : At wdz25 w.heap.size (.cells #[.int .i64 p, .int .i64 n, .int .i64 m, .int .i64 k, .slice (some ⟨b0, off0, none⟩) qs.length cap] 28 (0, 0)) := by rw [← hwdz25]; exact hz5
  replace hz11 : At wdz25 Wz2.heap.size (.cells (u8s (form)) 39 (0, 0)) := by rw [← hwdz25]; exact hz11
  replace hz18 : At wdz25 Wz8.heap.size (.cells #[.int .i64 0, .int .i64 0, .int .i64 0, .int .i64 0, .slice none 0 0] 28 (0, 0)) := by rw [← hwdz25]; exact hz18
  clear hwdz25
  refine y_yield 0 (some 17) (.agg #[.int .i64 p, .int .i64 n, .int .i64 m, .int .i64 k, .slice (some ⟨b0, off0, none⟩) qs.length cap]) rfl (by kernel_rfl) (by kernel_rfl) (by kernel_rfl) (fun _ _ _ h => h) rfl rfl ⟨hB, hz5⟩ (fun w' h' => exec_load_all 28 _ rfl w.heap.size rfl _ _ _ h'.2 Try.underlying28 rfl 5 (by kernel_rfl) rfl) ?_
  go_frame
  refine y_yield 1 (some 18) (.int .i64 i) rfl (by kernel_rfl) (by kernel_rfl) (by kernel_rfl) (fun _ _ _ h => h) rfl rfl ⟨hB, hz5⟩ (fun w' h' => exec_move _ rfl (.int .i64 i) rfl) ?_
  go_frame
  refine y_oper 2 (by kernel_rfl) rfl rfl (fun K' hK' => ?_)
  have lz28 := hB.size
  have lz29 := hz5.lt
  have lz30 := hz11.lt
  have lz31 := hz18.lt
  refine wp_call2 (some 19) rfl 36 _ _ _ rfl (fun args w => by kernel_rfl) _ _ rfl rfl _ (isProductIndex_c p n m k _ cap qs.length i _) (fun e Wz26 h => ?_)
  obtain ⟨rfl, bz27⟩ := h
  replace hB := below_after hB bz27
  replace hz5 := hz5.after bz27
  replace hz11 := hz11.after bz27
  replace hz18 := hz18.after bz27
  rw [Hi.out]
  clear bz27
  refine ⟨_, rfl, ?_⟩
  refine hK' _ _ ⟨hB, hz5⟩ (fun _ => trivial) ?_
  clear hK' K'
  go_frame
  refine y_yield 3 (some 20) (.bool true) rfl (by kernel_rfl) (by kernel_rfl) (by kernel_rfl) (fun _ _ _ h => h) rfl rfl ⟨hB, hz5⟩ (fun w' h' => exec_not _ _ rfl false rfl) ?_
  go_frame
  refine y_yield 4 (some 21) (.bool true) rfl (by kernel_rfl) (by kernel_rfl) (by kernel_rfl) (fun _ _ _ h => h) rfl rfl ⟨hB, hz5⟩ (fun w' h' => exec_move _ rfl (.bool true) rfl) ?_
  go_frame
  refine y_skip 5 (some 22) rfl (by kernel_rfl) (by kernel_rfl) (by kernel_rfl) (fun _ _ _ h => h) rfl rfl ⟨hB, hz5⟩ ?_
  go_frame
  refine y_pass 6 (some 23) (by kernel_rfl) rfl rfl rfl ⟨hB, hz5⟩ ?_
  go_frame
  refine y_skip 7 (some 24) rfl (by kernel_rfl) (by kernel_rfl) (by kernel_rfl) (fun _ _ _ h => h) rfl rfl ⟨hB, hz5⟩ ?_
  go_frame
  refine y_yield 8 (some 25) (.bool true) rfl (by kernel_rfl) (by kernel_rfl) (by kernel_rfl) (fun _ _ _ h => h) rfl rfl ⟨hB, hz5⟩ (fun w' h' => exec_pick _ _ _ rfl true rfl (.bool true) rfl) ?_
  go_frame
  refine y_yield 9 (some 26) (.bool true) rfl (by kernel_rfl) (by kernel_rfl) (by kernel_rfl) (fun _ _ _ h => h) rfl rfl ⟨hB, hz5⟩ (fun w' h' => exec_move _ rfl (.bool true) rfl) ?_
  go_frame
  refine y_skip 10 (some 27) rfl (by kernel_rfl) (by kernel_rfl) (by kernel_rfl) (fun _ _ _ h => h) rfl rfl ⟨hB, hz5⟩ ?_
  go_frame
  refine y_skip 11 (some 28) rfl (by kernel_rfl) (by kernel_rfl) (by kernel_rfl) (fun _ _ _ h => h) rfl rfl ⟨hB, hz5⟩ ?_
  go_frame
  refine y_skip 12 (some 29) rfl (by kernel_rfl) (by kernel_rfl) (by kernel_rfl) (fun _ _ _ h => h) rfl rfl ⟨hB, hz5⟩ ?_
  go_frame
  refine y_skip 14 (some 31) rfl (by kernel_rfl) (by kernel_rfl) (by kernel_rfl) (fun _ _ _ h => h) rfl rfl ⟨hB, hz5⟩ ?_
  go_frame
  refine y_skip 16 (some 33) rfl (by kernel_rfl) (by kernel_rfl) (by kernel_rfl) (fun _ _ _ h => h) rfl rfl ⟨hB, hz5⟩ ?_
  go_frame
  refine y_pass 13 (some 30) (by kernel_rfl) rfl rfl rfl ⟨hB, hz5⟩ ?_
  go_frame
  refine y_skip 15 (some 32) rfl (by kernel_rfl) (by kernel_rfl) (by kernel_rfl) (fun _ _ _ h => h) rfl rfl ⟨hB, hz5⟩ ?_
  go_frame
  refine y_pass 17 (some 34) (by kernel_rfl) rfl rfl rfl ⟨hB, hz5⟩ ?_
  go_frame
  refine y_skip 18 (some 35) rfl (by kernel_rfl) (by kernel_rfl) (by kernel_rfl) (fun _ _ _ h => h) rfl rfl ⟨hB, hz5⟩ ?_
  go_frame
  refine y_yield 19 (some 36) (.bool true) rfl (by kernel_rfl) (by kernel_rfl) (by kernel_rfl) (fun _ _ _ h => h) rfl rfl ⟨hB, hz5⟩ (fun w' h' => exec_pick _ _ _ rfl true rfl (.bool true) rfl) ?_
  go_frame
  refine y_done (by kernel_rfl) ?_ _
  go_upto_region 4 with (fail)
  refine wp_region_lit ?_
  refine ls_ex (some 37) (.agg #[.int .i64 0, .int .i64 0, .int .i64 0, .int .i64 0, .slice none 0 0]) rfl rfl (exec_build_nil 28 rfl _ (by kernel_rfl)) ?_
  go_frame
  refine ls_op rfl (fun K' hK' => ?_)
  refine wp_store_all 28 _ _ rfl rfl Wz8.heap.size rfl #[.int .i64 0, .int .i64 0, .int .i64 0, .int .i64 0, .slice none 0 0] rfl _ _ hz18 5 (by kernel_rfl) rfl rfl (one5 _ _ _ _ _ _ _) (fun Wz32 pz33 => ?_)
  replace hB := pz33.below hB (by omega)
  replace hz5 := pz33.other hz5 (by omega)
  replace hz11 := pz33.other hz11 (by omega)
  replace hz18 : At Wz32 Wz8.heap.size (.cells #[.int .i64 0, .int .i64 0, .int .i64 0, .int .i64 0, .slice none 0 0] 28 (0, 0)) := pz33.at_
  refine hK' _ _ ?_
  clear hK' K' pz33
  refine ls_ex (some 9) (.int .i64 2) rfl rfl (exec_assign _ rfl (.int .i64 2) rfl) ?_
  go_frame
  refine wpList_nil ?_
  go_wp2_with fail
  refine bodyPost_ret (results_at2 rfl _ _ (Wz8.heap.size) _ _ _ rfl _ rfl hz18 Try.underlying28 rfl 5 (by kernel_rfl) rfl) rfl ?_
  exact ⟨.slice none 0 0, by rw [Hz.out, Hz.out, Hz.out, Hz.out, Hcode.out]; rfl, by rw [Hr.out]; exact Own.nil _ _, hB⟩
set_option maxHeartbeats 4000000 in
theorem implSplit_c (p n m k : Int) (b0 off0 : Nat) (cap : Nat) (qs : List (List Nat)) (i f : Int) (form : List Nat) (w : World) (hR : Rd w (some ⟨b0, off0, none⟩) qs) (hlen : qs.length ≤ 1048576) (_hfm : Bytes 9 form) (hs : schemeB p n m k qs = true) (hi : inI i qs.length = true) (hf : inI f 3 = false) :
    Calls Try.prog 18 #[.agg #[.int .i64 p, .int .i64 n, .int .i64 m, .int .i64 k, .slice (some ⟨b0, off0, none⟩) qs.length cap], .int .i64 i, .int .i64 f, .agg (u8s form)] w (ResS w (spZ p n m k qs i f form p) (spZ p n m k qs i f form n) (spZ p n m k qs i f form m) (spZ p n m k qs i f form k) (spR p n m k qs i f form) (spCode p n m k qs i f form)) := by
  have HIs := Lib.hid (fun w hr => implIsScheme_c p n m k (some ⟨b0, off0, none⟩) cap qs w hr hlen)
  have hB := Below.refl w.heap.size w
  have Hs := Lib.hid hs
  have Hi := Lib.hid hi
  have Hf := Lib.hid hf
  have Hcode : Hid (spCode p n m k qs i f form = 2) := Lib.hid (by simp [spCode, hs, hi, hf])
  have Hz : Hid (∀ x, spZ p n m k qs i f form x = 0) := Lib.hid (fun x => by simp [spZ, Hcode.out])
  have Hr : Hid (spR p n m k qs i f form = []) := Lib.hid (by simp [spR, Hcode.out])
  clear hs hi hf
  go_enter Try.func18, Try.ntmps18
  go_upto_region 0 with (fail)
  refine wp_region_lit ?_
  refine ls_op rfl (fun K' hK' => ?_)
  have lz1 := hB.size
  refine wp_new (some 4) rfl (exec_box 28 _ rfl (#[.int .i64 p, .int .i64 n, .int .i64 m, .int .i64 k, .slice (some ⟨b0, off0, none⟩) qs.length cap]) rfl) (fun Wz2 nnz3 => ?_)
  have bz4 := nnz3.below (Below.refl _ _) (Nat.le_refl _)
  replace hB := below_after hB bz4
  have hz5 : At Wz2 w.heap.size (.cells #[.int .i64 p, .int .i64 n, .int .i64 m, .int .i64 k, .slice (some ⟨b0, off0, none⟩) qs.length cap] 28 (0, 0)) := nnz3.at_
  refine hK' _ _ ?_
  clear hK' K' nnz3 bz4
  go_frame
  refine ls_op rfl (fun K' hK' => ?_)
  have lz6 := hB.size
  have lz7 := hz5.lt
  refine wp_new (some 7) rfl (exec_box 39 _ rfl (u8s (form)) rfl) (fun Wz8 nnz9 => ?_)
  have bz10 := nnz9.below (Below.refl _ _) (Nat.le_refl _)
  replace hB := below_after hB bz10
  replace hz5 := hz5.after bz10
  have hz11 : At Wz8 Wz2.heap.size (.cells (u8s (form)) 39 (0, 0)) := nnz9.at_
  refine hK' _ _ ?_
  clear hK' K' nnz9 bz10
  go_frame
  refine ls_op rfl (fun K' hK' => ?_)
  have lz12 := hB.size
  have lz13 := hz5.lt
  have lz14 := hz11.lt
  refine wp_new (some 8) rfl (al_impl_Scheme rfl) (fun Wz15 nnz16 => ?_)
  have bz17 := nnz16.below (Below.refl _ _) (Nat.le_refl _)
  replace hB := below_after hB bz17
  replace hz5 := hz5.after bz17
  replace hz11 := hz11.after bz17
  have hz18 : At Wz15 Wz8.heap.size (.cells #[.int .i64 0, .int .i64 0, .int .i64 0, .int .i64 0, .slice none 0 0] 28 (0, 0)) := nnz16.at_
  refine hK' _ _ ?_
  clear hK' K' nnz16 bz17
  go_frame
  refine ls_ex (some 9) (.int .i64 0) rfl rfl (exec_assign _ rfl (.int .i64 0) rfl) ?_
  go_frame
  refine wpList_nil ?_
  go_upto_region 1 with (fail)
  refine wp_region_lit ?_
  refine ls_ex (some 13) (.agg #[.int .i64 p, .int .i64 n, .int .i64 m, .int .i64 k, .slice (some ⟨b0, off0, none⟩) qs.length cap]) rfl rfl (exec_load_all 28 _ rfl w.heap.size rfl _ _ _ hz5 Try.underlying28 rfl 5 (by kernel_rfl) rfl) ?_
  go_frame
  refine ls_op rfl (fun K' hK' => ?_)
  have lz21 := hB.size
  have lz22 := hz5.lt
  have lz23 := hz11.lt
  have lz24 := hz18.lt
  refine wp_call1 (some 14) rfl 25 _ _ rfl (fun args w => by kernel_rfl) _ rfl _ (HIs.out _ (hR.keep hB)) (fun e Wz19 h => ?_)
  obtain ⟨rfl, bz20⟩ := h
  replace hB := below_after hB bz20
  replace hz5 := hz5.after bz20
  replace hz11 := hz11.after bz20
  replace hz18 := hz18.after bz20
  rw [Hs.out]
  clear bz20
  refine ⟨_, rfl, ?_⟩
  refine hK' _ _ ?_
  clear hK' K'
  go_frame
  refine ls_ex (some 15) (.bool false) rfl rfl (exec_not _ _ rfl true rfl) ?_
  go_frame
  refine wpList_nil ?_
  go_upto_region 3 with (fail)
  refine wp_region_y (zs := []) (S := fun w' => Below w.heap.size w w' ∧ At w' w.heap.size (.cells #[.int .i64 p, .int .i64 n, .int .i64 m, .int .i64 k, .slice (some ⟨b0, off0, none⟩) qs.length cap] 28 (0, 0))) (S2 := fun w' => True) (by kernel_rfl) ?_
  change wpAnyY _ _ _ _ _ _ _ _ _ _ (World.drew _)
  generalize hwdz25 : World.drew _ = wdz25
  replace hB : Below w.heap.size w wdz25 := by rw [← hwdz25]; exact hB.drew
  replace hz5 : At wdz25 w.heap.size (.cells #[.int .i64 p, .int .i64 n, .int .i64 m, .int .i64 k, .slice (some ⟨b0, off0, none⟩) qs.length cap] 28 (0, 0)) := by rw [← hwdz25]; exact hz5
  replace hz11 : At wdz25 Wz2.heap.size (.cells (u8s (form)) 39 (0, 0)) := by rw [← hwdz25]; exact hz11
  replace hz18 : At wdz25 Wz8.heap.size (.cells #[.int .i64 0, .int .i64 0, .int .i64 0, .int .i64 0, .slice none 0 0] 28 (0, 0)) := by rw [← hwdz25]; exact hz18
  clear hwdz25
  refine y_yield 0 (some 17) (.agg #[.int .i64 p, .int .i64 n, .int .i64 m, .int .i64 k, .slice (some ⟨b0, off0, none⟩) qs.length cap]) rfl (by kernel_rfl) (by kernel_rfl) (by kernel_rfl) (fun _ _ _ h => h) rfl rfl ⟨hB, hz5⟩ (fun w' h' => exec_load_all 28 _ rfl w.heap.size rfl _ _ _ h'.2 Try.underlying28 rfl 5 (by kernel_rfl) rfl) ?_
  go_frame
  refine y_yield 1 (some 18) (.int .i64 i) rfl (by kernel_rfl) (by kernel_rfl) (by kernel_rfl) (fun _ _ _ h => h) rfl rfl ⟨hB, hz5⟩ (fun w' h' => exec_move _ rfl (.int .i64 i) rfl) ?_
  go_frame
  refine y_oper 2 (by kernel_rfl) rfl rfl (fun K' hK' => ?_)
  have lz28 := hB.size
  have lz29 := hz5.lt
  have lz30 := hz11.lt
  have lz31 := hz18.lt
  refine wp_call2 (some 19) rfl 36 _ _ _ rfl (fun args w => by kernel_rfl) _ _ rfl rfl _ (isProductIndex_c p n m k _ cap qs.length i _) (fun e Wz26 h => ?_)
  obtain ⟨rfl, bz27⟩ := h
  replace hB := below_after hB bz27
  replace hz5 := hz5.after bz27
  replace hz11 := hz11.after bz27
  replace hz18 := hz18.after bz27
  rw [Hi.out]
  clear bz27
  refine ⟨_, rfl, ?_⟩
  refine hK' _ _ ⟨hB, hz5⟩ (fun _ => trivial) ?_
  clear hK' K'
  go_frame
  refine y_yield 3 (some 20) (.bool false) rfl (by kernel_rfl) (by kernel_rfl) (by kernel_rfl) (fun _ _ _ h => h) rfl rfl ⟨hB, hz5⟩ (fun w' h' => exec_not _ _ rfl true rfl) ?_
  go_frame
  refine y_yield 4 (some 21) (.bool false) rfl (by kernel_rfl) (by kernel_rfl) (by kernel_rfl) (fun _ _ _ h => h) rfl rfl ⟨hB, hz5⟩ (fun w' h' => exec_move _ rfl (.bool false) rfl) ?_
  go_frame
  refine y_yield 5 (some 22) (.int .i64 f) rfl (by kernel_rfl) (by kernel_rfl) (by kernel_rfl) (fun _ _ _ h => h) rfl rfl ⟨hB, hz5⟩ (fun w' h' => exec_move _ rfl (.int .i64 f) rfl) ?_
  go_frame
  refine y_oper 6 (by kernel_rfl) rfl rfl (fun K' hK' => ?_)
  have lz34 := hB.size
  have lz35 := hz5.lt
  have lz36 := hz11.lt
  have lz37 := hz18.lt
  refine wp_call2 (some 23) rfl 47 _ _ _ rfl (fun args w => by kernel_rfl) _ _ rfl rfl _ (isIdx_c f 3 _) (fun e Wz32 h => ?_)
  obtain ⟨rfl, rfl⟩ := h
  rw [Hf.out]
  refine ⟨_, rfl, ?_⟩
  refine hK' _ _ ⟨hB, hz5⟩ (fun _ => trivial) ?_
  clear hK' K'
  go_frame
  refine y_yield 7 (some 24) (.bool true) rfl (by kernel_rfl) (by kernel_rfl) (by kernel_rfl) (fun _ _ _ h => h) rfl rfl ⟨hB, hz5⟩ (fun w' h' => exec_not _ _ rfl false rfl) ?_
  go_frame
  refine y_yield 8 (some 25) (.bool true) rfl (by kernel_rfl) (by kernel_rfl) (by kernel_rfl) (fun _ _ _ h => h) rfl rfl ⟨hB, hz5⟩ (fun w' h' => exec_pick _ _ _ rfl false rfl (.bool true) rfl) ?_
  go_frame
  refine y_yield 9 (some 26) (.bool true) rfl (by kernel_rfl) (by kernel_rfl) (by kernel_rfl) (fun _ _ _ h => h) rfl rfl ⟨hB, hz5⟩ (fun w' h' => exec_move _ rfl (.bool true) rfl) ?_
  go_frame
  refine y_skip 10 (some 27) rfl (by kernel_rfl) (by kernel_rfl) (by kernel_rfl) (fun _ _ _ h => h) rfl rfl ⟨hB, hz5⟩ ?_
  go_frame
  refine y_skip 11 (some 28) rfl (by kernel_rfl) (by kernel_rfl) (by kernel_rfl) (fun _ _ _ h => h) rfl rfl ⟨hB, hz5⟩ ?_
  go_frame
  refine y_skip 12 (some 29) rfl (by kernel_rfl) (by kernel_rfl) (by kernel_rfl) (fun _ _ _ h => h) rfl rfl ⟨hB, hz5⟩ ?_
  go_frame
  refine y_skip 14 (some 31) rfl (by kernel_rfl) (by kernel_rfl) (by kernel_rfl) (fun _ _ _ h => h) rfl rfl ⟨hB, hz5⟩ ?_
  go_frame
  refine y_skip 16 (some 33) rfl (by kernel_rfl) (by kernel_rfl) (by kernel_rfl) (fun _ _ _ h => h) rfl rfl ⟨hB, hz5⟩ ?_
  go_frame
  refine y_pass 13 (some 30) (by kernel_rfl) rfl rfl rfl ⟨hB, hz5⟩ ?_
  go_frame
  refine y_skip 15 (some 32) rfl (by kernel_rfl) (by kernel_rfl) (by kernel_rfl) (fun _ _ _ h => h) rfl rfl ⟨hB, hz5⟩ ?_
  go_frame
  refine y_pass 17 (some 34) (by kernel_rfl) rfl rfl rfl ⟨hB, hz5⟩ ?_
  go_frame
  refine y_skip 18 (some 35) rfl (by kernel_rfl) (by kernel_rfl) (by kernel_rfl) (fun _ _ _ h => h) rfl rfl ⟨hB, hz5⟩ ?_
  go_frame
  refine y_yield 19 (some 36) (.bool true) rfl (by kernel_rfl) (by kernel_rfl) (by kernel_rfl) (fun _ _ _ h => h) rfl rfl ⟨hB, hz5⟩ (fun w' h' => exec_pick _ _ _ rfl true rfl (.bool true) rfl) ?_
  go_frame
  refine y_done (by kernel_rfl) ?_ _
  go_upto_region 4 with (fail)
  refine wp_region_lit ?_
  refine ls_ex (some 37) (.agg #[.int .i64 0, .int .i64 0, .int .i64 0, .int .i64 0, .slice none 0 0]) rfl rfl (exec_build_nil 28 rfl _ (by kernel_rfl)) ?_
  go_frame
  refine ls_op rfl (fun K' hK' => ?_)
  refine wp_store_all 28 _ _ rfl rfl Wz8.heap.size rfl #[.int .i64 0, .int .i64 0, .int .i64 0, .int .i64 0, .slice none 0 0] rfl _ _ hz18 5 (by kernel_rfl) rfl rfl (one5 _ _ _ _ _ _ _) (fun Wz38 pz39 => ?_)
  replace hB := pz39.below hB (by omega)
  replace hz5 := pz39.other hz5 (by omega)
  replace hz11 := pz39.other hz11 (by omega)
  replace hz18 : At Wz38 Wz8.heap.size (.cells #[.int .i64 0, .int .i64 0, .int .i64 0, .int .i64 0, .slice none 0 0] 28 (0, 0)) := pz39.at_
  refine hK' _ _ ?_
  clear hK' K' pz39
  refine ls_ex (some 9) (.int .i64 2) rfl rfl (exec_assign _ rfl (.int .i64 2) rfl) ?_
  go_frame
  refine wpList_nil ?_
  go_wp2_with fail
  refine bodyPost_ret (results_at2 rfl _ _ (Wz8.heap.size) _ _ _ rfl _ rfl hz18 Try.underlying28 rfl 5 (by kernel_rfl) rfl) rfl ?_
  exact ⟨.slice none 0 0, by rw [Hz.out, Hz.out, Hz.out, Hz.out, Hcode.out]; rfl, by rw [Hr.out]; exact Own.nil _ _, hB⟩
end Go.Proofs.Ytbgoopmmdbhogaa
