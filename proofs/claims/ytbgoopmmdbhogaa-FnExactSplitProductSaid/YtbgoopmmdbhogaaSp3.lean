/-
  spec.SplitProduct. (Made by mksp3.py.)
-/
import Derived.Test.YtbgoopmmdbhogaaSx
import Derived.Test.YtbgoopmmdbhogaaSp0
import Derived.Test.YtbgoopmmdbhogaaAdd1
import Derived.Test.YtbgoopmmdbhogaaTold
import Derived.Test.YtbgoopmmdbhogaaIs
import Derived.Test.YtbgoopmmdbhogaaOwnSet
namespace Go.Proofs.Ytbgoopmmdbhogaa
open Go.RowKit
set_option maxRecDepth 100000
theorem als_impl_Product {o : Oper} {a : Act} {w : World} (ho : o.op = .alloc 58) : (execOp a.eval o).run Try.prog w = .ok (.value (.pointer (some ⟨w.heap.size, 0, none⟩))) (w.alloc (.cells (u8s (List.replicate 27 0)) 58 (0, 0))) := by
  unfold execOp
  rw [ho]
  kernel_rfl
theorem als_impl_Scheme {o : Oper} {a : Act} {w : World} (ho : o.op = .alloc 28) : (execOp a.eval o).run Try.prog w = .ok (.value (.pointer (some ⟨w.heap.size, 0, none⟩))) (w.alloc (.cells #[.int .i64 0, .int .i64 0, .int .i64 0, .int .i64 0, .slice none 0 0] 28 (0, 0))) := by
  unfold execOp
  rw [ho]
  kernel_rfl
theorem fB_lt {p n : Int} {f : List Nat} (h : formB p f n = true) {i : Nat} (hi : i < 9) : ((f[i]?.getD 0 : Nat) : Int) < p := by
  unfold formB at h
  rw [List.all_eq_true] at h
  have := h i (List.mem_range.2 hi)
  simp only [okAt, Bool.and_eq_true, decide_eq_true_eq] at this
  exact this.1
theorem prodB_nz {p n m k : Int} {q : List Nat} (h : prodB p n m k q = true) : nzB q = true := by
  simp only [prodB, Bool.and_eq_true] at h
  unfold nzB
  simp [h.1.1.2, h.1.2, h.2]
theorem prodB_open {p n m k : Int} {A B C : List Nat} (hA : A.length = 9) (hB : B.length = 9) (hC : C.length = 9) (h : prodB p n m k (cat3 A B C) = true) :
    (formB p A (n * m) = true ∧ formB p B (m * k) = true ∧ formB p C (n * k) = true) ∧ zeroB A = false ∧ zeroB B = false ∧ zeroB C = false := by
  simp only [prodB, Bool.and_eq_true, Bool.not_eq_true'] at h
  rw [segm_a hA, segm_b hA hB, segm_c hA hB hC] at h
  exact ⟨⟨h.1.1.1.1.1, h.1.1.1.1.2, h.1.1.1.2⟩, h.1.1.2, h.1.2, h.2⟩
theorem adF_nz {p N : Int} (f g : List Nat) (hf : Bytes 9 f) (hg : Bytes 9 g) (hp : primeB p = true) (h1 : formB p f N = true) (h2 : formB p g N = true) (hne : ¬ g = f) : zeroB (adF p (-1) f g) = false := by
  rw [Bool.eq_false_iff]
  intro h0
  apply hne
  have h5 := primeB_5 hp
  apply List.ext_getElem (by rw [hf.len, hg.len])
  intro i hi1 hi2
  have hi : i < 9 := by rw [← hg.len]; exact hi1
  have a1 := fB_lt h1 hi
  have a2 := fB_lt h2 hi
  have hz : (adF p (-1) f g)[i]?.getD 0 = 0 := by
    unfold zeroB at h0
    rw [beq_iff_eq] at h0
    rw [h0, List.getElem?_replicate]
    split <;> rfl
  have e1 : f[i]?.getD 0 = f[i] := by simp [hi2]
  have e2 : g[i]?.getD 0 = g[i] := by simp [hi1]
  rw [adF_get p (-1) f g hi, e1, e2] at hz
  have hz3 : ((ad1 p (-1) f[i] g[i] : Nat) : Int) = 0 := by omega
  rw [ad1_cast (-1) f[i] g[i] h5.1] at hz3
  rw [e1] at a1
  rw [e2] at a2
  have hm : 0 ≤ ((f[i] : Int) + -1 * (g[i] : Int)) % p := Int.emod_nonneg _ (by omega)
  have hd := Int.dvd_of_emod_eq_zero hz3
  obtain ⟨c, hc⟩ := hd
  have hc0 : c = 0 := by
    rcases Int.lt_trichotomy c 0 with h | h | h
    · have : p * c ≤ p * (-1) := Int.mul_le_mul_of_nonneg_left (by omega) (by omega)
      omega
    · exact h
    · have : p * 1 ≤ p * c := Int.mul_le_mul_of_nonneg_left (by omega) (by omega)
      omega
  subst hc0
  omega
set_option maxHeartbeats 4000000 in
theorem specSplit_a (p n m k : Int) (b0 off0 : Nat) (cap : Nat) (qs : List (List Nat)) (i f : Int) (form : List Nat) (w : World) (hR : Rd w (some ⟨b0, off0, none⟩) qs) (hlen : qs.length ≤ 1048576) (_hfm : Bytes 9 form) (hs : schemeB p n m k qs = false) :
    Calls Try.prog 16 #[.agg #[.int .i64 p, .int .i64 n, .int .i64 m, .int .i64 k, .slice (some ⟨b0, off0, none⟩) qs.length cap], .int .i64 i, .int .i64 f, .agg (u8s form)] w (ResS w (spZ p n m k qs i f form p) (spZ p n m k qs i f form n) (spZ p n m k qs i f form m) (spZ p n m k qs i f form k) (spR p n m k qs i f form) (spCode p n m k qs i f form)) := by
  have HIs := Lib.hid (fun w hr => l01Is_c p n m k (some ⟨b0, off0, none⟩) cap qs w hr hlen)
  have hB := Below.refl w.heap.size w
  have Hs := Lib.hid hs
  have Hcode : Hid (spCode p n m k qs i f form = 1) := Lib.hid (by simp [spCode, hs])
  have Hz : Hid (∀ x, spZ p n m k qs i f form x = 0) := Lib.hid (fun x => by simp [spZ, Hcode.out])
  have Hr : Hid (spR p n m k qs i f form = []) := Lib.hid (by simp [spR, Hcode.out])
  clear hs
  go_enter Try.func16, Try.ntmps16
  go_upto_region 0 with (fail)
  refine wp_region_lit ?_
  refine ls_op rfl (fun K' hK' => ?_)
  have lz1 := hB.size
  refine wp_new (some 4) rfl (exec_box 28 _ rfl (#[.int .i64 p, .int .i64 n, .int .i64 m, .int .i64 k, .slice (some ⟨b0, off0, none⟩) qs.length cap]) rfl) (fun Wz2 nnz3 => ?_)
  have bz4 := nnz3.below (Below.refl _ _) (Nat.le_refl _)
  replace hB := below_after hB bz4
  have hz5 : At Wz2 w.heap.size (.cells #[.int .i64 p, .int .i64 n, .int .i64 m, .int .i64 k, .slice (some ⟨b0, off0, none⟩) qs.length cap] 28 (0, 0)) := nnz3.at_
  refine hK' _ _ ?_
  clear hK' K' nnz3 bz4
  go_frame
  refine ls_op rfl (fun K' hK' => ?_)
  have lz6 := hB.size
  have lz7 := hz5.lt
  refine wp_new (some 7) rfl (exec_box 39 _ rfl (u8s (form)) rfl) (fun Wz8 nnz9 => ?_)
  have bz10 := nnz9.below (Below.refl _ _) (Nat.le_refl _)
  replace hB := below_after hB bz10
  replace hz5 := hz5.after bz10
  have hz11 : At Wz8 Wz2.heap.size (.cells (u8s (form)) 39 (0, 0)) := nnz9.at_
  refine hK' _ _ ?_
  clear hK' K' nnz9 bz10
  go_frame
  refine ls_op rfl (fun K' hK' => ?_)
  have lz12 := hB.size
  have lz13 := hz5.lt
  have lz14 := hz11.lt
  refine wp_new (some 8) rfl (als_impl_Scheme rfl) (fun Wz15 nnz16 => ?_)
  have bz17 := nnz16.below (Below.refl _ _) (Nat.le_refl _)
  replace hB := below_after hB bz17
  replace hz5 := hz5.after bz17
  replace hz11 := hz11.after bz17
  have hz18 : At Wz15 Wz8.heap.size (.cells #[.int .i64 0, .int .i64 0, .int .i64 0, .int .i64 0, .slice none 0 0] 28 (0, 0)) := nnz16.at_
  refine hK' _ _ ?_
  clear hK' K' nnz16 bz17
  go_frame
  refine ls_ex (some 9) (.int .i64 0) rfl rfl (exec_assign _ rfl (.int .i64 0) rfl) ?_
  go_frame
  refine wpList_nil ?_
  go_upto_region 1 with (fail)
  refine wp_region_lit ?_
  refine ls_ex (some 13) (.agg #[.int .i64 p, .int .i64 n, .int .i64 m, .int .i64 k, .slice (some ⟨b0, off0, none⟩) qs.length cap]) rfl rfl (exec_load_all 28 _ rfl w.heap.size rfl _ _ _ hz5 Try.underlying28 rfl 5 (by kernel_rfl) rfl) ?_
  go_frame
  refine ls_op rfl (fun K' hK' => ?_)
  have lz21 := hB.size
  have lz22 := hz5.lt
  have lz23 := hz11.lt
  have lz24 := hz18.lt
  refine wp_call1 (some 14) rfl 22 _ _ rfl (fun args w => by kernel_rfl) _ rfl _ (HIs.out _ (hR.keep hB)) (fun e Wz19 h => ?_)
  obtain ⟨rfl, bz20⟩ := h
  replace hB := below_after hB bz20
  replace hz5 := hz5.after bz20
  replace hz11 := hz11.after bz20
  replace hz18 := hz18.after bz20
  rw [Hs.out]
  clear bz20
  refine ⟨_, rfl, ?_⟩
  refine hK' _ _ ?_
  clear hK' K'
  go_frame
  refine ls_ex (some 15) (.bool true) rfl rfl (exec_not _ _ rfl false rfl) ?_
  go_frame
  refine ls_ex (some 12) (.bool true) rfl rfl (exec_assign _ rfl (.bool true) rfl) ?_
  go_frame
  refine wpList_nil ?_
  go_upto_region 2 with (fail)
  refine wp_region_lit ?_
  refine ls_ex (some 16) (.agg #[.int .i64 0, .int .i64 0, .int .i64 0, .int .i64 0, .slice none 0 0]) rfl rfl (exec_build_nil 28 rfl _ (by kernel_rfl)) ?_
  go_frame
  refine ls_op rfl (fun K' hK' => ?_)
  refine wp_store_all 28 _ _ rfl rfl Wz8.heap.size rfl #[.int .i64 0, .int .i64 0, .int .i64 0, .int .i64 0, .slice none 0 0] rfl _ _ hz18 5 (by kernel_rfl) rfl rfl (one5 _ _ _ _ _ _ _) (fun Wz25 pz26 => ?_)
  replace hB := pz26.below hB (by omega)
  replace hz5 := pz26.other hz5 (by omega)
  replace hz11 := pz26.other hz11 (by omega)
  replace hz18 : At Wz25 Wz8.heap.size (.cells #[.int .i64 0, .int .i64 0, .int .i64 0, .int .i64 0, .slice none 0 0] 28 (0, 0)) := pz26.at_
  refine hK' _ _ ?_
  clear hK' K' pz26
  refine ls_ex (some 9) (.int .i64 1) rfl rfl (exec_assign _ rfl (.int .i64 1) rfl) ?_
  go_frame
  refine wpList_nil ?_
  go_wp2_with fail
  refine bodyPost_ret (results_at2 rfl _ _ (Wz8.heap.size) _ _ _ rfl _ rfl hz18 Try.underlying28 rfl 5 (by kernel_rfl) rfl) rfl ?_
  exact ⟨.slice none 0 0, by rw [Hz.out, Hz.out, Hz.out, Hz.out, Hcode.out]; rfl, by rw [Hr.out]; exact Own.nil _ _, hB⟩
set_option maxHeartbeats 4000000 in
theorem specSplit_b (p n m k : Int) (b0 off0 : Nat) (cap : Nat) (qs : List (List Nat)) (i f : Int) (form : List Nat) (w : World) (hR : Rd w (some ⟨b0, off0, none⟩) qs) (hlen : qs.length ≤ 1048576) (_hfm : Bytes 9 form) (hs : schemeB p n m k qs = true) (hi : inI i qs.length = false) :
    Calls Try.prog 16 #[.agg #[.int .i64 p, .int .i64 n, .int .i64 m, .int .i64 k, .slice (some ⟨b0, off0, none⟩) qs.length cap], .int .i64 i, .int .i64 f, .agg (u8s form)] w (ResS w (spZ p n m k qs i f form p) (spZ p n m k qs i f form n) (spZ p n m k qs i f form m) (spZ p n m k qs i f form k) (spR p n m k qs i f form) (spCode p n m k qs i f form)) := by
  have HIs := Lib.hid (fun w hr => l01Is_c p n m k (some ⟨b0, off0, none⟩) cap qs w hr hlen)
  have hB := Below.refl w.heap.size w
  have Hs := Lib.hid hs
  have h31 := schemeB_len hs
  have Hxs : Hid (([(i : Int)].all fun x => inI x qs.length) = false) := Lib.hid (by simp [hi])
  have Hcode : Hid (spCode p n m k qs i f form = 2) := Lib.hid (by simp [spCode, hs, hi])
  have Hz : Hid (∀ x, spZ p n m k qs i f form x = 0) := Lib.hid (fun x => by simp [spZ, Hcode.out])
  have Hr : Hid (spR p n m k qs i f form = []) := Lib.hid (by simp [spR, Hcode.out])
  clear hs hi
  go_enter Try.func16, Try.ntmps16
  go_upto_region 0 with (fail)
  refine wp_region_lit ?_
  refine ls_op rfl (fun K' hK' => ?_)
  have lz1 := hB.size
  refine wp_new (some 4) rfl (exec_box 28 _ rfl (#[.int .i64 p, .int .i64 n, .int .i64 m, .int .i64 k, .slice (some ⟨b0, off0, none⟩) qs.length cap]) rfl) (fun Wz2 nnz3 => ?_)
  have bz4 := nnz3.below (Below.refl _ _) (Nat.le_refl _)
  replace hB := below_after hB bz4
  have hz5 : At Wz2 w.heap.size (.cells #[.int .i64 p, .int .i64 n, .int .i64 m, .int .i64 k, .slice (some ⟨b0, off0, none⟩) qs.length cap] 28 (0, 0)) := nnz3.at_
  refine hK' _ _ ?_
  clear hK' K' nnz3 bz4
  go_frame
  refine ls_op rfl (fun K' hK' => ?_)
  have lz6 := hB.size
  have lz7 := hz5.lt
  refine wp_new (some 7) rfl (exec_box 39 _ rfl (u8s (form)) rfl) (fun Wz8 nnz9 => ?_)
  have bz10 := nnz9.below (Below.refl _ _) (Nat.le_refl _)
  replace hB := below_after hB bz10
  replace hz5 := hz5.after bz10
  have hz11 : At Wz8 Wz2.heap.size (.cells (u8s (form)) 39 (0, 0)) := nnz9.at_
  refine hK' _ _ ?_
  clear hK' K' nnz9 bz10
  go_frame
  refine ls_op rfl (fun K' hK' => ?_)
  have lz12 := hB.size
  have lz13 := hz5.lt
  have lz14 := hz11.lt
  refine wp_new (some 8) rfl (als_impl_Scheme rfl) (fun Wz15 nnz16 => ?_)
  have bz17 := nnz16.below (Below.refl _ _) (Nat.le_refl _)
  replace hB := below_after hB bz17
  replace hz5 := hz5.after bz17
  replace hz11 := hz11.after bz17
  have hz18 : At Wz15 Wz8.heap.size (.cells #[.int .i64 0, .int .i64 0, .int .i64 0, .int .i64 0, .slice none 0 0] 28 (0, 0)) := nnz16.at_
  refine hK' _ _ ?_
  clear hK' K' nnz16 bz17
  go_frame
  refine ls_ex (some 9) (.int .i64 0) rfl rfl (exec_assign _ rfl (.int .i64 0) rfl) ?_
  go_frame
  refine wpList_nil ?_
  go_upto_region 1 with (fail)
  refine wp_region_lit ?_
  refine ls_ex (some 13) (.agg #[.int .i64 p, .int .i64 n, .int .i64 m, .int .i64 k, .slice (some ⟨b0, off0, none⟩) qs.length cap]) rfl rfl (exec_load_all 28 _ rfl w.heap.size rfl _ _ _ hz5 Try.underlying28 rfl 5 (by kernel_rfl) rfl) ?_
  go_frame
  refine ls_op rfl (fun K' hK' => ?_)
  have lz21 := hB.size
  have lz22 := hz5.lt
  have lz23 := hz11.lt
  have lz24 := hz18.lt
  refine wp_call1 (some 14) rfl 22 _ _ rfl (fun args w => by kernel_rfl) _ rfl _ (HIs.out _ (hR.keep hB)) (fun e Wz19 h => ?_)
  obtain ⟨rfl, bz20⟩ := h
  replace hB := below_after hB bz20
  replace hz5 := hz5.after bz20
  replace hz11 := hz11.after bz20
  replace hz18 := hz18.after bz20
  rw [Hs.out]
  clear bz20
  refine ⟨_, rfl, ?_⟩
  refine hK' _ _ ?_
  clear hK' K'
  go_frame
  refine ls_ex (some 15) (.bool false) rfl rfl (exec_not _ _ rfl true rfl) ?_
  go_frame
  refine ls_ex (some 12) (.bool false) rfl rfl (exec_assign _ rfl (.bool false) rfl) ?_
  go_frame
  refine wpList_nil ?_
  go_upto_region 3 with (fail)
  refine wp_region_lit ?_
  refine ls_ex (some 18) (.agg #[.int .i64 p, .int .i64 n, .int .i64 m, .int .i64 k, .slice (some ⟨b0, off0, none⟩) qs.length cap]) rfl rfl (exec_load_all 28 _ rfl w.heap.size rfl _ _ _ hz5 Try.underlying28 rfl 5 (by kernel_rfl) rfl) ?_
  go_frame
  refine ls_ex (some 19) (.int .i64 i) rfl rfl (exec_move _ rfl (.int .i64 i) rfl) ?_
  go_frame
  refine ls_op rfl (fun K' hK' => ?_)
  have lz25 := hB.size
  have lz26 := hz5.lt
  have lz27 := hz11.lt
  have lz28 := hz18.lt
  refine wp_new (some 20) rfl (exec_bsi1 _ rfl i rfl) (fun Wz29 nnz30 => ?_)
  have bz31 := nnz30.below (Below.refl _ _) (Nat.le_refl _)
  replace hB := below_after hB bz31
  replace hz5 := hz5.after bz31
  replace hz11 := hz11.after bz31
  replace hz18 := hz18.after bz31
  have hz32 : At Wz29 Wz19.heap.size (.cells #[.int .i64 i] 2 (0, 0)) := nnz30.at_
  refine hK' _ _ ?_
  clear hK' K' nnz30 bz31
  go_frame
  refine ls_op rfl (fun K' hK' => ?_)
  have lz35 := hB.size
  have lz36 := hz5.lt
  have lz37 := hz11.lt
  have lz38 := hz18.lt
  have lz39 := hz32.lt
  refine wp_call2 (some 21) rfl 32 _ _ _ rfl (fun args w => by kernel_rfl) _ _ rfl rfl _ (l03Numbers_c p n m k _ cap qs.length (Wz19.heap.size) 1 [(i : Int)] _ (by omega) (by simp) (fun t ht => by match t, ht with | 0, _ => exact hz32.at_ 0)) (fun e Wz33 h => ?_)
  obtain ⟨rfl, bz34⟩ := h
  replace hB := below_after hB bz34
  replace hz5 := hz5.after bz34
  replace hz11 := hz11.after bz34
  replace hz18 := hz18.after bz34
  replace hz32 := hz32.after bz34
  rw [Hxs.out]
  clear bz34
  refine ⟨_, rfl, ?_⟩
  refine hK' _ _ ?_
  clear hK' K'
  go_frame
  refine ls_ex (some 22) (.bool true) rfl rfl (exec_not _ _ rfl false rfl) ?_
  go_frame
  refine ls_ex (some 23) (.bool true) rfl rfl (exec_move _ rfl (.bool true) rfl) ?_
  go_frame
  refine ls_skip_g (some 24) rfl rfl ?_
  go_frame
  refine ls_skip_g (some 25) rfl rfl ?_
  go_frame
  refine ls_skip_g (some 26) rfl rfl ?_
  go_frame
  refine ls_ex (some 27) (.bool true) rfl rfl (exec_pick _ _ _ rfl true rfl (.bool true) rfl) ?_
  go_frame
  refine ls_ex (some 17) (.bool true) rfl rfl (exec_assign _ rfl (.bool true) rfl) ?_
  go_frame
  refine wpList_nil ?_
  go_upto_region 4 with (fail)
  refine wp_region_lit ?_
  refine ls_ex (some 28) (.agg #[.int .i64 0, .int .i64 0, .int .i64 0, .int .i64 0, .slice none 0 0]) rfl rfl (exec_build_nil 28 rfl _ (by kernel_rfl)) ?_
  go_frame
  refine ls_op rfl (fun K' hK' => ?_)
  refine wp_store_all 28 _ _ rfl rfl Wz8.heap.size rfl #[.int .i64 0, .int .i64 0, .int .i64 0, .int .i64 0, .slice none 0 0] rfl _ _ hz18 5 (by kernel_rfl) rfl rfl (one5 _ _ _ _ _ _ _) (fun Wz40 pz41 => ?_)
  replace hB := pz41.below hB (by omega)
  replace hz5 := pz41.other hz5 (by omega)
  replace hz11 := pz41.other hz11 (by omega)
  replace hz32 := pz41.other hz32 (by omega)
  replace hz18 : At Wz40 Wz8.heap.size (.cells #[.int .i64 0, .int .i64 0, .int .i64 0, .int .i64 0, .slice none 0 0] 28 (0, 0)) := pz41.at_
  refine hK' _ _ ?_
  clear hK' K' pz41
  refine ls_ex (some 9) (.int .i64 2) rfl rfl (exec_assign _ rfl (.int .i64 2) rfl) ?_
  go_frame
  refine wpList_nil ?_
  go_wp2_with fail
  refine bodyPost_ret (results_at2 rfl _ _ (Wz8.heap.size) _ _ _ rfl _ rfl hz18 Try.underlying28 rfl 5 (by kernel_rfl) rfl) rfl ?_
  exact ⟨.slice none 0 0, by rw [Hz.out, Hz.out, Hz.out, Hz.out, Hcode.out]; rfl, by rw [Hr.out]; exact Own.nil _ _, hB⟩
set_option maxHeartbeats 4000000 in
theorem specSplit_c (p n m k : Int) (b0 off0 : Nat) (cap : Nat) (qs : List (List Nat)) (i f : Int) (form : List Nat) (w : World) (hR : Rd w (some ⟨b0, off0, none⟩) qs) (hlen : qs.length ≤ 1048576) (_hfm : Bytes 9 form) (hs : schemeB p n m k qs = true) (hi : inI i qs.length = true) (hf : inI f 3 = false) :
    Calls Try.prog 16 #[.agg #[.int .i64 p, .int .i64 n, .int .i64 m, .int .i64 k, .slice (some ⟨b0, off0, none⟩) qs.length cap], .int .i64 i, .int .i64 f, .agg (u8s form)] w (ResS w (spZ p n m k qs i f form p) (spZ p n m k qs i f form n) (spZ p n m k qs i f form m) (spZ p n m k qs i f form k) (spR p n m k qs i f form) (spCode p n m k qs i f form)) := by
  have HIs := Lib.hid (fun w hr => l01Is_c p n m k (some ⟨b0, off0, none⟩) cap qs w hr hlen)
  have hB := Below.refl w.heap.size w
  have Hs := Lib.hid hs
  have h31 := schemeB_len hs
  have Hxs : Hid (([(i : Int)].all fun x => inI x qs.length) = true) := Lib.hid (by simp [hi])
  have Hf : Hid ((decide (0 ≤ f) && decide (f ≤ 2)) = false) := Lib.hid (by rw [← hf]; exact inI_sub f 3)
  have Hcode : Hid (spCode p n m k qs i f form = 2) := Lib.hid (by simp [spCode, hs, hi, hf])
  have Hz : Hid (∀ x, spZ p n m k qs i f form x = 0) := Lib.hid (fun x => by simp [spZ, Hcode.out])
  have Hr : Hid (spR p n m k qs i f form = []) := Lib.hid (by simp [spR, Hcode.out])
  clear hs hi hf
  go_enter Try.func16, Try.ntmps16
  go_upto_region 0 with (fail)
  refine wp_region_lit ?_
  refine ls_op rfl (fun K' hK' => ?_)
  have lz1 := hB.size
  refine wp_new (some 4) rfl (exec_box 28 _ rfl (#[.int .i64 p, .int .i64 n, .int .i64 m, .int .i64 k, .slice (some ⟨b0, off0, none⟩) qs.length cap]) rfl) (fun Wz2 nnz3 => ?_)
  have bz4 := nnz3.below (Below.refl _ _) (Nat.le_refl _)
  replace hB := below_after hB bz4
  have hz5 : At Wz2 w.heap.size (.cells #[.int .i64 p, .int .i64 n, .int .i64 m, .int .i64 k, .slice (some ⟨b0, off0, none⟩) qs.length cap] 28 (0, 0)) := nnz3.at_
  refine hK' _ _ ?_
  clear hK' K' nnz3 bz4
  go_frame
  refine ls_op rfl (fun K' hK' => ?_)
  have lz6 := hB.size
  have lz7 := hz5.lt
  refine wp_new (some 7) rfl (exec_box 39 _ rfl (u8s (form)) rfl) (fun Wz8 nnz9 => ?_)
  have bz10 := nnz9.below (Below.refl _ _) (Nat.le_refl _)
  replace hB := below_after hB bz10
  replace hz5 := hz5.after bz10
  have hz11 : At Wz8 Wz2.heap.size (.cells (u8s (form)) 39 (0, 0)) := nnz9.at_
  refine hK' _ _ ?_
  clear hK' K' nnz9 bz10
  go_frame
  refine ls_op rfl (fun K' hK' => ?_)
  have lz12 := hB.size
  have lz13 := hz5.lt
  have lz14 := hz11.lt
  refine wp_new (some 8) rfl (als_impl_Scheme rfl) (fun Wz15 nnz16 => ?_)
  have bz17 := nnz16.below (Below.refl _ _) (Nat.le_refl _)
  replace hB := below_after hB bz17
  replace hz5 := hz5.after bz17
  replace hz11 := hz11.after bz17
  have hz18 : At Wz15 Wz8.heap.size (.cells #[.int .i64 0, .int .i64 0, .int .i64 0, .int .i64 0, .slice none 0 0] 28 (0, 0)) := nnz16.at_
  refine hK' _ _ ?_
  clear hK' K' nnz16 bz17
  go_frame
  refine ls_ex (some 9) (.int .i64 0) rfl rfl (exec_assign _ rfl (.int .i64 0) rfl) ?_
  go_frame
  refine wpList_nil ?_
  go_upto_region 1 with (fail)
  refine wp_region_lit ?_
  refine ls_ex (some 13) (.agg #[.int .i64 p, .int .i64 n, .int .i64 m, .int .i64 k, .slice (some ⟨b0, off0, none⟩) qs.length cap]) rfl rfl (exec_load_all 28 _ rfl w.heap.size rfl _ _ _ hz5 Try.underlying28 rfl 5 (by kernel_rfl) rfl) ?_
  go_frame
  refine ls_op rfl (fun K' hK' => ?_)
  have lz21 := hB.size
  have lz22 := hz5.lt
  have lz23 := hz11.lt
  have lz24 := hz18.lt
  refine wp_call1 (some 14) rfl 22 _ _ rfl (fun args w => by kernel_rfl) _ rfl _ (HIs.out _ (hR.keep hB)) (fun e Wz19 h => ?_)
  obtain ⟨rfl, bz20⟩ := h
  replace hB := below_after hB bz20
  replace hz5 := hz5.after bz20
  replace hz11 := hz11.after bz20
  replace hz18 := hz18.after bz20
  rw [Hs.out]
  clear bz20
  refine ⟨_, rfl, ?_⟩
  refine hK' _ _ ?_
  clear hK' K'
  go_frame
  refine ls_ex (some 15) (.bool false) rfl rfl (exec_not _ _ rfl true rfl) ?_
  go_frame
  refine ls_ex (some 12) (.bool false) rfl rfl (exec_assign _ rfl (.bool false) rfl) ?_
  go_frame
  refine wpList_nil ?_
  go_upto_region 3 with (fail)
  refine wp_region_lit ?_
  refine ls_ex (some 18) (.agg #[.int .i64 p, .int .i64 n, .int .i64 m, .int .i64 k, .slice (some ⟨b0, off0, none⟩) qs.length cap]) rfl rfl (exec_load_all 28 _ rfl w.heap.size rfl _ _ _ hz5 Try.underlying28 rfl 5 (by kernel_rfl) rfl) ?_
  go_frame
  refine ls_ex (some 19) (.int .i64 i) rfl rfl (exec_move _ rfl (.int .i64 i) rfl) ?_
  go_frame
  refine ls_op rfl (fun K' hK' => ?_)
  have lz25 := hB.size
  have lz26 := hz5.lt
  have lz27 := hz11.lt
  have lz28 := hz18.lt
  refine wp_new (some 20) rfl (exec_bsi1 _ rfl i rfl) (fun Wz29 nnz30 => ?_)
  have bz31 := nnz30.below (Below.refl _ _) (Nat.le_refl _)
  replace hB := below_after hB bz31
  replace hz5 := hz5.after bz31
  replace hz11 := hz11.after bz31
  replace hz18 := hz18.after bz31
  have hz32 : At Wz29 Wz19.heap.size (.cells #[.int .i64 i] 2 (0, 0)) := nnz30.at_
  refine hK' _ _ ?_
  clear hK' K' nnz30 bz31
  go_frame
  refine ls_op rfl (fun K' hK' => ?_)
  have lz35 := hB.size
  have lz36 := hz5.lt
  have lz37 := hz11.lt
  have lz38 := hz18.lt
  have lz39 := hz32.lt
  refine wp_call2 (some 21) rfl 32 _ _ _ rfl (fun args w => by kernel_rfl) _ _ rfl rfl _ (l03Numbers_c p n m k _ cap qs.length (Wz19.heap.size) 1 [(i : Int)] _ (by omega) (by simp) (fun t ht => by match t, ht with | 0, _ => exact hz32.at_ 0)) (fun e Wz33 h => ?_)
  obtain ⟨rfl, bz34⟩ := h
  replace hB := below_after hB bz34
  replace hz5 := hz5.after bz34
  replace hz11 := hz11.after bz34
  replace hz18 := hz18.after bz34
  replace hz32 := hz32.after bz34
  rw [Hxs.out]
  clear bz34
  refine ⟨_, rfl, ?_⟩
  refine hK' _ _ ?_
  clear hK' K'
  go_frame
  refine ls_ex (some 22) (.bool false) rfl rfl (exec_not _ _ rfl true rfl) ?_
  go_frame
  refine ls_ex (some 23) (.bool false) rfl rfl (exec_move _ rfl (.bool false) rfl) ?_
  go_frame
  refine ls_ex_g (some 24) (.int .i64 f) rfl rfl (exec_move _ rfl (.int .i64 f) rfl) ?_
  go_frame
  refine ls_op_g rfl (fun K' hK' => ?_)
  have lz42 := hB.size
  have lz43 := hz5.lt
  have lz44 := hz11.lt
  have lz45 := hz18.lt
  have lz46 := hz32.lt
  refine wp_call3 (some 25) rfl 42 _ _ _ _ rfl (fun args w => by kernel_rfl) _ _ _ rfl rfl rfl _ (l01In_c f 0 2 _) (fun e Wz40 h => ?_)
  obtain ⟨rfl, rfl⟩ := h
  rw [Hf.out]
  refine ⟨_, rfl, ?_⟩
  refine hK' _ _ ?_
  clear hK' K'
  go_frame
  refine ls_ex_g (some 26) (.bool true) rfl rfl (exec_not _ _ rfl false rfl) ?_
  go_frame
  refine ls_ex (some 27) (.bool true) rfl rfl (exec_pick _ _ _ rfl false rfl (.bool true) rfl) ?_
  go_frame
  refine ls_ex (some 17) (.bool true) rfl rfl (exec_assign _ rfl (.bool true) rfl) ?_
  go_frame
  refine wpList_nil ?_
  go_upto_region 4 with (fail)
  refine wp_region_lit ?_
  refine ls_ex (some 28) (.agg #[.int .i64 0, .int .i64 0, .int .i64 0, .int .i64 0, .slice none 0 0]) rfl rfl (exec_build_nil 28 rfl _ (by kernel_rfl)) ?_
  go_frame
  refine ls_op rfl (fun K' hK' => ?_)
  refine wp_store_all 28 _ _ rfl rfl Wz8.heap.size rfl #[.int .i64 0, .int .i64 0, .int .i64 0, .int .i64 0, .slice none 0 0] rfl _ _ hz18 5 (by kernel_rfl) rfl rfl (one5 _ _ _ _ _ _ _) (fun Wz47 pz48 => ?_)
  replace hB := pz48.below hB (by omega)
  replace hz5 := pz48.other hz5 (by omega)
  replace hz11 := pz48.other hz11 (by omega)
  replace hz32 := pz48.other hz32 (by omega)
  replace hz18 : At Wz47 Wz8.heap.size (.cells #[.int .i64 0, .int .i64 0, .int .i64 0, .int .i64 0, .slice none 0 0] 28 (0, 0)) := pz48.at_
  refine hK' _ _ ?_
  clear hK' K' pz48
  refine ls_ex (some 9) (.int .i64 2) rfl rfl (exec_assign _ rfl (.int .i64 2) rfl) ?_
  go_frame
  refine wpList_nil ?_
  go_wp2_with fail
  refine bodyPost_ret (results_at2 rfl _ _ (Wz8.heap.size) _ _ _ rfl _ rfl hz18 Try.underlying28 rfl 5 (by kernel_rfl) rfl) rfl ?_
  exact ⟨.slice none 0 0, by rw [Hz.out, Hz.out, Hz.out, Hz.out, Hcode.out]; rfl, by rw [Hr.out]; exact Own.nil _ _, hB⟩
end Go.Proofs.Ytbgoopmmdbhogaa
