/-
  spec.WalkScheme; WalkScheme of both sides. (Made by mkws4.py.)
-/
import Derived.Test.YtkboenfloaagiaaWs4a
namespace Go.Proofs.Ytkboenfloaagiaa
open Go.RowKit
set_option maxRecDepth 100000
attribute [local irreducible] wpList
set_option maxHeartbeats 51200000 in
theorem specWalk_y (p n m k : Int) (a0 c : Nat) (qs : List (List Nat)) (sd st : Int) (w : World) (hR : Rd w (some ⟨a0, 0, none⟩) qs) (hlen : qs.length ≤ 1048576) (hs : schemeB p n m k qs = true) (h1 : (decide (1 ≤ sd) && decide (sd ≤ 2147483646)) = true) (h2 : (decide (0 ≤ st) && decide (st ≤ 200)) = true) :
  Calls Try.prog 21 #[.agg #[.int .i64 p, .int .i64 n, .int .i64 m, .int .i64 k, .slice (some ⟨a0, 0, none⟩) qs.length c], .int .i64 sd, .int .i64 st] w (ResS w (wsZ (wsCode p n m k qs sd st) p) (wsZ (wsCode p n m k qs sd st) n) (wsZ (wsCode p n m k qs sd st) m) (wsZ (wsCode p n m k qs sd st) k) (wsL (wsCode p n m k qs sd st) (wst p qs sd.toNat st.toNat).1) (wsCode p n m k qs sd st)) := by
 have hB := Below.refl w.heap.size w
 have HC : Hid (wsCode p n m k qs sd st = 0) := Lib.hid (by unfold wsCode; rw [hs, h1, h2]; rfl)
 have h1' := h1
 have h2' := h2
 simp only [Bool.and_eq_true, decide_eq_true_eq] at h1' h2'
 obtain ⟨S, rfl⟩ := Int.eq_ofNat_of_zero_le (show 0 ≤ sd by omega)
 obtain ⟨T, rfl⟩ := Int.eq_ofNat_of_zero_le (show 0 ≤ st by omega)
 have hpr := (sizesB_parts (schemeB_sizes hs)).1
 have hp2 : 2 ≤ p ∧ p ≤ 5 := ⟨prime_two hpr, (primeB_5 hpr).2⟩
 have hl30 := schemeB_len hs
 have Hs := Lib.hid hs
 have H1 := Lib.hid h1
 have H2 := Lib.hid h2
 clear hs h1 h2 hpr
 go_enter Try.func21, Try.ntmps21
 go_upto_region 0 with (fail)
 refine wp_region_lit ?_
 refine ls_op rfl (fun K' hK' => ?_)
 have lz1 := hB.size
 refine wp_new (some 3) rfl (exec_box 31 _ rfl (#[.int .i64 p, .int .i64 n, .int .i64 m, .int .i64 k, .slice (some ⟨a0, 0, none⟩) qs.length c]) rfl) (fun Wz2 nnz3 => ?_)
 have bz4 := nnz3.below (Below.refl _ _) (Nat.le_refl _)
 replace hB := below_after hB bz4
 have hz5 : At Wz2 w.heap.size (.cells #[.int .i64 p, .int .i64 n, .int .i64 m, .int .i64 k, .slice (some ⟨a0, 0, none⟩) qs.length c] 31 (0, 0)) := nnz3.at_
 refine hK' _ _ ?_
 clear hK' K' nnz3 bz4
 go_frame
 refine ls_op rfl (fun K' hK' => ?_)
 have lz6 := hB.size
 have lz7 := hz5.lt
 refine wp_new (some 6) rfl (al_impl_Scheme rfl) (fun Wz8 nnz9 => ?_)
 have bz10 := nnz9.below (Below.refl _ _) (Nat.le_refl _)
 replace hB := below_after hB bz10
 replace hz5 := hz5.after bz10
 have hz11 : At Wz8 Wz2.heap.size (.cells #[.int .i64 0, .int .i64 0, .int .i64 0, .int .i64 0, .slice none 0 0] 31 (0, 0)) := nnz9.at_
 refine hK' _ _ ?_
 clear hK' K' nnz9 bz10
 go_frame
 refine ls_ex (some 7) (.int .i64 0) rfl rfl (exec_assign _ rfl (.int .i64 0) rfl) ?_
 go_frame
 refine wpList_nil ?_
 go_upto_region 1 with (fail)
 refine wp_region_lit ?_
 refine ls_ex (some 24) (.agg #[.int .i64 p, .int .i64 n, .int .i64 m, .int .i64 k, .slice (some ⟨a0, 0, none⟩) qs.length c]) rfl rfl (exec_load_all 31 _ rfl w.heap.size rfl _ _ _ hz5 Try.underlying31 rfl 5 (by kernel_rfl) rfl) ?_
 go_frame
 refine ls_op rfl (fun K' hK' => ?_)
 have lz14 := hB.size
 have lz15 := hz5.lt
 have lz16 := hz11.lt
 refine wp_call1 (some 25) rfl 24 _ _ rfl (fun args w => by kernel_rfl) _ rfl _ (l01Is_c p n m k (some ⟨a0, 0, none⟩) c qs _ (hR.keep hB) (by omega)) (fun e Wz12 h => ?_)
 obtain ⟨rfl, bz13⟩ := h
 replace hB := below_after hB bz13
 replace hz5 := hz5.after bz13
 replace hz11 := hz11.after bz13
 rw [Hs.out]
 clear bz13
 refine ⟨_, rfl, ?_⟩
 refine hK' _ _ ?_
 clear hK' K'
 go_frame
 refine ls_ex (some 26) (.bool false) rfl rfl (exec_not _ _ rfl true rfl) ?_
 go_frame
 refine ls_ex (some 23) (.bool false) rfl rfl (exec_assign _ rfl (.bool false) rfl) ?_
 go_frame
 refine wpList_nil ?_
 go_upto_region 3 with (fail)
 refine wp_region_lit ?_
 refine ls_ex (some 29) (.int .i64 S) rfl rfl (exec_move _ rfl (.int .i64 S) rfl) ?_
 go_frame
 refine ls_op rfl (fun K' hK' => ?_)
 have lz19 := hB.size
 have lz20 := hz5.lt
 have lz21 := hz11.lt
 refine wp_call3 (some 30) rfl 44 _ _ _ _ rfl (fun args w => by kernel_rfl) _ _ _ rfl rfl rfl _ (l01In_c S 1 2147483646 _) (fun e Wz17 h => ?_)
 obtain ⟨rfl, rfl⟩ := h
 rw [H1.out]
 refine ⟨_, rfl, ?_⟩
 refine hK' _ _ ?_
 clear hK' K'
 go_frame
 refine ls_ex (some 31) (.bool false) rfl rfl (exec_not _ _ rfl true rfl) ?_
 go_frame
 refine ls_ex (some 32) (.bool false) rfl rfl (exec_move _ rfl (.bool false) rfl) ?_
 go_frame
 refine ls_ex_g (some 33) (.int .i64 T) rfl rfl (exec_move _ rfl (.int .i64 T) rfl) ?_
 go_frame
 refine ls_op_g rfl (fun K' hK' => ?_)
 have lz24 := hB.size
 have lz25 := hz5.lt
 have lz26 := hz11.lt
 refine wp_call3 (some 34) rfl 44 _ _ _ _ rfl (fun args w => by kernel_rfl) _ _ _ rfl rfl rfl _ (l01In_c T 0 200 _) (fun e Wz22 h => ?_)
 obtain ⟨rfl, rfl⟩ := h
 rw [H2.out]
 refine ⟨_, rfl, ?_⟩
 refine hK' _ _ ?_
 clear hK' K'
 go_frame
 refine ls_ex_g (some 35) (.bool false) rfl rfl (exec_not _ _ rfl true rfl) ?_
 go_frame
 refine ls_ex (some 36) (.bool false) rfl rfl (exec_pick _ _ _ rfl false rfl (.bool false) rfl) ?_
 go_frame
 refine ls_ex (some 28) (.bool false) rfl rfl (exec_assign _ rfl (.bool false) rfl) ?_
 go_frame
 refine wpList_nil ?_
 go_upto_region 5 with (fail)
 refine wp_region_lit ?_
 refine ls_op rfl (fun K' hK' => ?_)
 have lz30 := hB.size
 have lz31 := hz5.lt
 have lz32 := hz11.lt
 refine wp_new (some 38) rfl (exec_bs0 rfl) (fun Wz27 nnz28 => ?_)
 have bz29 := nnz28.below (Below.refl _ _) (Nat.le_refl _)
 replace hB := below_after hB bz29
 replace hz5 := hz5.after bz29
 replace hz11 := hz11.after bz29
 have ho : Own Wz27 w.heap.size (.slice (some ⟨Wz12.heap.size, 0, none⟩) 0 0) [] := (own_bs0 nnz28).mono (by have := hB.size; omega)
 refine hK' _ _ ?_
 clear hK' K' nnz28 bz29
 go_frame
 refine ls_ex (some 39) (.pointer (some ⟨w.heap.size, 4, none⟩)) rfl rfl (exec_fieldAddr 31 _ 4 rfl _ (by kernel_rfl)) ?_
 go_frame
 refine ls_ex (some 40) (.slice (some ⟨a0, 0, none⟩) qs.length c) rfl rfl (exec_load_one 29 _ rfl w.heap.size 4 rfl (.slice (some ⟨a0, 0, none⟩) qs.length c) _ Try.underlying29 rfl (hz5.at_ 4)) ?_
 go_frame
 refine ls_op rfl (fun K' hK' => ?_)
 have lz36 := hB.size
 have lz37 := hz5.lt
 have lz38 := hz11.lt
 refine wp_append_rd (some 41) rfl _ _ rfl (.slice (some ⟨Wz12.heap.size, 0, none⟩) 0 0) [] qs rfl ho (some ⟨a0, 0, none⟩) c rfl (hR.keep hB) (by simp) (by simp; omega) (by omega) (fun v7 Wz33 noz35 grz34 => ?_)
 rw [List.nil_append] at noz35
 obtain ⟨A7, c7, rfl⟩ := Own.rdN2 noz35 (n := qs.length) rfl
 replace hB := below_grown hB grz34 ho (by omega)
 replace hz5 := hz5.grown grz34 (ho.off hz5 (by decide))
 replace hz11 := hz11.grown grz34 (ho.off hz11 (by decide))
 replace ho := noz35
 refine hK' _ _ ?_
 clear hK' K' grz34
 go_frame
 refine ls_ex (some 8) (.slice A7 qs.length c7) rfl rfl (exec_assign _ rfl (.slice A7 qs.length c7) rfl) ?_
 go_frame
 refine wpList_nil ?_
 go_wp2_with fail
 go_loopw [1, 2, 8] (fun s1 s2 s8 wr => ∃ (t : Nat) (L : List (List Nat)) (x : Nat) (v : Value), t ≤ T ∧ s2 = .int .i64 ((T - t : Nat) : Int) ∧ s1 = .int .i64 x ∧ v = s8 ∧ Hid (wst p qs S t = (L, x)) ∧ x < 2147483647 ∧ Below w.heap.size w wr ∧ At wr w.heap.size (.cells #[.int .i64 p, .int .i64 n, .int .i64 m, .int .i64 k, .slice (some ⟨a0, 0, none⟩) qs.length c] 31 (0, 0)) ∧ At wr Wz2.heap.size (.cells #[.int .i64 0, .int .i64 0, .int .i64 0, .int .i64 0, .slice none 0 0] 31 (0, 0)) ∧ Own wr w.heap.size v L) (fun _ s2 _ _ => (intOf s2).toNat)
 case atStart => exact ⟨0, qs, S, _, by omega, rfl, rfl, rfl, Lib.hid rfl, by omega, hB, hz5, hz11, ho.mono (by omega)⟩
 case round =>
  clear hB hz5 hz11 ho
  obtain ⟨t, L, x, v, ht, rfl, rfl, rfl, HW, hx, hB, h3, h6, ho⟩ := hrel
  have hok := wst_ok (p := p) (qs := qs) (x := S) hR.good hp2 (by omega) t
  rw [HW.out] at hok
  simp only at hok
  have HLb := Lib.hid hok.1
  have hLn := hok.2.1
  clear hok
  by_cases hlt : t < T
  ·by_cases hN : L.length = 0
   ·obtain ⟨D0, hD0⟩ : ∃ z9, T - t = z9 := ⟨_, rfl⟩
    obtain ⟨D, hD⟩ : ∃ z9, T - (t + 1) = z9 := ⟨_, rfl⟩
    have HD : Hid (IntKind.i64.wrap ((D0 : Int) - 1) = (D : Int)) := Lib.hid (by rw [IntWalk.i64_in _ (by omega)]; omega)
    rw [hD0]
    obtain ⟨U, hU⟩ : ∃ z9, nxW x = z9 := ⟨_, rfl⟩
    obtain ⟨V, hV⟩ : ∃ z9, nxW U = z9 := ⟨_, rfl⟩
    obtain ⟨Y, hY⟩ : ∃ z9, nxW V = z9 := ⟨_, rfl⟩
    have hUb : U < 2147483647 := by rw [← hU]; exact nxW_lt _
    have hVb : V < 2147483647 := by rw [← hV]; exact nxW_lt _
    have hYb : Y < 2147483647 := by rw [← hY]; exact nxW_lt _
    obtain ⟨MU, hMU⟩ : ∃ z9, x * 48271 = z9 := ⟨_, rfl⟩
    have HMU : Hid (IntKind.i64.wrap ((x : Int) * 48271) = (MU : Int)) := Lib.hid (by rw [IntWalk.i64_in _ (by omega)]; omega)
    have HNU : Hid ((MU : Int).tmod 2147483647 = (U : Int)) := Lib.hid (by rw [Int.tmod_eq_emod_of_nonneg (by omega), ← hU, ← hMU]; unfold nxW; omega)
    obtain ⟨MV, hMV⟩ : ∃ z9, U * 48271 = z9 := ⟨_, rfl⟩
    have HMV : Hid (IntKind.i64.wrap ((U : Int) * 48271) = (MV : Int)) := Lib.hid (by rw [IntWalk.i64_in _ (by omega)]; omega)
    have HNV : Hid ((MV : Int).tmod 2147483647 = (V : Int)) := Lib.hid (by rw [Int.tmod_eq_emod_of_nonneg (by omega), ← hV, ← hMV]; unfold nxW; omega)
    obtain ⟨MY, hMY⟩ : ∃ z9, V * 48271 = z9 := ⟨_, rfl⟩
    have HMY : Hid (IntKind.i64.wrap ((V : Int) * 48271) = (MY : Int)) := Lib.hid (by rw [IntWalk.i64_in _ (by omega)]; omega)
    have HNY : Hid ((MY : Int).tmod 2147483647 = (Y : Int)) := Lib.hid (by rw [Int.tmod_eq_emod_of_nonneg (by omega), ← hY, ← hMY]; unfold nxW; omega)
    obtain ⟨A9, c9, rfl⟩ := Own.rdN2 ho (n := L.length) rfl
    have hLe := List.eq_nil_of_length_eq_zero hN
    have HS : Hid (wst p qs S (t + 1) = (L, Y)) := Lib.hid (by rw [hLe] at HW ⊢; have h9 := wst_none HW.out; rwa [hU, hV, hY] at h9)
    clear hLe hU hV hY
    clear hMU hMV hMY
    go_upto_region 6 with (fail)
    refine wp_region_lit ?_
    refine ls_ex (some 42) (.int .i64 D0) rfl rfl (exec_move _ rfl (.int .i64 D0) rfl) ?_
    go_frame
    refine ls_ex (some 43) (.bool true) rfl rfl (exec_gtr _ _ _ _ rfl D0 0 rfl rfl true (decide_eq_true (by omega))) ?_
    go_frame
    refine wpList_nil ?_
    go_upto_region 8 with (fail)
    refine wp_region_lit ?_
    refine ls_ex (some 46) (.int .i64 x) rfl rfl (exec_move _ rfl (.int .i64 x) rfl) ?_
    go_frame
    refine ls_ex (some 47) (.int .i64 MU) rfl rfl (exec_mul _ _ _ _ rfl x 48271 MU rfl rfl HMU.out) ?_
    go_frame
    refine ls_ex (some 48) (.int .i64 U) rfl rfl (exec_rem _ _ _ _ rfl MU 2147483647 U rfl rfl (by decide) HNU.out) ?_
    go_frame
    refine ls_ex (some 9) (.int .i64 U) rfl rfl (exec_assign _ rfl (.int .i64 U) rfl) ?_
    go_frame
    refine wpList_nil ?_
    go_upto_region 9 with (fail)
    refine wp_region_lit ?_
    refine ls_ex (some 49) (.int .i64 U) rfl rfl (exec_move _ rfl (.int .i64 U) rfl) ?_
    go_frame
    refine ls_ex (some 50) (.int .i64 MV) rfl rfl (exec_mul _ _ _ _ rfl U 48271 MV rfl rfl HMV.out) ?_
    go_frame
    refine ls_ex (some 51) (.int .i64 V) rfl rfl (exec_rem _ _ _ _ rfl MV 2147483647 V rfl rfl (by decide) HNV.out) ?_
    go_frame
    refine ls_ex (some 10) (.int .i64 V) rfl rfl (exec_assign _ rfl (.int .i64 V) rfl) ?_
    go_frame
    refine wpList_nil ?_
    go_upto_region 10 with (fail)
    refine wp_region_lit ?_
    refine ls_ex (some 52) (.int .i64 V) rfl rfl (exec_move _ rfl (.int .i64 V) rfl) ?_
    go_frame
    refine ls_ex (some 53) (.int .i64 MY) rfl rfl (exec_mul _ _ _ _ rfl V 48271 MY rfl rfl HMY.out) ?_
    go_frame
    refine ls_ex (some 54) (.int .i64 Y) rfl rfl (exec_rem _ _ _ _ rfl MY 2147483647 Y rfl rfl (by decide) HNY.out) ?_
    go_frame
    refine ls_ex (some 11) (.int .i64 Y) rfl rfl (exec_assign _ rfl (.int .i64 Y) rfl) ?_
    go_frame
    refine wpList_nil ?_
    go_upto_region 11 with (fail)
    refine wp_region_lit ?_
    refine ls_ex (some 55) (.int .i64 Y) rfl rfl (exec_move _ rfl (.int .i64 Y) rfl) ?_
    go_frame
    refine ls_ex (some 1) (.int .i64 Y) rfl rfl (exec_assign _ rfl (.int .i64 Y) rfl) ?_
    go_frame
    refine wpList_nil ?_
    go_upto_region 12 with (fail)
    refine wp_region_lit ?_
    refine ls_ex (some 56) (.slice A9 L.length c9) rfl rfl (exec_move _ rfl (.slice A9 L.length c9) rfl) ?_
    go_frame
    refine ls_ex (some 57) (.int .i64 L.length) rfl rfl (exec_len _ 29 65 rfl A9 L.length c9 rfl Try.underlying29) ?_
    go_frame
    refine ls_ex (some 12) (.int .i64 L.length) rfl rfl (exec_assign _ rfl (.int .i64 L.length) rfl) ?_
    go_frame
    refine wpList_nil ?_
    go_upto_region 13 with (fail)
    refine wp_region_lit ?_
    refine ls_ex (some 58) (.int .i64 L.length) rfl rfl (exec_move _ rfl (.int .i64 L.length) rfl) ?_
    go_frame
    refine ls_ex (some 59) (.bool true) rfl rfl (exec_eql _ _ _ _ rfl L.length 0 rfl rfl true (by rw [hN]; rfl)) ?_
    go_frame
    refine wpList_nil ?_
    go_upto_region 7 with (fail)
    refine wp_region_lit ?_
    refine ls_ex (some 44) (.int .i64 D0) rfl rfl (exec_move _ rfl (.int .i64 D0) rfl) ?_
    go_frame
    refine ls_ex (some 45) (.int .i64 D) rfl rfl (exec_sub _ _ _ _ rfl D0 1 D rfl rfl HD.out) ?_
    go_frame
    refine ls_ex (some 2) (.int .i64 D) rfl rfl (exec_assign _ rfl (.int .i64 D) rfl) ?_
    go_frame
    refine wpList_nil ?_
    go_wp2_with fail
    go_roundw
    case rel => exact ⟨t + 1, _, _, _, by omega, by rw [← hD], rfl, rfl, HS, hYb, hB, h3, h6, ho⟩
    case measure => simp [intOf]; omega
   ·by_cases hij : nxW x % L.length = nxW (nxW x) % L.length
    ·obtain ⟨D0, hD0⟩ : ∃ z9, T - t = z9 := ⟨_, rfl⟩
     obtain ⟨D, hD⟩ : ∃ z9, T - (t + 1) = z9 := ⟨_, rfl⟩
     have HD : Hid (IntKind.i64.wrap ((D0 : Int) - 1) = (D : Int)) := Lib.hid (by rw [IntWalk.i64_in _ (by omega)]; omega)
     rw [hD0]
     obtain ⟨U, hU⟩ : ∃ z9, nxW x = z9 := ⟨_, rfl⟩
     obtain ⟨V, hV⟩ : ∃ z9, nxW U = z9 := ⟨_, rfl⟩
     obtain ⟨Y, hY⟩ : ∃ z9, nxW V = z9 := ⟨_, rfl⟩
     have hUb : U < 2147483647 := by rw [← hU]; exact nxW_lt _
     have hVb : V < 2147483647 := by rw [← hV]; exact nxW_lt _
     have hYb : Y < 2147483647 := by rw [← hY]; exact nxW_lt _
     obtain ⟨MU, hMU⟩ : ∃ z9, x * 48271 = z9 := ⟨_, rfl⟩
     have HMU : Hid (IntKind.i64.wrap ((x : Int) * 48271) = (MU : Int)) := Lib.hid (by rw [IntWalk.i64_in _ (by omega)]; omega)
     have HNU : Hid ((MU : Int).tmod 2147483647 = (U : Int)) := Lib.hid (by rw [Int.tmod_eq_emod_of_nonneg (by omega), ← hU, ← hMU]; unfold nxW; omega)
     obtain ⟨MV, hMV⟩ : ∃ z9, U * 48271 = z9 := ⟨_, rfl⟩
     have HMV : Hid (IntKind.i64.wrap ((U : Int) * 48271) = (MV : Int)) := Lib.hid (by rw [IntWalk.i64_in _ (by omega)]; omega)
     have HNV : Hid ((MV : Int).tmod 2147483647 = (V : Int)) := Lib.hid (by rw [Int.tmod_eq_emod_of_nonneg (by omega), ← hV, ← hMV]; unfold nxW; omega)
     obtain ⟨MY, hMY⟩ : ∃ z9, V * 48271 = z9 := ⟨_, rfl⟩
     have HMY : Hid (IntKind.i64.wrap ((V : Int) * 48271) = (MY : Int)) := Lib.hid (by rw [IntWalk.i64_in _ (by omega)]; omega)
     have HNY : Hid ((MY : Int).tmod 2147483647 = (Y : Int)) := Lib.hid (by rw [Int.tmod_eq_emod_of_nonneg (by omega), ← hY, ← hMY]; unfold nxW; omega)
     obtain ⟨A9, c9, rfl⟩ := Own.rdN2 ho (n := L.length) rfl
     obtain ⟨g, rfl, hg⟩ := ho.blk (by omega)
     obtain ⟨I, hI⟩ : ∃ z9, U % L.length = z9 := ⟨_, rfl⟩
     obtain ⟨J, hJ⟩ : ∃ z9, V % L.length = z9 := ⟨_, rfl⟩
     obtain ⟨F, hF⟩ : ∃ z9, Y % 3 = z9 := ⟨_, rfl⟩
     have hI3 : I < L.length := by rw [← hI]; exact Nat.mod_lt _ (by omega)
     have hJ3 : J < L.length := by rw [← hJ]; exact Nat.mod_lt _ (by omega)
     have hF3 : F < 3 := by rw [← hF]; exact Nat.mod_lt _ (by omega)
     obtain ⟨Q, hQ⟩ : ∃ z9, L[I]? = some z9 := ⟨_, List.getElem?_eq_getElem hI3⟩
     obtain ⟨R, hRj⟩ : ∃ z9, L[J]? = some z9 := ⟨_, List.getElem?_eq_getElem hJ3⟩
     have HI : Hid ((U : Int).tmod (L.length : Int) = (I : Int)) := Lib.hid (by rw [Int.tmod_eq_emod_of_nonneg (by omega), ← hI]; rfl)
     have HJ : Hid ((V : Int).tmod (L.length : Int) = (J : Int)) := Lib.hid (by rw [Int.tmod_eq_emod_of_nonneg (by omega), ← hJ]; rfl)
     have HF : Hid ((Y : Int).tmod 3 = (F : Int)) := Lib.hid (by rw [Int.tmod_eq_emod_of_nonneg (by omega), ← hF]; rfl)
     rw [hU, hV, hI, hJ] at hij
     have HS : Hid (wst p qs S (t + 1) = (L, Y)) := Lib.hid (by have h9 := wst_no (F := F) HW.out (by rw [hU]; exact hI) (by rw [hU, hV]; exact hJ) (by rw [hU, hV, hY]; exact hF) hQ hRj (by unfold flB; rw [decide_eq_false (fun h => h hij)]; rfl); rwa [hU, hV, hY] at h9)
     have HQ := Lib.hid (HLb.out _ (List.mem_of_getElem? hQ))
     have HRb := Lib.hid (HLb.out _ (List.mem_of_getElem? hRj))
     have HQi := Lib.hid hQ
     have HRj := Lib.hid hRj
     have hLz : ((L.length : Int)) ≠ 0 := by omega
     clear hU hV hY hI hJ hF hQ hRj
     clear hMU hMV hMY
     go_upto_region 6 with (fail)
     refine wp_region_lit ?_
     refine ls_ex (some 42) (.int .i64 D0) rfl rfl (exec_move _ rfl (.int .i64 D0) rfl) ?_
     go_frame
     refine ls_ex (some 43) (.bool true) rfl rfl (exec_gtr _ _ _ _ rfl D0 0 rfl rfl true (decide_eq_true (by omega))) ?_
     go_frame
     refine wpList_nil ?_
     go_upto_region 8 with (fail)
     refine wp_region_lit ?_
     refine ls_ex (some 46) (.int .i64 x) rfl rfl (exec_move _ rfl (.int .i64 x) rfl) ?_
     go_frame
     refine ls_ex (some 47) (.int .i64 MU) rfl rfl (exec_mul _ _ _ _ rfl x 48271 MU rfl rfl HMU.out) ?_
     go_frame
     refine ls_ex (some 48) (.int .i64 U) rfl rfl (exec_rem _ _ _ _ rfl MU 2147483647 U rfl rfl (by decide) HNU.out) ?_
     go_frame
     refine ls_ex (some 9) (.int .i64 U) rfl rfl (exec_assign _ rfl (.int .i64 U) rfl) ?_
     go_frame
     refine wpList_nil ?_
     go_upto_region 9 with (fail)
     refine wp_region_lit ?_
     refine ls_ex (some 49) (.int .i64 U) rfl rfl (exec_move _ rfl (.int .i64 U) rfl) ?_
     go_frame
     refine ls_ex (some 50) (.int .i64 MV) rfl rfl (exec_mul _ _ _ _ rfl U 48271 MV rfl rfl HMV.out) ?_
     go_frame
     refine ls_ex (some 51) (.int .i64 V) rfl rfl (exec_rem _ _ _ _ rfl MV 2147483647 V rfl rfl (by decide) HNV.out) ?_
     go_frame
     refine ls_ex (some 10) (.int .i64 V) rfl rfl (exec_assign _ rfl (.int .i64 V) rfl) ?_
     go_frame
     refine wpList_nil ?_
     go_upto_region 10 with (fail)
     refine wp_region_lit ?_
     refine ls_ex (some 52) (.int .i64 V) rfl rfl (exec_move _ rfl (.int .i64 V) rfl) ?_
     go_frame
     refine ls_ex (some 53) (.int .i64 MY) rfl rfl (exec_mul _ _ _ _ rfl V 48271 MY rfl rfl HMY.out) ?_
     go_frame
     refine ls_ex (some 54) (.int .i64 Y) rfl rfl (exec_rem _ _ _ _ rfl MY 2147483647 Y rfl rfl (by decide) HNY.out) ?_
     go_frame
     refine ls_ex (some 11) (.int .i64 Y) rfl rfl (exec_assign _ rfl (.int .i64 Y) rfl) ?_
     go_frame
     refine wpList_nil ?_
     go_upto_region 11 with (fail)
     refine wp_region_lit ?_
     refine ls_ex (some 55) (.int .i64 Y) rfl rfl (exec_move _ rfl (.int .i64 Y) rfl) ?_
     go_frame
     refine ls_ex (some 1) (.int .i64 Y) rfl rfl (exec_assign _ rfl (.int .i64 Y) rfl) ?_
     go_frame
     refine wpList_nil ?_
     go_upto_region 12 with (fail)
     refine wp_region_lit ?_
     refine ls_ex (some 56) (.slice (some ⟨g, 0, none⟩) L.length c9) rfl rfl (exec_move _ rfl (.slice (some ⟨g, 0, none⟩) L.length c9) rfl) ?_
     go_frame
     refine ls_ex (some 57) (.int .i64 L.length) rfl rfl (exec_len _ 29 65 rfl ((some ⟨g, 0, none⟩)) L.length c9 rfl Try.underlying29) ?_
     go_frame
     refine ls_ex (some 12) (.int .i64 L.length) rfl rfl (exec_assign _ rfl (.int .i64 L.length) rfl) ?_
     go_frame
     refine wpList_nil ?_
     go_upto_region 13 with (fail)
     refine wp_region_lit ?_
     refine ls_ex (some 58) (.int .i64 L.length) rfl rfl (exec_move _ rfl (.int .i64 L.length) rfl) ?_
     go_frame
     refine ls_ex (some 59) (.bool false) rfl rfl (exec_eql _ _ _ _ rfl L.length 0 rfl rfl false (beq_eq_false_iff_ne.2 (by omega))) ?_
     go_frame
     refine wpList_nil ?_
     go_upto_region 14 with (fail)
     refine wp_region_y (zs := []) (S := fun w' => Below w.heap.size w w') (S2 := fun w' => True) (by kernel_rfl) ?_
     change wpAnyY _ _ _ _ _ _ _ _ _ _ (World.drew _)
     generalize hwdz39 : World.drew _ = wdz39
     replace hB : Below w.heap.size w wdz39 := by rw [← hwdz39]; exact hB.drew
     replace h3 : At wdz39 w.heap.size (.cells #[.int .i64 p, .int .i64 n, .int .i64 m, .int .i64 k, .slice (some ⟨a0, 0, none⟩) qs.length c] 31 (0, 0)) := by rw [← hwdz39]; exact h3
     replace h6 : At wdz39 Wz2.heap.size (.cells #[.int .i64 0, .int .i64 0, .int .i64 0, .int .i64 0, .slice none 0 0] 31 (0, 0)) := by rw [← hwdz39]; exact h6
     replace ho : Own wdz39 w.heap.size (.slice (some ⟨g, 0, none⟩) L.length c9) (L) := by rw [← hwdz39]; exact ho.drew
     clear hwdz39
     refine y_yield 0 (some 60) (.int .i64 U) rfl (by kernel_rfl) (by kernel_rfl) (by kernel_rfl) (fun _ _ _ h => h) rfl rfl hB (fun w' h' => exec_move _ rfl (.int .i64 U) rfl) ?_
     go_frame
     refine y_yield 1 (some 61) (.int .i64 L.length) rfl (by kernel_rfl) (by kernel_rfl) (by kernel_rfl) (fun _ _ _ h => h) rfl rfl hB (fun w' h' => exec_move _ rfl (.int .i64 L.length) rfl) ?_
     go_frame
     refine y_yield 2 (some 62) (.int .i64 I) rfl (by kernel_rfl) (by kernel_rfl) (by kernel_rfl) (fun _ _ _ h => h) rfl rfl hB (fun w' h' => exec_rem _ _ _ _ rfl U L.length I rfl rfl hLz HI.out) ?_
     go_frame
     refine y_yield 3 (some 63) (.int .i64 V) rfl (by kernel_rfl) (by kernel_rfl) (by kernel_rfl) (fun _ _ _ h => h) rfl rfl hB (fun w' h' => exec_move _ rfl (.int .i64 V) rfl) ?_
     go_frame
     refine y_yield 4 (some 64) (.int .i64 L.length) rfl (by kernel_rfl) (by kernel_rfl) (by kernel_rfl) (fun _ _ _ h => h) rfl rfl hB (fun w' h' => exec_move _ rfl (.int .i64 L.length) rfl) ?_
     go_frame
     refine y_yield 5 (some 65) (.int .i64 J) rfl (by kernel_rfl) (by kernel_rfl) (by kernel_rfl) (fun _ _ _ h => h) rfl rfl hB (fun w' h' => exec_rem _ _ _ _ rfl V L.length J rfl rfl hLz HJ.out) ?_
     go_frame
     refine y_yield 6 (some 66) (.int .i64 Y) rfl (by kernel_rfl) (by kernel_rfl) (by kernel_rfl) (fun _ _ _ h => h) rfl rfl hB (fun w' h' => exec_move _ rfl (.int .i64 Y) rfl) ?_
     go_frame
     refine y_yield 7 (some 67) (.int .i64 F) rfl (by kernel_rfl) (by kernel_rfl) (by kernel_rfl) (fun _ _ _ h => h) rfl rfl hB (fun w' h' => exec_rem _ _ _ _ rfl Y 3 F rfl rfl (by decide) HF.out) ?_
     go_frame
     refine y_oper 8 (by kernel_rfl) rfl rfl (fun K' hK' => ?_)
     refine wp_exec (some 13) rfl (.int .i64 I) (exec_assign _ rfl (.int .i64 I) rfl) ?_
     refine hK' _ _ hB (fun _ => trivial) ?_
     clear hK' K'
     go_frame
     refine y_oper 9 (by kernel_rfl) rfl rfl (fun K' hK' => ?_)
     refine wp_exec (some 14) rfl (.int .i64 J) (exec_assign _ rfl (.int .i64 J) rfl) ?_
     refine hK' _ _ hB (fun _ => trivial) ?_
     clear hK' K'
     go_frame
     refine y_oper 10 (by kernel_rfl) rfl rfl (fun K' hK' => ?_)
     refine wp_exec (some 15) rfl (.int .i64 F) (exec_assign _ rfl (.int .i64 F) rfl) ?_
     refine hK' _ _ hB (fun _ => trivial) ?_
     clear hK' K'
     go_frame
     refine y_done (by kernel_rfl) ?_ _
     go_upto_region 15 with (fail)
     go_cut [16, 17] from 68 to 77 (fun s16 s17 wx => ∃ b16 b17 : Nat, s16 = .pointer (some ⟨b16, 0, none⟩) ∧ s17 = .pointer (some ⟨b17, 0, none⟩) ∧ b16 ≠ b17 ∧ (w.heap.size < b16 ∧ w.heap.size < b17 ∧ Wz2.heap.size < b16 ∧ Wz2.heap.size < b17) ∧ Below w.heap.size w wx ∧ At wx w.heap.size (.cells #[.int .i64 p, .int .i64 n, .int .i64 m, .int .i64 k, .slice (some ⟨a0, 0, none⟩) qs.length c] 31 (0, 0)) ∧ At wx Wz2.heap.size (.cells #[.int .i64 0, .int .i64 0, .int .i64 0, .int .i64 0, .slice none 0 0] 31 (0, 0)) ∧ At wx b16 (.cells (u8s (Q)) 71 (0, 0)) ∧ At wx b17 (.cells (u8s (R)) 71 (0, 0)) ∧ Own wx w.heap.size (.slice (some ⟨g, 0, none⟩) L.length c9) (L))
     case first =>
      refine wp_region_y (zs := []) (S := fun w' => Below w.heap.size w w' ∧ Own w' w.heap.size (.slice (some ⟨g, 0, none⟩) L.length c9) (L)) (S2 := fun w' => True) (by kernel_rfl) ?_
      change wpAnyY _ _ _ _ _ _ _ _ _ _ (World.drew _)
      generalize hwdz40 : World.drew _ = wdz40
      replace hB : Below w.heap.size w wdz40 := by rw [← hwdz40]; exact hB.drew
      replace h3 : At wdz40 w.heap.size (.cells #[.int .i64 p, .int .i64 n, .int .i64 m, .int .i64 k, .slice (some ⟨a0, 0, none⟩) qs.length c] 31 (0, 0)) := by rw [← hwdz40]; exact h3
      replace h6 : At wdz40 Wz2.heap.size (.cells #[.int .i64 0, .int .i64 0, .int .i64 0, .int .i64 0, .slice none 0 0] 31 (0, 0)) := by rw [← hwdz40]; exact h6
      replace ho : Own wdz40 w.heap.size (.slice (some ⟨g, 0, none⟩) L.length c9) (L) := by rw [← hwdz40]; exact ho.drew
      clear hwdz40
      refine y_yield 0 (some 68) (.slice (some ⟨g, 0, none⟩) L.length c9) rfl (by kernel_rfl) (by kernel_rfl) (by kernel_rfl) (fun _ _ _ h => h) rfl rfl ⟨hB, ho⟩ (fun w' h' => exec_move _ rfl (.slice (some ⟨g, 0, none⟩) L.length c9) rfl) ?_
      go_frame
      refine y_yield 1 (some 69) (.int .i64 I) rfl (by kernel_rfl) (by kernel_rfl) (by kernel_rfl) (fun _ _ _ h => h) rfl rfl ⟨hB, ho⟩ (fun w' h' => exec_move _ rfl (.int .i64 I) rfl) ?_
      go_frame
      refine y_yield 2 (some 70) (.pointer (some ⟨g, I * 27, none⟩)) rfl (by kernel_rfl) (by kernel_rfl) (by kernel_rfl) (fun _ _ _ h => h) rfl rfl ⟨hB, ho⟩ (fun w' h' => exec_ix0 _ 65 _ _ rfl g L.length c9 I 27 rfl rfl Try.underlying29 (by kernel_rfl) (by omega)) ?_
      go_frame
      refine y_yield 3 (some 71) (.agg (u8s (Q))) rfl (by kernel_rfl) (by kernel_rfl) (by kernel_rfl) (fun _ _ _ h => h) rfl rfl ⟨hB, ho⟩ (fun w' h' => exec_load_cells 65 _ rfl g (I * 27) rfl (Q) _ 27 (ownF0 h'.2 HLb.out HQi.out) Try.underlying65 rfl (by kernel_rfl) (HQ.out.len)) ?_
      go_frame
      refine y_yield 5 (some 73) (.slice (some ⟨g, 0, none⟩) L.length c9) rfl (by kernel_rfl) (by kernel_rfl) (by kernel_rfl) (fun _ _ _ h => h) rfl rfl ⟨hB, ho⟩ (fun w' h' => exec_move _ rfl (.slice (some ⟨g, 0, none⟩) L.length c9) rfl) ?_
      go_frame
      refine y_yield 6 (some 74) (.int .i64 J) rfl (by kernel_rfl) (by kernel_rfl) (by kernel_rfl) (fun _ _ _ h => h) rfl rfl ⟨hB, ho⟩ (fun w' h' => exec_move _ rfl (.int .i64 J) rfl) ?_
      go_frame
      refine y_yield 7 (some 75) (.pointer (some ⟨g, J * 27, none⟩)) rfl (by kernel_rfl) (by kernel_rfl) (by kernel_rfl) (fun _ _ _ h => h) rfl rfl ⟨hB, ho⟩ (fun w' h' => exec_ix0 _ 65 _ _ rfl g L.length c9 J 27 rfl rfl Try.underlying29 (by kernel_rfl) (by omega)) ?_
      go_frame
      refine y_yield 8 (some 76) (.agg (u8s (R))) rfl (by kernel_rfl) (by kernel_rfl) (by kernel_rfl) (fun _ _ _ h => h) rfl rfl ⟨hB, ho⟩ (fun w' h' => exec_load_cells 65 _ rfl g (J * 27) rfl (R) _ 27 (ownF0 h'.2 HLb.out HRj.out) Try.underlying65 rfl (by kernel_rfl) (HRb.out.len)) ?_
      go_frame
      refine y_three 4 10 11 (by kernel_rfl) rfl rfl rfl rfl rfl rfl (fun K' hK' => ?_) (fun K' hK' => ?_) (fun K' hK' => ?_)
      ·have lz43 := hB.size
       have lz44 := h3.lt
       have lz45 := h6.lt
       refine wp_call1 (some 72) rfl 45 _ _ rfl (fun args w => by kernel_rfl) _ rfl _ (l10Forms_c Q HQ.out _) (fun e Wz41 h => ?_)
       obtain ⟨rfl, bz42⟩ := h
       replace hB := below_after hB bz42
       replace h3 := h3.after bz42
       replace h6 := h6.after bz42
       replace ho := ho.below bz42
       clear bz42
       refine ⟨_, rfl, ?_⟩
       refine hK' _ _ ⟨hB, ho⟩ (fun _ => trivial) ?_
       clear hK' K'
       go_frame
       refine y_three 9 10 11 (by kernel_rfl) rfl rfl rfl rfl rfl rfl (fun K' hK' => ?_) (fun K' hK' => ?_) (fun K' hK' => ?_)
       ·have lz48 := hB.size
        have lz49 := h3.lt
        have lz50 := h6.lt
        refine wp_call1 (some 77) rfl 45 _ _ rfl (fun args w => by kernel_rfl) _ rfl _ (l10Forms_c R HRb.out _) (fun e Wz46 h => ?_)
        obtain ⟨rfl, bz47⟩ := h
        replace hB := below_after hB bz47
        replace h3 := h3.after bz47
        replace h6 := h6.after bz47
        replace ho := ho.below bz47
        clear bz47
        refine ⟨_, rfl, ?_⟩
        refine hK' _ _ ⟨hB, ho⟩ (fun _ => trivial) ?_
        clear hK' K'
        go_frame
        refine y_two 10 11 (by kernel_rfl) rfl rfl rfl rfl (fun K' hK' => ?_) (fun K' hK' => ?_)
        ·have lz51 := hB.size
         have lz52 := h3.lt
         have lz53 := h6.lt
         have naz58 := ho.away_new
         refine wp_new (some 16) rfl (al__3_impl_Form rfl) (fun Wz54 nnz55 => ?_)
         have bz56 := nnz55.below (Below.refl _ _) (Nat.le_refl _)
         replace hB := below_after hB bz56
         replace h3 := h3.after bz56
         replace h6 := h6.after bz56
         replace ho := ho.below bz56
         have hz57 : At Wz54 Wz46.heap.size (.cells (u8s (List.replicate 27 0)) 71 (0, 0)) := nnz55.at_
         refine hK' _ _ ⟨hB, ho⟩ (fun _ => trivial) ?_
         clear hK' K' nnz55 bz56
         go_frame
         refine y_oper 11 (by kernel_rfl) rfl rfl (fun K' hK' => ?_)
         have lz59 := hB.size
         have lz60 := h3.lt
         have lz61 := h6.lt
         have lz62 := hz57.lt
         have naz67 := ho.away_new
         refine wp_new (some 17) rfl (al__3_impl_Form rfl) (fun Wz63 nnz64 => ?_)
         have bz65 := nnz64.below (Below.refl _ _) (Nat.le_refl _)
         replace hB := below_after hB bz65
         replace h3 := h3.after bz65
         replace h6 := h6.after bz65
         replace ho := ho.below bz65
         replace hz57 := hz57.after bz65
         have hz66 : At Wz63 Wz54.heap.size (.cells (u8s (List.replicate 27 0)) 71 (0, 0)) := nnz64.at_
         refine hK' _ _ ⟨hB, ho⟩ (fun _ => trivial) ?_
         clear hK' K' nnz64 bz65
         go_frame
         refine y_oper 12 (by kernel_rfl) rfl rfl (fun K' hK' => ?_)
         refine wp_store_bytes 71 _ _ rfl rfl Wz46.heap.size rfl (Q) rfl _ _ hz57 27 (by kernel_rfl) HQ.out.len (by simp) (fun Wz68 pz69 => ?_)
         replace hB := pz69.below hB (by omega)
         replace h3 := pz69.other h3 (by omega)
         replace h6 := pz69.other h6 (by omega)
         replace ho := ho.put pz69 naz58
         replace hz66 := pz69.other hz66 (by omega)
         replace hz57 : At Wz68 Wz46.heap.size (.cells (u8s (Q)) 71 (0, 0)) := pz69.at_
         refine hK' _ _ ⟨hB, ho⟩ (fun _ => trivial) ?_
         clear hK' K' pz69
         refine y_oper 13 (by kernel_rfl) rfl rfl (fun K' hK' => ?_)
         refine wp_store_bytes 71 _ _ rfl rfl Wz54.heap.size rfl (R) rfl _ _ hz66 27 (by kernel_rfl) HRb.out.len (by simp) (fun Wz70 pz71 => ?_)
         replace hB := pz71.below hB (by omega)
         replace h3 := pz71.other h3 (by omega)
         replace h6 := pz71.other h6 (by omega)
         replace ho := ho.put pz71 naz67
         replace hz57 := pz71.other hz57 (by omega)
         replace hz66 : At Wz70 Wz54.heap.size (.cells (u8s (R)) 71 (0, 0)) := pz71.at_
         refine hK' _ _ ⟨hB, ho⟩ (fun _ => trivial) ?_
         clear hK' K' pz71
         refine y_done (by kernel_rfl) ?_ _
         go_wp2_with fail
         go_meet
         exact ⟨_, _, rfl, rfl, by omega, ⟨by omega, by omega, by omega, by omega⟩, hB, h3, h6, hz57, hz66, ho⟩
        ·have lz72 := hB.size
         have lz73 := h3.lt
         have lz74 := h6.lt
         have naz79 := ho.away_new
         refine wp_new (some 17) rfl (al__3_impl_Form rfl) (fun Wz75 nnz76 => ?_)
         have bz77 := nnz76.below (Below.refl _ _) (Nat.le_refl _)
         replace hB := below_after hB bz77
         replace h3 := h3.after bz77
         replace h6 := h6.after bz77
         replace ho := ho.below bz77
         have hz78 : At Wz75 Wz46.heap.size (.cells (u8s (List.replicate 27 0)) 71 (0, 0)) := nnz76.at_
         refine hK' _ _ ⟨hB, ho⟩ (fun _ => trivial) ?_
         clear hK' K' nnz76 bz77
         go_frame
         refine y_oper 10 (by kernel_rfl) rfl rfl (fun K' hK' => ?_)
         have lz80 := hB.size
         have lz81 := h3.lt
         have lz82 := h6.lt
         have lz83 := hz78.lt
         have naz88 := ho.away_new
         refine wp_new (some 16) rfl (al__3_impl_Form rfl) (fun Wz84 nnz85 => ?_)
         have bz86 := nnz85.below (Below.refl _ _) (Nat.le_refl _)
         replace hB := below_after hB bz86
         replace h3 := h3.after bz86
         replace h6 := h6.after bz86
         replace ho := ho.below bz86
         replace hz78 := hz78.after bz86
         have hz87 : At Wz84 Wz75.heap.size (.cells (u8s (List.replicate 27 0)) 71 (0, 0)) := nnz85.at_
         refine hK' _ _ ⟨hB, ho⟩ (fun _ => trivial) ?_
         clear hK' K' nnz85 bz86
         go_frame
         refine y_oper 12 (by kernel_rfl) rfl rfl (fun K' hK' => ?_)
         refine wp_store_bytes 71 _ _ rfl rfl Wz75.heap.size rfl (Q) rfl _ _ hz87 27 (by kernel_rfl) HQ.out.len (by simp) (fun Wz89 pz90 => ?_)
         replace hB := pz90.below hB (by omega)
         replace h3 := pz90.other h3 (by omega)
         replace h6 := pz90.other h6 (by omega)
         replace ho := ho.put pz90 naz88
         replace hz78 := pz90.other hz78 (by omega)
         replace hz87 : At Wz89 Wz75.heap.size (.cells (u8s (Q)) 71 (0, 0)) := pz90.at_
         refine hK' _ _ ⟨hB, ho⟩ (fun _ => trivial) ?_
         clear hK' K' pz90
         refine y_oper 13 (by kernel_rfl) rfl rfl (fun K' hK' => ?_)
         refine wp_store_bytes 71 _ _ rfl rfl Wz46.heap.size rfl (R) rfl _ _ hz78 27 (by kernel_rfl) HRb.out.len (by simp) (fun Wz91 pz92 => ?_)
         replace hB := pz92.below hB (by omega)
         replace h3 := pz92.other h3 (by omega)
         replace h6 := pz92.other h6 (by omega)
         replace ho := ho.put pz92 naz79
         replace hz87 := pz92.other hz87 (by omega)
         replace hz78 : At Wz91 Wz46.heap.size (.cells (u8s (R)) 71 (0, 0)) := pz92.at_
         refine hK' _ _ ⟨hB, ho⟩ (fun _ => trivial) ?_
         clear hK' K' pz92
         refine y_done (by kernel_rfl) ?_ _
         go_wp2_with fail
         go_meet
         exact ⟨_, _, rfl, rfl, by omega, ⟨by omega, by omega, by omega, by omega⟩, hB, h3, h6, hz87, hz78, ho⟩
       ·have lz93 := hB.size
        have lz94 := h3.lt
        have lz95 := h6.lt
        have naz100 := ho.away_new
        refine wp_new (some 16) rfl (al__3_impl_Form rfl) (fun Wz96 nnz97 => ?_)
        have bz98 := nnz97.below (Below.refl _ _) (Nat.le_refl _)
        replace hB := below_after hB bz98
        replace h3 := h3.after bz98
        replace h6 := h6.after bz98
        replace ho := ho.below bz98
        have hz99 : At Wz96 Wz41.heap.size (.cells (u8s (List.replicate 27 0)) 71 (0, 0)) := nnz97.at_
        refine hK' _ _ ⟨hB, ho⟩ (fun _ => trivial) ?_
        clear hK' K' nnz97 bz98
        go_frame
        refine y_two 9 11 (by kernel_rfl) rfl rfl rfl rfl (fun K' hK' => ?_) (fun K' hK' => ?_)
        ·have lz103 := hB.size
         have lz104 := h3.lt
         have lz105 := h6.lt
         have lz106 := hz99.lt
         refine wp_call1 (some 77) rfl 45 _ _ rfl (fun args w => by kernel_rfl) _ rfl _ (l10Forms_c R HRb.out _) (fun e Wz101 h => ?_)
         obtain ⟨rfl, bz102⟩ := h
         replace hB := below_after hB bz102
         replace h3 := h3.after bz102
         replace h6 := h6.after bz102
         replace ho := ho.below bz102
         replace hz99 := hz99.after bz102
         clear bz102
         refine ⟨_, rfl, ?_⟩
         refine hK' _ _ ⟨hB, ho⟩ (fun _ => trivial) ?_
         clear hK' K'
         go_frame
         refine y_oper 11 (by kernel_rfl) rfl rfl (fun K' hK' => ?_)
         have lz107 := hB.size
         have lz108 := h3.lt
         have lz109 := h6.lt
         have lz110 := hz99.lt
         have naz115 := ho.away_new
         refine wp_new (some 17) rfl (al__3_impl_Form rfl) (fun Wz111 nnz112 => ?_)
         have bz113 := nnz112.below (Below.refl _ _) (Nat.le_refl _)
         replace hB := below_after hB bz113
         replace h3 := h3.after bz113
         replace h6 := h6.after bz113
         replace ho := ho.below bz113
         replace hz99 := hz99.after bz113
         have hz114 : At Wz111 Wz101.heap.size (.cells (u8s (List.replicate 27 0)) 71 (0, 0)) := nnz112.at_
         refine hK' _ _ ⟨hB, ho⟩ (fun _ => trivial) ?_
         clear hK' K' nnz112 bz113
         go_frame
         refine y_oper 12 (by kernel_rfl) rfl rfl (fun K' hK' => ?_)
         refine wp_store_bytes 71 _ _ rfl rfl Wz41.heap.size rfl (Q) rfl _ _ hz99 27 (by kernel_rfl) HQ.out.len (by simp) (fun Wz116 pz117 => ?_)
         replace hB := pz117.below hB (by omega)
         replace h3 := pz117.other h3 (by omega)
         replace h6 := pz117.other h6 (by omega)
         replace ho := ho.put pz117 naz100
         replace hz114 := pz117.other hz114 (by omega)
         replace hz99 : At Wz116 Wz41.heap.size (.cells (u8s (Q)) 71 (0, 0)) := pz117.at_
         refine hK' _ _ ⟨hB, ho⟩ (fun _ => trivial) ?_
         clear hK' K' pz117
         refine y_oper 13 (by kernel_rfl) rfl rfl (fun K' hK' => ?_)
         refine wp_store_bytes 71 _ _ rfl rfl Wz101.heap.size rfl (R) rfl _ _ hz114 27 (by kernel_rfl) HRb.out.len (by simp) (fun Wz118 pz119 => ?_)
         replace hB := pz119.below hB (by omega)
         replace h3 := pz119.other h3 (by omega)
         replace h6 := pz119.other h6 (by omega)
         replace ho := ho.put pz119 naz115
         replace hz99 := pz119.other hz99 (by omega)
         replace hz114 : At Wz118 Wz101.heap.size (.cells (u8s (R)) 71 (0, 0)) := pz119.at_
         refine hK' _ _ ⟨hB, ho⟩ (fun _ => trivial) ?_
         clear hK' K' pz119
         refine y_done (by kernel_rfl) ?_ _
         go_wp2_with fail
         go_meet
         exact ⟨_, _, rfl, rfl, by omega, ⟨by omega, by omega, by omega, by omega⟩, hB, h3, h6, hz99, hz114, ho⟩
        ·have lz120 := hB.size
         have lz121 := h3.lt
         have lz122 := h6.lt
         have lz123 := hz99.lt
         have naz128 := ho.away_new
         refine wp_new (some 17) rfl (al__3_impl_Form rfl) (fun Wz124 nnz125 => ?_)
         have bz126 := nnz125.below (Below.refl _ _) (Nat.le_refl _)
         replace hB := below_after hB bz126
         replace h3 := h3.after bz126
         replace h6 := h6.after bz126
         replace ho := ho.below bz126
         replace hz99 := hz99.after bz126
         have hz127 : At Wz124 Wz96.heap.size (.cells (u8s (List.replicate 27 0)) 71 (0, 0)) := nnz125.at_
         refine hK' _ _ ⟨hB, ho⟩ (fun _ => trivial) ?_
         clear hK' K' nnz125 bz126
         go_frame
         refine y_oper 9 (by kernel_rfl) rfl rfl (fun K' hK' => ?_)
         have lz131 := hB.size
         have lz132 := h3.lt
         have lz133 := h6.lt
         have lz134 := hz99.lt
         have lz135 := hz127.lt
         refine wp_call1 (some 77) rfl 45 _ _ rfl (fun args w => by kernel_rfl) _ rfl _ (l10Forms_c R HRb.out _) (fun e Wz129 h => ?_)
         obtain ⟨rfl, bz130⟩ := h
         replace hB := below_after hB bz130
         replace h3 := h3.after bz130
         replace h6 := h6.after bz130
         replace ho := ho.below bz130
         replace hz99 := hz99.after bz130
         replace hz127 := hz127.after bz130
         clear bz130
         refine ⟨_, rfl, ?_⟩
         refine hK' _ _ ⟨hB, ho⟩ (fun _ => trivial) ?_
         clear hK' K'
         go_frame
         refine y_oper 12 (by kernel_rfl) rfl rfl (fun K' hK' => ?_)
         refine wp_store_bytes 71 _ _ rfl rfl Wz41.heap.size rfl (Q) rfl _ _ hz99 27 (by kernel_rfl) HQ.out.len (by simp) (fun Wz136 pz137 => ?_)
         replace hB := pz137.below hB (by omega)
         replace h3 := pz137.other h3 (by omega)
         replace h6 := pz137.other h6 (by omega)
         replace ho := ho.put pz137 naz100
         replace hz127 := pz137.other hz127 (by omega)
         replace hz99 : At Wz136 Wz41.heap.size (.cells (u8s (Q)) 71 (0, 0)) := pz137.at_
         refine hK' _ _ ⟨hB, ho⟩ (fun _ => trivial) ?_
         clear hK' K' pz137
         refine y_oper 13 (by kernel_rfl) rfl rfl (fun K' hK' => ?_)
         refine wp_store_bytes 71 _ _ rfl rfl Wz96.heap.size rfl (R) rfl _ _ hz127 27 (by kernel_rfl) HRb.out.len (by simp) (fun Wz138 pz139 => ?_)
         replace hB := pz139.below hB (by omega)
         replace h3 := pz139.other h3 (by omega)
         replace h6 := pz139.other h6 (by omega)
         replace ho := ho.put pz139 naz128
         replace hz99 := pz139.other hz99 (by omega)
         replace hz127 : At Wz138 Wz96.heap.size (.cells (u8s (R)) 71 (0, 0)) := pz139.at_
         refine hK' _ _ ⟨hB, ho⟩ (fun _ => trivial) ?_
         clear hK' K' pz139
         refine y_done (by kernel_rfl) ?_ _
         go_wp2_with fail
         go_meet
         exact ⟨_, _, rfl, rfl, by omega, ⟨by omega, by omega, by omega, by omega⟩, hB, h3, h6, hz99, hz127, ho⟩
       ·have lz140 := hB.size
        have lz141 := h3.lt
        have lz142 := h6.lt
        have naz147 := ho.away_new
        refine wp_new (some 17) rfl (al__3_impl_Form rfl) (fun Wz143 nnz144 => ?_)
        have bz145 := nnz144.below (Below.refl _ _) (Nat.le_refl _)
        replace hB := below_after hB bz145
        replace h3 := h3.after bz145
        replace h6 := h6.after bz145
        replace ho := ho.below bz145
        have hz146 : At Wz143 Wz41.heap.size (.cells (u8s (List.replicate 27 0)) 71 (0, 0)) := nnz144.at_
        refine hK' _ _ ⟨hB, ho⟩ (fun _ => trivial) ?_
        clear hK' K' nnz144 bz145
        go_frame
        refine y_two 9 10 (by kernel_rfl) rfl rfl rfl rfl (fun K' hK' => ?_) (fun K' hK' => ?_)
        ·have lz150 := hB.size
         have lz151 := h3.lt
         have lz152 := h6.lt
         have lz153 := hz146.lt
         refine wp_call1 (some 77) rfl 45 _ _ rfl (fun args w => by kernel_rfl) _ rfl _ (l10Forms_c R HRb.out _) (fun e Wz148 h => ?_)
         obtain ⟨rfl, bz149⟩ := h
         replace hB := below_after hB bz149
         replace h3 := h3.after bz149
         replace h6 := h6.after bz149
         replace ho := ho.below bz149
         replace hz146 := hz146.after bz149
         clear bz149
         refine ⟨_, rfl, ?_⟩
         refine hK' _ _ ⟨hB, ho⟩ (fun _ => trivial) ?_
         clear hK' K'
         go_frame
         refine y_oper 10 (by kernel_rfl) rfl rfl (fun K' hK' => ?_)
         have lz154 := hB.size
         have lz155 := h3.lt
         have lz156 := h6.lt
         have lz157 := hz146.lt
         have naz162 := ho.away_new
         refine wp_new (some 16) rfl (al__3_impl_Form rfl) (fun Wz158 nnz159 => ?_)
         have bz160 := nnz159.below (Below.refl _ _) (Nat.le_refl _)
         replace hB := below_after hB bz160
         replace h3 := h3.after bz160
         replace h6 := h6.after bz160
         replace ho := ho.below bz160
         replace hz146 := hz146.after bz160
         have hz161 : At Wz158 Wz148.heap.size (.cells (u8s (List.replicate 27 0)) 71 (0, 0)) := nnz159.at_
         refine hK' _ _ ⟨hB, ho⟩ (fun _ => trivial) ?_
         clear hK' K' nnz159 bz160
         go_frame
         refine y_oper 12 (by kernel_rfl) rfl rfl (fun K' hK' => ?_)
         refine wp_store_bytes 71 _ _ rfl rfl Wz148.heap.size rfl (Q) rfl _ _ hz161 27 (by kernel_rfl) HQ.out.len (by simp) (fun Wz163 pz164 => ?_)
         replace hB := pz164.below hB (by omega)
         replace h3 := pz164.other h3 (by omega)
         replace h6 := pz164.other h6 (by omega)
         replace ho := ho.put pz164 naz162
         replace hz146 := pz164.other hz146 (by omega)
         replace hz161 : At Wz163 Wz148.heap.size (.cells (u8s (Q)) 71 (0, 0)) := pz164.at_
         refine hK' _ _ ⟨hB, ho⟩ (fun _ => trivial) ?_
         clear hK' K' pz164
         refine y_oper 13 (by kernel_rfl) rfl rfl (fun K' hK' => ?_)
         refine wp_store_bytes 71 _ _ rfl rfl Wz41.heap.size rfl (R) rfl _ _ hz146 27 (by kernel_rfl) HRb.out.len (by simp) (fun Wz165 pz166 => ?_)
         replace hB := pz166.below hB (by omega)
         replace h3 := pz166.other h3 (by omega)
         replace h6 := pz166.other h6 (by omega)
         replace ho := ho.put pz166 naz147
         replace hz161 := pz166.other hz161 (by omega)
         replace hz146 : At Wz165 Wz41.heap.size (.cells (u8s (R)) 71 (0, 0)) := pz166.at_
         refine hK' _ _ ⟨hB, ho⟩ (fun _ => trivial) ?_
         clear hK' K' pz166
         refine y_done (by kernel_rfl) ?_ _
         go_wp2_with fail
         go_meet
         exact ⟨_, _, rfl, rfl, by omega, ⟨by omega, by omega, by omega, by omega⟩, hB, h3, h6, hz161, hz146, ho⟩
        ·have lz167 := hB.size
         have lz168 := h3.lt
         have lz169 := h6.lt
         have lz170 := hz146.lt
         have naz175 := ho.away_new
         refine wp_new (some 16) rfl (al__3_impl_Form rfl) (fun Wz171 nnz172 => ?_)
         have bz173 := nnz172.below (Below.refl _ _) (Nat.le_refl _)
         replace hB := below_after hB bz173
         replace h3 := h3.after bz173
         replace h6 := h6.after bz173
         replace ho := ho.below bz173
         replace hz146 := hz146.after bz173
         have hz174 : At Wz171 Wz143.heap.size (.cells (u8s (List.replicate 27 0)) 71 (0, 0)) := nnz172.at_
         refine hK' _ _ ⟨hB, ho⟩ (fun _ => trivial) ?_
         clear hK' K' nnz172 bz173
         go_frame
         refine y_oper 9 (by kernel_rfl) rfl rfl (fun K' hK' => ?_)
         have lz178 := hB.size
         have lz179 := h3.lt
         have lz180 := h6.lt
         have lz181 := hz146.lt
         have lz182 := hz174.lt
         refine wp_call1 (some 77) rfl 45 _ _ rfl (fun args w => by kernel_rfl) _ rfl _ (l10Forms_c R HRb.out _) (fun e Wz176 h => ?_)
         obtain ⟨rfl, bz177⟩ := h
         replace hB := below_after hB bz177
         replace h3 := h3.after bz177
         replace h6 := h6.after bz177
         replace ho := ho.below bz177
         replace hz146 := hz146.after bz177
         replace hz174 := hz174.after bz177
         clear bz177
         refine ⟨_, rfl, ?_⟩
         refine hK' _ _ ⟨hB, ho⟩ (fun _ => trivial) ?_
         clear hK' K'
         go_frame
         refine y_oper 12 (by kernel_rfl) rfl rfl (fun K' hK' => ?_)
         refine wp_store_bytes 71 _ _ rfl rfl Wz143.heap.size rfl (Q) rfl _ _ hz174 27 (by kernel_rfl) HQ.out.len (by simp) (fun Wz183 pz184 => ?_)
         replace hB := pz184.below hB (by omega)
         replace h3 := pz184.other h3 (by omega)
         replace h6 := pz184.other h6 (by omega)
         replace ho := ho.put pz184 naz175
         replace hz146 := pz184.other hz146 (by omega)
         replace hz174 : At Wz183 Wz143.heap.size (.cells (u8s (Q)) 71 (0, 0)) := pz184.at_
         refine hK' _ _ ⟨hB, ho⟩ (fun _ => trivial) ?_
         clear hK' K' pz184
         refine y_oper 13 (by kernel_rfl) rfl rfl (fun K' hK' => ?_)
         refine wp_store_bytes 71 _ _ rfl rfl Wz41.heap.size rfl (R) rfl _ _ hz146 27 (by kernel_rfl) HRb.out.len (by simp) (fun Wz185 pz186 => ?_)
         replace hB := pz186.below hB (by omega)
         replace h3 := pz186.other h3 (by omega)
         replace h6 := pz186.other h6 (by omega)
         replace ho := ho.put pz186 naz147
         replace hz174 := pz186.other hz174 (by omega)
         replace hz146 : At Wz185 Wz41.heap.size (.cells (u8s (R)) 71 (0, 0)) := pz186.at_
         refine hK' _ _ ⟨hB, ho⟩ (fun _ => trivial) ?_
         clear hK' K' pz186
         refine y_done (by kernel_rfl) ?_ _
         go_wp2_with fail
         go_meet
         exact ⟨_, _, rfl, rfl, by omega, ⟨by omega, by omega, by omega, by omega⟩, hB, h3, h6, hz174, hz146, ho⟩
      ·have lz187 := hB.size
       have lz188 := h3.lt
       have lz189 := h6.lt
       have naz194 := ho.away_new
       refine wp_new (some 16) rfl (al__3_impl_Form rfl) (fun Wz190 nnz191 => ?_)
       have bz192 := nnz191.below (Below.refl _ _) (Nat.le_refl _)
       replace hB := below_after hB bz192
       replace h3 := h3.after bz192
       replace h6 := h6.after bz192
       replace ho := ho.below bz192
       have hz193 : At Wz190 wdz40.heap.size (.cells (u8s (List.replicate 27 0)) 71 (0, 0)) := nnz191.at_
       refine hK' _ _ ⟨hB, ho⟩ (fun _ => trivial) ?_
       clear hK' K' nnz191 bz192
       go_frame
       refine y_two 4 11 (by kernel_rfl) rfl rfl rfl rfl (fun K' hK' => ?_) (fun K' hK' => ?_)
       ·have lz197 := hB.size
        have lz198 := h3.lt
        have lz199 := h6.lt
        have lz200 := hz193.lt
        refine wp_call1 (some 72) rfl 45 _ _ rfl (fun args w => by kernel_rfl) _ rfl _ (l10Forms_c Q HQ.out _) (fun e Wz195 h => ?_)
        obtain ⟨rfl, bz196⟩ := h
        replace hB := below_after hB bz196
        replace h3 := h3.after bz196
        replace h6 := h6.after bz196
        replace ho := ho.below bz196
        replace hz193 := hz193.after bz196
        clear bz196
        refine ⟨_, rfl, ?_⟩
        refine hK' _ _ ⟨hB, ho⟩ (fun _ => trivial) ?_
        clear hK' K'
        go_frame
        refine y_two 9 11 (by kernel_rfl) rfl rfl rfl rfl (fun K' hK' => ?_) (fun K' hK' => ?_)
        ·have lz203 := hB.size
         have lz204 := h3.lt
         have lz205 := h6.lt
         have lz206 := hz193.lt
         refine wp_call1 (some 77) rfl 45 _ _ rfl (fun args w => by kernel_rfl) _ rfl _ (l10Forms_c R HRb.out _) (fun e Wz201 h => ?_)
         obtain ⟨rfl, bz202⟩ := h
         replace hB := below_after hB bz202
         replace h3 := h3.after bz202
         replace h6 := h6.after bz202
         replace ho := ho.below bz202
         replace hz193 := hz193.after bz202
         clear bz202
         refine ⟨_, rfl, ?_⟩
         refine hK' _ _ ⟨hB, ho⟩ (fun _ => trivial) ?_
         clear hK' K'
         go_frame
         refine y_oper 11 (by kernel_rfl) rfl rfl (fun K' hK' => ?_)
         have lz207 := hB.size
         have lz208 := h3.lt
         have lz209 := h6.lt
         have lz210 := hz193.lt
         have naz215 := ho.away_new
         refine wp_new (some 17) rfl (al__3_impl_Form rfl) (fun Wz211 nnz212 => ?_)
         have bz213 := nnz212.below (Below.refl _ _) (Nat.le_refl _)
         replace hB := below_after hB bz213
         replace h3 := h3.after bz213
         replace h6 := h6.after bz213
         replace ho := ho.below bz213
         replace hz193 := hz193.after bz213
         have hz214 : At Wz211 Wz201.heap.size (.cells (u8s (List.replicate 27 0)) 71 (0, 0)) := nnz212.at_
         refine hK' _ _ ⟨hB, ho⟩ (fun _ => trivial) ?_
         clear hK' K' nnz212 bz213
         go_frame
         refine y_oper 12 (by kernel_rfl) rfl rfl (fun K' hK' => ?_)
         refine wp_store_bytes 71 _ _ rfl rfl wdz40.heap.size rfl (Q) rfl _ _ hz193 27 (by kernel_rfl) HQ.out.len (by simp) (fun Wz216 pz217 => ?_)
         replace hB := pz217.below hB (by omega)
         replace h3 := pz217.other h3 (by omega)
         replace h6 := pz217.other h6 (by omega)
         replace ho := ho.put pz217 naz194
         replace hz214 := pz217.other hz214 (by omega)
         replace hz193 : At Wz216 wdz40.heap.size (.cells (u8s (Q)) 71 (0, 0)) := pz217.at_
         refine hK' _ _ ⟨hB, ho⟩ (fun _ => trivial) ?_
         clear hK' K' pz217
         refine y_oper 13 (by kernel_rfl) rfl rfl (fun K' hK' => ?_)
         refine wp_store_bytes 71 _ _ rfl rfl Wz201.heap.size rfl (R) rfl _ _ hz214 27 (by kernel_rfl) HRb.out.len (by simp) (fun Wz218 pz219 => ?_)
         replace hB := pz219.below hB (by omega)
         replace h3 := pz219.other h3 (by omega)
         replace h6 := pz219.other h6 (by omega)
         replace ho := ho.put pz219 naz215
         replace hz193 := pz219.other hz193 (by omega)
         replace hz214 : At Wz218 Wz201.heap.size (.cells (u8s (R)) 71 (0, 0)) := pz219.at_
         refine hK' _ _ ⟨hB, ho⟩ (fun _ => trivial) ?_
         clear hK' K' pz219
         refine y_done (by kernel_rfl) ?_ _
         go_wp2_with fail
         go_meet
         exact ⟨_, _, rfl, rfl, by omega, ⟨by omega, by omega, by omega, by omega⟩, hB, h3, h6, hz193, hz214, ho⟩
        ·have lz220 := hB.size
         have lz221 := h3.lt
         have lz222 := h6.lt
         have lz223 := hz193.lt
         have naz228 := ho.away_new
         refine wp_new (some 17) rfl (al__3_impl_Form rfl) (fun Wz224 nnz225 => ?_)
         have bz226 := nnz225.below (Below.refl _ _) (Nat.le_refl _)
         replace hB := below_after hB bz226
         replace h3 := h3.after bz226
         replace h6 := h6.after bz226
         replace ho := ho.below bz226
         replace hz193 := hz193.after bz226
         have hz227 : At Wz224 Wz195.heap.size (.cells (u8s (List.replicate 27 0)) 71 (0, 0)) := nnz225.at_
         refine hK' _ _ ⟨hB, ho⟩ (fun _ => trivial) ?_
         clear hK' K' nnz225 bz226
         go_frame
         refine y_oper 9 (by kernel_rfl) rfl rfl (fun K' hK' => ?_)
         have lz231 := hB.size
         have lz232 := h3.lt
         have lz233 := h6.lt
         have lz234 := hz193.lt
         have lz235 := hz227.lt
         refine wp_call1 (some 77) rfl 45 _ _ rfl (fun args w => by kernel_rfl) _ rfl _ (l10Forms_c R HRb.out _) (fun e Wz229 h => ?_)
         obtain ⟨rfl, bz230⟩ := h
         replace hB := below_after hB bz230
         replace h3 := h3.after bz230
         replace h6 := h6.after bz230
         replace ho := ho.below bz230
         replace hz193 := hz193.after bz230
         replace hz227 := hz227.after bz230
         clear bz230
         refine ⟨_, rfl, ?_⟩
         refine hK' _ _ ⟨hB, ho⟩ (fun _ => trivial) ?_
         clear hK' K'
         go_frame
         refine y_oper 12 (by kernel_rfl) rfl rfl (fun K' hK' => ?_)
         refine wp_store_bytes 71 _ _ rfl rfl wdz40.heap.size rfl (Q) rfl _ _ hz193 27 (by kernel_rfl) HQ.out.len (by simp) (fun Wz236 pz237 => ?_)
         replace hB := pz237.below hB (by omega)
         replace h3 := pz237.other h3 (by omega)
         replace h6 := pz237.other h6 (by omega)
         replace ho := ho.put pz237 naz194
         replace hz227 := pz237.other hz227 (by omega)
         replace hz193 : At Wz236 wdz40.heap.size (.cells (u8s (Q)) 71 (0, 0)) := pz237.at_
         refine hK' _ _ ⟨hB, ho⟩ (fun _ => trivial) ?_
         clear hK' K' pz237
         refine y_oper 13 (by kernel_rfl) rfl rfl (fun K' hK' => ?_)
         refine wp_store_bytes 71 _ _ rfl rfl Wz195.heap.size rfl (R) rfl _ _ hz227 27 (by kernel_rfl) HRb.out.len (by simp) (fun Wz238 pz239 => ?_)
         replace hB := pz239.below hB (by omega)
         replace h3 := pz239.other h3 (by omega)
         replace h6 := pz239.other h6 (by omega)
         replace ho := ho.put pz239 naz228
         replace hz193 := pz239.other hz193 (by omega)
         replace hz227 : At Wz238 Wz195.heap.size (.cells (u8s (R)) 71 (0, 0)) := pz239.at_
         refine hK' _ _ ⟨hB, ho⟩ (fun _ => trivial) ?_
         clear hK' K' pz239
         refine y_done (by kernel_rfl) ?_ _
         go_wp2_with fail
         go_meet
         exact ⟨_, _, rfl, rfl, by omega, ⟨by omega, by omega, by omega, by omega⟩, hB, h3, h6, hz193, hz227, ho⟩
       ·have lz240 := hB.size
        have lz241 := h3.lt
        have lz242 := h6.lt
        have lz243 := hz193.lt
        have naz248 := ho.away_new
        refine wp_new (some 17) rfl (al__3_impl_Form rfl) (fun Wz244 nnz245 => ?_)
        have bz246 := nnz245.below (Below.refl _ _) (Nat.le_refl _)
        replace hB := below_after hB bz246
        replace h3 := h3.after bz246
        replace h6 := h6.after bz246
        replace ho := ho.below bz246
        replace hz193 := hz193.after bz246
        have hz247 : At Wz244 Wz190.heap.size (.cells (u8s (List.replicate 27 0)) 71 (0, 0)) := nnz245.at_
        refine hK' _ _ ⟨hB, ho⟩ (fun _ => trivial) ?_
        clear hK' K' nnz245 bz246
        go_frame
        refine y_oper 4 (by kernel_rfl) rfl rfl (fun K' hK' => ?_)
        have lz251 := hB.size
        have lz252 := h3.lt
        have lz253 := h6.lt
        have lz254 := hz193.lt
        have lz255 := hz247.lt
        refine wp_call1 (some 72) rfl 45 _ _ rfl (fun args w => by kernel_rfl) _ rfl _ (l10Forms_c Q HQ.out _) (fun e Wz249 h => ?_)
        obtain ⟨rfl, bz250⟩ := h
        replace hB := below_after hB bz250
        replace h3 := h3.after bz250
        replace h6 := h6.after bz250
        replace ho := ho.below bz250
        replace hz193 := hz193.after bz250
        replace hz247 := hz247.after bz250
        clear bz250
        refine ⟨_, rfl, ?_⟩
        refine hK' _ _ ⟨hB, ho⟩ (fun _ => trivial) ?_
        clear hK' K'
        go_frame
        refine y_oper 9 (by kernel_rfl) rfl rfl (fun K' hK' => ?_)
        have lz258 := hB.size
        have lz259 := h3.lt
        have lz260 := h6.lt
        have lz261 := hz193.lt
        have lz262 := hz247.lt
        refine wp_call1 (some 77) rfl 45 _ _ rfl (fun args w => by kernel_rfl) _ rfl _ (l10Forms_c R HRb.out _) (fun e Wz256 h => ?_)
        obtain ⟨rfl, bz257⟩ := h
        replace hB := below_after hB bz257
        replace h3 := h3.after bz257
        replace h6 := h6.after bz257
        replace ho := ho.below bz257
        replace hz193 := hz193.after bz257
        replace hz247 := hz247.after bz257
        clear bz257
        refine ⟨_, rfl, ?_⟩
        refine hK' _ _ ⟨hB, ho⟩ (fun _ => trivial) ?_
        clear hK' K'
        go_frame
        refine y_oper 12 (by kernel_rfl) rfl rfl (fun K' hK' => ?_)
        refine wp_store_bytes 71 _ _ rfl rfl wdz40.heap.size rfl (Q) rfl _ _ hz193 27 (by kernel_rfl) HQ.out.len (by simp) (fun Wz263 pz264 => ?_)
        replace hB := pz264.below hB (by omega)
        replace h3 := pz264.other h3 (by omega)
        replace h6 := pz264.other h6 (by omega)
        replace ho := ho.put pz264 naz194
        replace hz247 := pz264.other hz247 (by omega)
        replace hz193 : At Wz263 wdz40.heap.size (.cells (u8s (Q)) 71 (0, 0)) := pz264.at_
        refine hK' _ _ ⟨hB, ho⟩ (fun _ => trivial) ?_
        clear hK' K' pz264
        refine y_oper 13 (by kernel_rfl) rfl rfl (fun K' hK' => ?_)
        refine wp_store_bytes 71 _ _ rfl rfl Wz190.heap.size rfl (R) rfl _ _ hz247 27 (by kernel_rfl) HRb.out.len (by simp) (fun Wz265 pz266 => ?_)
        replace hB := pz266.below hB (by omega)
        replace h3 := pz266.other h3 (by omega)
        replace h6 := pz266.other h6 (by omega)
        replace ho := ho.put pz266 naz248
        replace hz193 := pz266.other hz193 (by omega)
        replace hz247 : At Wz265 Wz190.heap.size (.cells (u8s (R)) 71 (0, 0)) := pz266.at_
        refine hK' _ _ ⟨hB, ho⟩ (fun _ => trivial) ?_
        clear hK' K' pz266
        refine y_done (by kernel_rfl) ?_ _
        go_wp2_with fail
        go_meet
        exact ⟨_, _, rfl, rfl, by omega, ⟨by omega, by omega, by omega, by omega⟩, hB, h3, h6, hz193, hz247, ho⟩
      ·have lz267 := hB.size
       have lz268 := h3.lt
       have lz269 := h6.lt
       have naz274 := ho.away_new
       refine wp_new (some 17) rfl (al__3_impl_Form rfl) (fun Wz270 nnz271 => ?_)
       have bz272 := nnz271.below (Below.refl _ _) (Nat.le_refl _)
       replace hB := below_after hB bz272
       replace h3 := h3.after bz272
       replace h6 := h6.after bz272
       replace ho := ho.below bz272
       have hz273 : At Wz270 wdz40.heap.size (.cells (u8s (List.replicate 27 0)) 71 (0, 0)) := nnz271.at_
       refine hK' _ _ ⟨hB, ho⟩ (fun _ => trivial) ?_
       clear hK' K' nnz271 bz272
       go_frame
       refine y_two 4 10 (by kernel_rfl) rfl rfl rfl rfl (fun K' hK' => ?_) (fun K' hK' => ?_)
       ·have lz277 := hB.size
        have lz278 := h3.lt
        have lz279 := h6.lt
        have lz280 := hz273.lt
        refine wp_call1 (some 72) rfl 45 _ _ rfl (fun args w => by kernel_rfl) _ rfl _ (l10Forms_c Q HQ.out _) (fun e Wz275 h => ?_)
        obtain ⟨rfl, bz276⟩ := h
        replace hB := below_after hB bz276
        replace h3 := h3.after bz276
        replace h6 := h6.after bz276
        replace ho := ho.below bz276
        replace hz273 := hz273.after bz276
        clear bz276
        refine ⟨_, rfl, ?_⟩
        refine hK' _ _ ⟨hB, ho⟩ (fun _ => trivial) ?_
        clear hK' K'
        go_frame
        refine y_two 9 10 (by kernel_rfl) rfl rfl rfl rfl (fun K' hK' => ?_) (fun K' hK' => ?_)
        ·have lz283 := hB.size
         have lz284 := h3.lt
         have lz285 := h6.lt
         have lz286 := hz273.lt
         refine wp_call1 (some 77) rfl 45 _ _ rfl (fun args w => by kernel_rfl) _ rfl _ (l10Forms_c R HRb.out _) (fun e Wz281 h => ?_)
         obtain ⟨rfl, bz282⟩ := h
         replace hB := below_after hB bz282
         replace h3 := h3.after bz282
         replace h6 := h6.after bz282
         replace ho := ho.below bz282
         replace hz273 := hz273.after bz282
         clear bz282
         refine ⟨_, rfl, ?_⟩
         refine hK' _ _ ⟨hB, ho⟩ (fun _ => trivial) ?_
         clear hK' K'
         go_frame
         refine y_oper 10 (by kernel_rfl) rfl rfl (fun K' hK' => ?_)
         have lz287 := hB.size
         have lz288 := h3.lt
         have lz289 := h6.lt
         have lz290 := hz273.lt
         have naz295 := ho.away_new
         refine wp_new (some 16) rfl (al__3_impl_Form rfl) (fun Wz291 nnz292 => ?_)
         have bz293 := nnz292.below (Below.refl _ _) (Nat.le_refl _)
         replace hB := below_after hB bz293
         replace h3 := h3.after bz293
         replace h6 := h6.after bz293
         replace ho := ho.below bz293
         replace hz273 := hz273.after bz293
         have hz294 : At Wz291 Wz281.heap.size (.cells (u8s (List.replicate 27 0)) 71 (0, 0)) := nnz292.at_
         refine hK' _ _ ⟨hB, ho⟩ (fun _ => trivial) ?_
         clear hK' K' nnz292 bz293
         go_frame
         refine y_oper 12 (by kernel_rfl) rfl rfl (fun K' hK' => ?_)
         refine wp_store_bytes 71 _ _ rfl rfl Wz281.heap.size rfl (Q) rfl _ _ hz294 27 (by kernel_rfl) HQ.out.len (by simp) (fun Wz296 pz297 => ?_)
         replace hB := pz297.below hB (by omega)
         replace h3 := pz297.other h3 (by omega)
         replace h6 := pz297.other h6 (by omega)
         replace ho := ho.put pz297 naz295
         replace hz273 := pz297.other hz273 (by omega)
         replace hz294 : At Wz296 Wz281.heap.size (.cells (u8s (Q)) 71 (0, 0)) := pz297.at_
         refine hK' _ _ ⟨hB, ho⟩ (fun _ => trivial) ?_
         clear hK' K' pz297
         refine y_oper 13 (by kernel_rfl) rfl rfl (fun K' hK' => ?_)
         refine wp_store_bytes 71 _ _ rfl rfl wdz40.heap.size rfl (R) rfl _ _ hz273 27 (by kernel_rfl) HRb.out.len (by simp) (fun Wz298 pz299 => ?_)
         replace hB := pz299.below hB (by omega)
         replace h3 := pz299.other h3 (by omega)
         replace h6 := pz299.other h6 (by omega)
         replace ho := ho.put pz299 naz274
         replace hz294 := pz299.other hz294 (by omega)
         replace hz273 : At Wz298 wdz40.heap.size (.cells (u8s (R)) 71 (0, 0)) := pz299.at_
         refine hK' _ _ ⟨hB, ho⟩ (fun _ => trivial) ?_
         clear hK' K' pz299
         refine y_done (by kernel_rfl) ?_ _
         go_wp2_with fail
         go_meet
         exact ⟨_, _, rfl, rfl, by omega, ⟨by omega, by omega, by omega, by omega⟩, hB, h3, h6, hz294, hz273, ho⟩
        ·have lz300 := hB.size
         have lz301 := h3.lt
         have lz302 := h6.lt
         have lz303 := hz273.lt
         have naz308 := ho.away_new
         refine wp_new (some 16) rfl (al__3_impl_Form rfl) (fun Wz304 nnz305 => ?_)
         have bz306 := nnz305.below (Below.refl _ _) (Nat.le_refl _)
         replace hB := below_after hB bz306
         replace h3 := h3.after bz306
         replace h6 := h6.after bz306
         replace ho := ho.below bz306
         replace hz273 := hz273.after bz306
         have hz307 : At Wz304 Wz275.heap.size (.cells (u8s (List.replicate 27 0)) 71 (0, 0)) := nnz305.at_
         refine hK' _ _ ⟨hB, ho⟩ (fun _ => trivial) ?_
         clear hK' K' nnz305 bz306
         go_frame
         refine y_oper 9 (by kernel_rfl) rfl rfl (fun K' hK' => ?_)
         have lz311 := hB.size
         have lz312 := h3.lt
         have lz313 := h6.lt
         have lz314 := hz273.lt
         have lz315 := hz307.lt
         refine wp_call1 (some 77) rfl 45 _ _ rfl (fun args w => by kernel_rfl) _ rfl _ (l10Forms_c R HRb.out _) (fun e Wz309 h => ?_)
         obtain ⟨rfl, bz310⟩ := h
         replace hB := below_after hB bz310
         replace h3 := h3.after bz310
         replace h6 := h6.after bz310
         replace ho := ho.below bz310
         replace hz273 := hz273.after bz310
         replace hz307 := hz307.after bz310
         clear bz310
         refine ⟨_, rfl, ?_⟩
         refine hK' _ _ ⟨hB, ho⟩ (fun _ => trivial) ?_
         clear hK' K'
         go_frame
         refine y_oper 12 (by kernel_rfl) rfl rfl (fun K' hK' => ?_)
         refine wp_store_bytes 71 _ _ rfl rfl Wz275.heap.size rfl (Q) rfl _ _ hz307 27 (by kernel_rfl) HQ.out.len (by simp) (fun Wz316 pz317 => ?_)
         replace hB := pz317.below hB (by omega)
         replace h3 := pz317.other h3 (by omega)
         replace h6 := pz317.other h6 (by omega)
         replace ho := ho.put pz317 naz308
         replace hz273 := pz317.other hz273 (by omega)
         replace hz307 : At Wz316 Wz275.heap.size (.cells (u8s (Q)) 71 (0, 0)) := pz317.at_
         refine hK' _ _ ⟨hB, ho⟩ (fun _ => trivial) ?_
         clear hK' K' pz317
         refine y_oper 13 (by kernel_rfl) rfl rfl (fun K' hK' => ?_)
         refine wp_store_bytes 71 _ _ rfl rfl wdz40.heap.size rfl (R) rfl _ _ hz273 27 (by kernel_rfl) HRb.out.len (by simp) (fun Wz318 pz319 => ?_)
         replace hB := pz319.below hB (by omega)
         replace h3 := pz319.other h3 (by omega)
         replace h6 := pz319.other h6 (by omega)
         replace ho := ho.put pz319 naz274
         replace hz307 := pz319.other hz307 (by omega)
         replace hz273 : At Wz318 wdz40.heap.size (.cells (u8s (R)) 71 (0, 0)) := pz319.at_
         refine hK' _ _ ⟨hB, ho⟩ (fun _ => trivial) ?_
         clear hK' K' pz319
         refine y_done (by kernel_rfl) ?_ _
         go_wp2_with fail
         go_meet
         exact ⟨_, _, rfl, rfl, by omega, ⟨by omega, by omega, by omega, by omega⟩, hB, h3, h6, hz307, hz273, ho⟩
       ·have lz320 := hB.size
        have lz321 := h3.lt
        have lz322 := h6.lt
        have lz323 := hz273.lt
        have naz328 := ho.away_new
        refine wp_new (some 16) rfl (al__3_impl_Form rfl) (fun Wz324 nnz325 => ?_)
        have bz326 := nnz325.below (Below.refl _ _) (Nat.le_refl _)
        replace hB := below_after hB bz326
        replace h3 := h3.after bz326
        replace h6 := h6.after bz326
        replace ho := ho.below bz326
        replace hz273 := hz273.after bz326
        have hz327 : At Wz324 Wz270.heap.size (.cells (u8s (List.replicate 27 0)) 71 (0, 0)) := nnz325.at_
        refine hK' _ _ ⟨hB, ho⟩ (fun _ => trivial) ?_
        clear hK' K' nnz325 bz326
        go_frame
        refine y_oper 4 (by kernel_rfl) rfl rfl (fun K' hK' => ?_)
        have lz331 := hB.size
        have lz332 := h3.lt
        have lz333 := h6.lt
        have lz334 := hz273.lt
        have lz335 := hz327.lt
        refine wp_call1 (some 72) rfl 45 _ _ rfl (fun args w => by kernel_rfl) _ rfl _ (l10Forms_c Q HQ.out _) (fun e Wz329 h => ?_)
        obtain ⟨rfl, bz330⟩ := h
        replace hB := below_after hB bz330
        replace h3 := h3.after bz330
        replace h6 := h6.after bz330
        replace ho := ho.below bz330
        replace hz273 := hz273.after bz330
        replace hz327 := hz327.after bz330
        clear bz330
        refine ⟨_, rfl, ?_⟩
        refine hK' _ _ ⟨hB, ho⟩ (fun _ => trivial) ?_
        clear hK' K'
        go_frame
        refine y_oper 9 (by kernel_rfl) rfl rfl (fun K' hK' => ?_)
        have lz338 := hB.size
        have lz339 := h3.lt
        have lz340 := h6.lt
        have lz341 := hz273.lt
        have lz342 := hz327.lt
        refine wp_call1 (some 77) rfl 45 _ _ rfl (fun args w => by kernel_rfl) _ rfl _ (l10Forms_c R HRb.out _) (fun e Wz336 h => ?_)
        obtain ⟨rfl, bz337⟩ := h
        replace hB := below_after hB bz337
        replace h3 := h3.after bz337
        replace h6 := h6.after bz337
        replace ho := ho.below bz337
        replace hz273 := hz273.after bz337
        replace hz327 := hz327.after bz337
        clear bz337
        refine ⟨_, rfl, ?_⟩
        refine hK' _ _ ⟨hB, ho⟩ (fun _ => trivial) ?_
        clear hK' K'
        go_frame
        refine y_oper 12 (by kernel_rfl) rfl rfl (fun K' hK' => ?_)
        refine wp_store_bytes 71 _ _ rfl rfl Wz270.heap.size rfl (Q) rfl _ _ hz327 27 (by kernel_rfl) HQ.out.len (by simp) (fun Wz343 pz344 => ?_)
        replace hB := pz344.below hB (by omega)
        replace h3 := pz344.other h3 (by omega)
        replace h6 := pz344.other h6 (by omega)
        replace ho := ho.put pz344 naz328
        replace hz273 := pz344.other hz273 (by omega)
        replace hz327 : At Wz343 Wz270.heap.size (.cells (u8s (Q)) 71 (0, 0)) := pz344.at_
        refine hK' _ _ ⟨hB, ho⟩ (fun _ => trivial) ?_
        clear hK' K' pz344
        refine y_oper 13 (by kernel_rfl) rfl rfl (fun K' hK' => ?_)
        refine wp_store_bytes 71 _ _ rfl rfl wdz40.heap.size rfl (R) rfl _ _ hz273 27 (by kernel_rfl) HRb.out.len (by simp) (fun Wz345 pz346 => ?_)
        replace hB := pz346.below hB (by omega)
        replace h3 := pz346.other h3 (by omega)
        replace h6 := pz346.other h6 (by omega)
        replace ho := ho.put pz346 naz274
        replace hz327 := pz346.other hz327 (by omega)
        replace hz273 : At Wz345 wdz40.heap.size (.cells (u8s (R)) 71 (0, 0)) := pz346.at_
        refine hK' _ _ ⟨hB, ho⟩ (fun _ => trivial) ?_
        clear hK' K' pz346
        refine y_done (by kernel_rfl) ?_ _
        go_wp2_with fail
        go_meet
        exact ⟨_, _, rfl, rfl, by omega, ⟨by omega, by omega, by omega, by omega⟩, hB, h3, h6, hz327, hz273, ho⟩
     case rest =>
     clear hB h3 h6 ho
     obtain ⟨b16, b17, rfl, rfl, hne9, ⟨l1, l2, l3, l4⟩, hB, h3, h6, h16, h17, ho⟩ := hcut
     obtain ⟨wc, rfl⟩ := cut_worldF hB
     go_upto_region 16 with (fail)
     refine wp_region_y (zs := []) (S := fun w' => Below w.heap.size w w') (S2 := fun w' => True) (by kernel_rfl) ?_
     change wpAnyY _ _ _ _ _ _ _ _ _ _ (World.drew _)
     generalize hwdz347 : World.drew _ = wdz347
     replace hB : Below w.heap.size w wdz347 := by rw [← hwdz347]; exact hB.drew
     replace h3 : At wdz347 w.heap.size (.cells #[.int .i64 p, .int .i64 n, .int .i64 m, .int .i64 k, .slice (some ⟨a0, 0, none⟩) qs.length c] 31 (0, 0)) := by rw [← hwdz347]; exact h3
     replace h6 : At wdz347 Wz2.heap.size (.cells #[.int .i64 0, .int .i64 0, .int .i64 0, .int .i64 0, .slice none 0 0] 31 (0, 0)) := by rw [← hwdz347]; exact h6
     replace h16 : At wdz347 b16 (.cells (u8s (Q)) 71 (0, 0)) := by rw [← hwdz347]; exact h16
     replace h17 : At wdz347 b17 (.cells (u8s (R)) 71 (0, 0)) := by rw [← hwdz347]; exact h17
     replace ho : Own wdz347 w.heap.size (.slice (some ⟨g, 0, none⟩) L.length c9) (L) := by rw [← hwdz347]; exact ho.drew
     clear hwdz347
     refine y_yield 0 (some 78) (.int .i64 I) rfl (by kernel_rfl) (by kernel_rfl) (by kernel_rfl) (fun _ _ _ h => h) rfl rfl hB (fun w' h' => exec_move _ rfl (.int .i64 I) rfl) ?_
     go_frame
     refine y_yield 1 (some 79) (.int .i64 J) rfl (by kernel_rfl) (by kernel_rfl) (by kernel_rfl) (fun _ _ _ h => h) rfl rfl hB (fun w' h' => exec_move _ rfl (.int .i64 J) rfl) ?_
     go_frame
     refine y_yield 2 (some 80) (.bool true) rfl (by kernel_rfl) (by kernel_rfl) (by kernel_rfl) (fun _ _ _ h => h) rfl rfl hB (fun w' h' => exec_eql _ _ _ _ rfl I J rfl rfl true (by rw [hij]; exact beq_self_eq_true _)) ?_
     go_frame
     refine y_yield 3 (some 81) (.bool true) rfl (by kernel_rfl) (by kernel_rfl) (by kernel_rfl) (fun _ _ _ h => h) rfl rfl hB (fun w' h' => exec_move _ rfl (.bool true) rfl) ?_
     go_frame
     refine y_skip 4 (some 82) rfl (by kernel_rfl) (by kernel_rfl) (by kernel_rfl) (fun _ _ _ h => h) rfl rfl hB ?_
     go_frame
     refine y_skip 5 (some 83) rfl (by kernel_rfl) (by kernel_rfl) (by kernel_rfl) (fun _ _ _ h => h) rfl rfl hB ?_
     go_frame
     refine y_skip 6 (some 84) rfl (by kernel_rfl) (by kernel_rfl) (by kernel_rfl) (fun _ _ _ h => h) rfl rfl hB ?_
     go_frame
     refine y_skip 7 (some 85) rfl (by kernel_rfl) (by kernel_rfl) (by kernel_rfl) (fun _ _ _ h => h) rfl rfl hB ?_
     go_frame
     refine y_skip 8 (some 86) rfl (by kernel_rfl) (by kernel_rfl) (by kernel_rfl) (fun _ _ _ h => h) rfl rfl hB ?_
     go_frame
     refine y_skip 9 (some 87) rfl (by kernel_rfl) (by kernel_rfl) (by kernel_rfl) (fun _ _ _ h => h) rfl rfl hB ?_
     go_frame
     refine y_skip 10 (some 88) rfl (by kernel_rfl) (by kernel_rfl) (by kernel_rfl) (fun _ _ _ h => h) rfl rfl hB ?_
     go_frame
     refine y_yield 11 (some 89) (.bool true) rfl (by kernel_rfl) (by kernel_rfl) (by kernel_rfl) (fun _ _ _ h => h) rfl rfl hB (fun w' h' => exec_pick _ _ _ rfl true rfl (.bool true) rfl) ?_
     go_frame
     refine y_done (by kernel_rfl) ?_ _
     go_upto_region 7 with (fail)
     refine wp_region_lit ?_
     refine ls_ex (some 44) (.int .i64 D0) rfl rfl (exec_move _ rfl (.int .i64 D0) rfl) ?_
     go_frame
     refine ls_ex (some 45) (.int .i64 D) rfl rfl (exec_sub _ _ _ _ rfl D0 1 D rfl rfl HD.out) ?_
     go_frame
     refine ls_ex (some 2) (.int .i64 D) rfl rfl (exec_assign _ rfl (.int .i64 D) rfl) ?_
     go_frame
     refine wpList_nil ?_
     go_wp2_with fail
     go_roundw
     case rel => exact ⟨t + 1, _, _, _, by omega, by rw [← hD], rfl, rfl, HS, hYb, hB, h3, h6, ho⟩
     case measure => simp [intOf]; omega
    ·rcases Bool.eq_false_or_eq_true (facQ (L[nxW x % L.length]?.getD []) (nxW (nxW (nxW x)) % 3) == facQ (L[nxW (nxW x) % L.length]?.getD []) (nxW (nxW (nxW x)) % 3)) with heq | heq
     ·obtain ⟨D0, hD0⟩ : ∃ z9, T - t = z9 := ⟨_, rfl⟩
      obtain ⟨D, hD⟩ : ∃ z9, T - (t + 1) = z9 := ⟨_, rfl⟩
      have HD : Hid (IntKind.i64.wrap ((D0 : Int) - 1) = (D : Int)) := Lib.hid (by rw [IntWalk.i64_in _ (by omega)]; omega)
      rw [hD0]
      obtain ⟨U, hU⟩ : ∃ z9, nxW x = z9 := ⟨_, rfl⟩
      obtain ⟨V, hV⟩ : ∃ z9, nxW U = z9 := ⟨_, rfl⟩
      obtain ⟨Y, hY⟩ : ∃ z9, nxW V = z9 := ⟨_, rfl⟩
      have hUb : U < 2147483647 := by rw [← hU]; exact nxW_lt _
      have hVb : V < 2147483647 := by rw [← hV]; exact nxW_lt _
      have hYb : Y < 2147483647 := by rw [← hY]; exact nxW_lt _
      obtain ⟨MU, hMU⟩ : ∃ z9, x * 48271 = z9 := ⟨_, rfl⟩
      have HMU : Hid (IntKind.i64.wrap ((x : Int) * 48271) = (MU : Int)) := Lib.hid (by rw [IntWalk.i64_in _ (by omega)]; omega)
      have HNU : Hid ((MU : Int).tmod 2147483647 = (U : Int)) := Lib.hid (by rw [Int.tmod_eq_emod_of_nonneg (by omega), ← hU, ← hMU]; unfold nxW; omega)
      obtain ⟨MV, hMV⟩ : ∃ z9, U * 48271 = z9 := ⟨_, rfl⟩
      have HMV : Hid (IntKind.i64.wrap ((U : Int) * 48271) = (MV : Int)) := Lib.hid (by rw [IntWalk.i64_in _ (by omega)]; omega)
      have HNV : Hid ((MV : Int).tmod 2147483647 = (V : Int)) := Lib.hid (by rw [Int.tmod_eq_emod_of_nonneg (by omega), ← hV, ← hMV]; unfold nxW; omega)
      obtain ⟨MY, hMY⟩ : ∃ z9, V * 48271 = z9 := ⟨_, rfl⟩
      have HMY : Hid (IntKind.i64.wrap ((V : Int) * 48271) = (MY : Int)) := Lib.hid (by rw [IntWalk.i64_in _ (by omega)]; omega)
      have HNY : Hid ((MY : Int).tmod 2147483647 = (Y : Int)) := Lib.hid (by rw [Int.tmod_eq_emod_of_nonneg (by omega), ← hY, ← hMY]; unfold nxW; omega)
      obtain ⟨A9, c9, rfl⟩ := Own.rdN2 ho (n := L.length) rfl
      obtain ⟨g, rfl, hg⟩ := ho.blk (by omega)
      obtain ⟨I, hI⟩ : ∃ z9, U % L.length = z9 := ⟨_, rfl⟩
      obtain ⟨J, hJ⟩ : ∃ z9, V % L.length = z9 := ⟨_, rfl⟩
      obtain ⟨F, hF⟩ : ∃ z9, Y % 3 = z9 := ⟨_, rfl⟩
      have hI3 : I < L.length := by rw [← hI]; exact Nat.mod_lt _ (by omega)
      have hJ3 : J < L.length := by rw [← hJ]; exact Nat.mod_lt _ (by omega)
      have hF3 : F < 3 := by rw [← hF]; exact Nat.mod_lt _ (by omega)
      obtain ⟨Q, hQ⟩ : ∃ z9, L[I]? = some z9 := ⟨_, List.getElem?_eq_getElem hI3⟩
      obtain ⟨R, hRj⟩ : ∃ z9, L[J]? = some z9 := ⟨_, List.getElem?_eq_getElem hJ3⟩
      have HI : Hid ((U : Int).tmod (L.length : Int) = (I : Int)) := Lib.hid (by rw [Int.tmod_eq_emod_of_nonneg (by omega), ← hI]; rfl)
      have HJ : Hid ((V : Int).tmod (L.length : Int) = (J : Int)) := Lib.hid (by rw [Int.tmod_eq_emod_of_nonneg (by omega), ← hJ]; rfl)
      have HF : Hid ((Y : Int).tmod 3 = (F : Int)) := Lib.hid (by rw [Int.tmod_eq_emod_of_nonneg (by omega), ← hF]; rfl)
      rw [hU, hV, hI, hJ] at hij
      rw [hU, hV, hY, hI, hJ, hF, hQ, hRj, Option.getD_some, Option.getD_some] at heq
      have HS : Hid (wst p qs S (t + 1) = (flL p 1 L I J F Q R, Y)) := Lib.hid (by have h9 := wst_yes (F := F) HW.out (by rw [hU]; exact hI) (by rw [hU, hV]; exact hJ) (by rw [hU, hV, hY]; exact hF) hQ hRj (by unfold flB; rw [heq, decide_eq_true hij]; rfl); rwa [hU, hV, hY] at h9)
      have HNE : Hid ((!(facQ Q F == facQ R F)) = false) := Lib.hid (by rw [heq]; rfl)
      clear heq
      obtain ⟨FL, hFL⟩ : ∃ z9, flL p 1 L I J F Q R = z9 := ⟨_, rfl⟩
      rw [hFL] at HS
      obtain ⟨M8, hM8⟩ : ∃ z9, FL.length = z9 := ⟨_, rfl⟩
      have HM8 := Lib.hid hM8
      obtain ⟨f1, hf1⟩ : ∃ z9, F + 1 = z9 := ⟨_, rfl⟩
      obtain ⟨f2, hf2⟩ : ∃ z9, F + 2 = z9 := ⟨_, rfl⟩
      obtain ⟨G, hG⟩ : ∃ z9, (F + 1) % 3 = z9 := ⟨_, rfl⟩
      obtain ⟨H, hH⟩ : ∃ z9, (F + 2) % 3 = z9 := ⟨_, rfl⟩
      have hG3 : G < 3 := by omega
      have hH3 : H < 3 := by omega
      have Hf1 : Hid (IntKind.i64.wrap ((F : Int) + 1) = (f1 : Int)) := Lib.hid (by rw [IntWalk.i64_in _ (by omega)]; omega)
      have Hf2 : Hid (IntKind.i64.wrap ((F : Int) + 2) = (f2 : Int)) := Lib.hid (by rw [IntWalk.i64_in _ (by omega)]; omega)
      have HGm : Hid ((f1 : Int).tmod 3 = (G : Int)) := Lib.hid (by rw [Int.tmod_eq_emod_of_nonneg (by omega)]; omega)
      have HHm : Hid ((f2 : Int).tmod 3 = (H : Int)) := Lib.hid (by rw [Int.tmod_eq_emod_of_nonneg (by omega)]; omega)
      have hQb := HLb.out _ (List.mem_of_getElem? hQ)
      have hRb9 := HLb.out _ (List.mem_of_getElem? hRj)
      have hfs := fl_spec (p := p) (f := F) (Q := Q) (R := R) hQb hp2 hF3
      obtain ⟨F1, hF1⟩ : ∃ z9, adF p 1 (facQ Q G) (facQ R G) = z9 := ⟨_, rfl⟩
      have HF1 := Lib.hid hF1
      have HF1b : Hid (Bytes 9 F1) := Lib.hid (by rw [← hF1]; exact adF_bytes 1 _ _ (by omega) (by omega))
      obtain ⟨Q1, hQ1⟩ : ∃ z9, over Q (G * 9) F1 = z9 := ⟨_, rfl⟩
      have HQ1 := Lib.hid hQ1
      have HQ1b : Hid (Bytes 27 Q1) := Lib.hid (by rw [← hQ1]; exact withQ_bytes hQb HF1b.out hG3)
      obtain ⟨F2, hF2⟩ : ∃ z9, adF p (-1) (facQ R H) (facQ Q H) = z9 := ⟨_, rfl⟩
      have HF2 := Lib.hid hF2
      have HF2b : Hid (Bytes 9 F2) := Lib.hid (by rw [← hF2]; exact adF_bytes (-1) _ _ (by omega) (by omega))
      obtain ⟨R1, hR1⟩ : ∃ z9, over R (H * 9) F2 = z9 := ⟨_, rfl⟩
      have HR1 := Lib.hid hR1
      have HR1b : Hid (Bytes 27 R1) := Lib.hid (by rw [← hR1]; exact withQ_bytes hRb9 HF2b.out hH3)
      have HL2b : Hid (∀ q ∈ (L.set I Q1).set J R1, Bytes 27 q) := Lib.hid (set_bytes27 (set_bytes27 HLb.out HQ1b.out) HR1b.out)
      have HG27 : Hid (∀ q ∈ L, q.length = 27) := Lib.hid (fun q hq => (HLb.out q hq).len)
      have HFL8 : Hid (((L.set I Q1).set J R1).filter nzB = FL) := Lib.hid (by rw [← hFL]; unfold flL; rw [hfs]; unfold flQ withQ; rw [hG, hH, hF1, hQ1, hF2, hR1])
      clear hFL hM8 hf1 hf2 hG hH hfs hF1 hQ1 hF2 hR1 hQb hRb9
      have HQ := Lib.hid (HLb.out _ (List.mem_of_getElem? hQ))
      have HRb := Lib.hid (HLb.out _ (List.mem_of_getElem? hRj))
      have HQi := Lib.hid hQ
      have HRj := Lib.hid hRj
      have hLz : ((L.length : Int)) ≠ 0 := by omega
      clear hU hV hY hI hJ hF hQ hRj
      clear hMU hMV hMY
      go_upto_region 6 with (fail)
      refine wp_region_lit ?_
      refine ls_ex (some 42) (.int .i64 D0) rfl rfl (exec_move _ rfl (.int .i64 D0) rfl) ?_
      go_frame
      refine ls_ex (some 43) (.bool true) rfl rfl (exec_gtr _ _ _ _ rfl D0 0 rfl rfl true (decide_eq_true (by omega))) ?_
      go_frame
      refine wpList_nil ?_
      go_upto_region 8 with (fail)
      refine wp_region_lit ?_
      refine ls_ex (some 46) (.int .i64 x) rfl rfl (exec_move _ rfl (.int .i64 x) rfl) ?_
      go_frame
      refine ls_ex (some 47) (.int .i64 MU) rfl rfl (exec_mul _ _ _ _ rfl x 48271 MU rfl rfl HMU.out) ?_
      go_frame
      refine ls_ex (some 48) (.int .i64 U) rfl rfl (exec_rem _ _ _ _ rfl MU 2147483647 U rfl rfl (by decide) HNU.out) ?_
      go_frame
      refine ls_ex (some 9) (.int .i64 U) rfl rfl (exec_assign _ rfl (.int .i64 U) rfl) ?_
      go_frame
      refine wpList_nil ?_
      go_upto_region 9 with (fail)
      refine wp_region_lit ?_
      refine ls_ex (some 49) (.int .i64 U) rfl rfl (exec_move _ rfl (.int .i64 U) rfl) ?_
      go_frame
      refine ls_ex (some 50) (.int .i64 MV) rfl rfl (exec_mul _ _ _ _ rfl U 48271 MV rfl rfl HMV.out) ?_
      go_frame
      refine ls_ex (some 51) (.int .i64 V) rfl rfl (exec_rem _ _ _ _ rfl MV 2147483647 V rfl rfl (by decide) HNV.out) ?_
      go_frame
      refine ls_ex (some 10) (.int .i64 V) rfl rfl (exec_assign _ rfl (.int .i64 V) rfl) ?_
      go_frame
      refine wpList_nil ?_
      go_upto_region 10 with (fail)
      refine wp_region_lit ?_
      refine ls_ex (some 52) (.int .i64 V) rfl rfl (exec_move _ rfl (.int .i64 V) rfl) ?_
      go_frame
      refine ls_ex (some 53) (.int .i64 MY) rfl rfl (exec_mul _ _ _ _ rfl V 48271 MY rfl rfl HMY.out) ?_
      go_frame
      refine ls_ex (some 54) (.int .i64 Y) rfl rfl (exec_rem _ _ _ _ rfl MY 2147483647 Y rfl rfl (by decide) HNY.out) ?_
      go_frame
      refine ls_ex (some 11) (.int .i64 Y) rfl rfl (exec_assign _ rfl (.int .i64 Y) rfl) ?_
      go_frame
      refine wpList_nil ?_
      go_upto_region 11 with (fail)
      refine wp_region_lit ?_
      refine ls_ex (some 55) (.int .i64 Y) rfl rfl (exec_move _ rfl (.int .i64 Y) rfl) ?_
      go_frame
      refine ls_ex (some 1) (.int .i64 Y) rfl rfl (exec_assign _ rfl (.int .i64 Y) rfl) ?_
      go_frame
      refine wpList_nil ?_
      go_upto_region 12 with (fail)
      refine wp_region_lit ?_
      refine ls_ex (some 56) (.slice (some ⟨g, 0, none⟩) L.length c9) rfl rfl (exec_move _ rfl (.slice (some ⟨g, 0, none⟩) L.length c9) rfl) ?_
      go_frame
      refine ls_ex (some 57) (.int .i64 L.length) rfl rfl (exec_len _ 29 65 rfl ((some ⟨g, 0, none⟩)) L.length c9 rfl Try.underlying29) ?_
      go_frame
      refine ls_ex (some 12) (.int .i64 L.length) rfl rfl (exec_assign _ rfl (.int .i64 L.length) rfl) ?_
      go_frame
      refine wpList_nil ?_
      go_upto_region 13 with (fail)
      refine wp_region_lit ?_
      refine ls_ex (some 58) (.int .i64 L.length) rfl rfl (exec_move _ rfl (.int .i64 L.length) rfl) ?_
      go_frame
      refine ls_ex (some 59) (.bool false) rfl rfl (exec_eql _ _ _ _ rfl L.length 0 rfl rfl false (beq_eq_false_iff_ne.2 (by omega))) ?_
      go_frame
      refine wpList_nil ?_
      go_upto_region 14 with (fail)
      refine wp_region_y (zs := []) (S := fun w' => Below w.heap.size w w') (S2 := fun w' => True) (by kernel_rfl) ?_
      change wpAnyY _ _ _ _ _ _ _ _ _ _ (World.drew _)
      generalize hwdz348 : World.drew _ = wdz348
      replace hB : Below w.heap.size w wdz348 := by rw [← hwdz348]; exact hB.drew
      replace h3 : At wdz348 w.heap.size (.cells #[.int .i64 p, .int .i64 n, .int .i64 m, .int .i64 k, .slice (some ⟨a0, 0, none⟩) qs.length c] 31 (0, 0)) := by rw [← hwdz348]; exact h3
      replace h6 : At wdz348 Wz2.heap.size (.cells #[.int .i64 0, .int .i64 0, .int .i64 0, .int .i64 0, .slice none 0 0] 31 (0, 0)) := by rw [← hwdz348]; exact h6
      replace ho : Own wdz348 w.heap.size (.slice (some ⟨g, 0, none⟩) L.length c9) (L) := by rw [← hwdz348]; exact ho.drew
      clear hwdz348
      refine y_yield 0 (some 60) (.int .i64 U) rfl (by kernel_rfl) (by kernel_rfl) (by kernel_rfl) (fun _ _ _ h => h) rfl rfl hB (fun w' h' => exec_move _ rfl (.int .i64 U) rfl) ?_
      go_frame
      refine y_yield 1 (some 61) (.int .i64 L.length) rfl (by kernel_rfl) (by kernel_rfl) (by kernel_rfl) (fun _ _ _ h => h) rfl rfl hB (fun w' h' => exec_move _ rfl (.int .i64 L.length) rfl) ?_
      go_frame
      refine y_yield 2 (some 62) (.int .i64 I) rfl (by kernel_rfl) (by kernel_rfl) (by kernel_rfl) (fun _ _ _ h => h) rfl rfl hB (fun w' h' => exec_rem _ _ _ _ rfl U L.length I rfl rfl hLz HI.out) ?_
      go_frame
      refine y_yield 3 (some 63) (.int .i64 V) rfl (by kernel_rfl) (by kernel_rfl) (by kernel_rfl) (fun _ _ _ h => h) rfl rfl hB (fun w' h' => exec_move _ rfl (.int .i64 V) rfl) ?_
      go_frame
      refine y_yield 4 (some 64) (.int .i64 L.length) rfl (by kernel_rfl) (by kernel_rfl) (by kernel_rfl) (fun _ _ _ h => h) rfl rfl hB (fun w' h' => exec_move _ rfl (.int .i64 L.length) rfl) ?_
      go_frame
      refine y_yield 5 (some 65) (.int .i64 J) rfl (by kernel_rfl) (by kernel_rfl) (by kernel_rfl) (fun _ _ _ h => h) rfl rfl hB (fun w' h' => exec_rem _ _ _ _ rfl V L.length J rfl rfl hLz HJ.out) ?_
      go_frame
      refine y_yield 6 (some 66) (.int .i64 Y) rfl (by kernel_rfl) (by kernel_rfl) (by kernel_rfl) (fun _ _ _ h => h) rfl rfl hB (fun w' h' => exec_move _ rfl (.int .i64 Y) rfl) ?_
      go_frame
      refine y_yield 7 (some 67) (.int .i64 F) rfl (by kernel_rfl) (by kernel_rfl) (by kernel_rfl) (fun _ _ _ h => h) rfl rfl hB (fun w' h' => exec_rem _ _ _ _ rfl Y 3 F rfl rfl (by decide) HF.out) ?_
      go_frame
      refine y_oper 8 (by kernel_rfl) rfl rfl (fun K' hK' => ?_)
      refine wp_exec (some 13) rfl (.int .i64 I) (exec_assign _ rfl (.int .i64 I) rfl) ?_
      refine hK' _ _ hB (fun _ => trivial) ?_
      clear hK' K'
      go_frame
      refine y_oper 9 (by kernel_rfl) rfl rfl (fun K' hK' => ?_)
      refine wp_exec (some 14) rfl (.int .i64 J) (exec_assign _ rfl (.int .i64 J) rfl) ?_
      refine hK' _ _ hB (fun _ => trivial) ?_
      clear hK' K'
      go_frame
      refine y_oper 10 (by kernel_rfl) rfl rfl (fun K' hK' => ?_)
      refine wp_exec (some 15) rfl (.int .i64 F) (exec_assign _ rfl (.int .i64 F) rfl) ?_
      refine hK' _ _ hB (fun _ => trivial) ?_
      clear hK' K'
      go_frame
      refine y_done (by kernel_rfl) ?_ _
      go_upto_region 15 with (fail)
      go_cut [16, 17] from 68 to 77 (fun s16 s17 wx => ∃ b16 b17 : Nat, s16 = .pointer (some ⟨b16, 0, none⟩) ∧ s17 = .pointer (some ⟨b17, 0, none⟩) ∧ b16 ≠ b17 ∧ (w.heap.size < b16 ∧ w.heap.size < b17 ∧ Wz2.heap.size < b16 ∧ Wz2.heap.size < b17) ∧ Below w.heap.size w wx ∧ At wx w.heap.size (.cells #[.int .i64 p, .int .i64 n, .int .i64 m, .int .i64 k, .slice (some ⟨a0, 0, none⟩) qs.length c] 31 (0, 0)) ∧ At wx Wz2.heap.size (.cells #[.int .i64 0, .int .i64 0, .int .i64 0, .int .i64 0, .slice none 0 0] 31 (0, 0)) ∧ At wx b16 (.cells (u8s (Q)) 71 (0, 0)) ∧ At wx b17 (.cells (u8s (R)) 71 (0, 0)) ∧ Own wx w.heap.size (.slice (some ⟨g, 0, none⟩) L.length c9) (L))
      case first =>
       refine wp_region_y (zs := []) (S := fun w' => Below w.heap.size w w' ∧ Own w' w.heap.size (.slice (some ⟨g, 0, none⟩) L.length c9) (L)) (S2 := fun w' => True) (by kernel_rfl) ?_
       change wpAnyY _ _ _ _ _ _ _ _ _ _ (World.drew _)
       generalize hwdz349 : World.drew _ = wdz349
       replace hB : Below w.heap.size w wdz349 := by rw [← hwdz349]; exact hB.drew
       replace h3 : At wdz349 w.heap.size (.cells #[.int .i64 p, .int .i64 n, .int .i64 m, .int .i64 k, .slice (some ⟨a0, 0, none⟩) qs.length c] 31 (0, 0)) := by rw [← hwdz349]; exact h3
       replace h6 : At wdz349 Wz2.heap.size (.cells #[.int .i64 0, .int .i64 0, .int .i64 0, .int .i64 0, .slice none 0 0] 31 (0, 0)) := by rw [← hwdz349]; exact h6
       replace ho : Own wdz349 w.heap.size (.slice (some ⟨g, 0, none⟩) L.length c9) (L) := by rw [← hwdz349]; exact ho.drew
       clear hwdz349
       refine y_yield 0 (some 68) (.slice (some ⟨g, 0, none⟩) L.length c9) rfl (by kernel_rfl) (by kernel_rfl) (by kernel_rfl) (fun _ _ _ h => h) rfl rfl ⟨hB, ho⟩ (fun w' h' => exec_move _ rfl (.slice (some ⟨g, 0, none⟩) L.length c9) rfl) ?_
       go_frame
       refine y_yield 1 (some 69) (.int .i64 I) rfl (by kernel_rfl) (by kernel_rfl) (by kernel_rfl) (fun _ _ _ h => h) rfl rfl ⟨hB, ho⟩ (fun w' h' => exec_move _ rfl (.int .i64 I) rfl) ?_
       go_frame
       refine y_yield 2 (some 70) (.pointer (some ⟨g, I * 27, none⟩)) rfl (by kernel_rfl) (by kernel_rfl) (by kernel_rfl) (fun _ _ _ h => h) rfl rfl ⟨hB, ho⟩ (fun w' h' => exec_ix0 _ 65 _ _ rfl g L.length c9 I 27 rfl rfl Try.underlying29 (by kernel_rfl) (by omega)) ?_
       go_frame
       refine y_yield 3 (some 71) (.agg (u8s (Q))) rfl (by kernel_rfl) (by kernel_rfl) (by kernel_rfl) (fun _ _ _ h => h) rfl rfl ⟨hB, ho⟩ (fun w' h' => exec_load_cells 65 _ rfl g (I * 27) rfl (Q) _ 27 (ownF0 h'.2 HLb.out HQi.out) Try.underlying65 rfl (by kernel_rfl) (HQ.out.len)) ?_
       go_frame
       refine y_yield 5 (some 73) (.slice (some ⟨g, 0, none⟩) L.length c9) rfl (by kernel_rfl) (by kernel_rfl) (by kernel_rfl) (fun _ _ _ h => h) rfl rfl ⟨hB, ho⟩ (fun w' h' => exec_move _ rfl (.slice (some ⟨g, 0, none⟩) L.length c9) rfl) ?_
       go_frame
       refine y_yield 6 (some 74) (.int .i64 J) rfl (by kernel_rfl) (by kernel_rfl) (by kernel_rfl) (fun _ _ _ h => h) rfl rfl ⟨hB, ho⟩ (fun w' h' => exec_move _ rfl (.int .i64 J) rfl) ?_
       go_frame
       refine y_yield 7 (some 75) (.pointer (some ⟨g, J * 27, none⟩)) rfl (by kernel_rfl) (by kernel_rfl) (by kernel_rfl) (fun _ _ _ h => h) rfl rfl ⟨hB, ho⟩ (fun w' h' => exec_ix0 _ 65 _ _ rfl g L.length c9 J 27 rfl rfl Try.underlying29 (by kernel_rfl) (by omega)) ?_
       go_frame
       refine y_yield 8 (some 76) (.agg (u8s (R))) rfl (by kernel_rfl) (by kernel_rfl) (by kernel_rfl) (fun _ _ _ h => h) rfl rfl ⟨hB, ho⟩ (fun w' h' => exec_load_cells 65 _ rfl g (J * 27) rfl (R) _ 27 (ownF0 h'.2 HLb.out HRj.out) Try.underlying65 rfl (by kernel_rfl) (HRb.out.len)) ?_
       go_frame
       refine y_three 4 10 11 (by kernel_rfl) rfl rfl rfl rfl rfl rfl (fun K' hK' => ?_) (fun K' hK' => ?_) (fun K' hK' => ?_)
       ·have lz352 := hB.size
        have lz353 := h3.lt
        have lz354 := h6.lt
        refine wp_call1 (some 72) rfl 45 _ _ rfl (fun args w => by kernel_rfl) _ rfl _ (l10Forms_c Q HQ.out _) (fun e Wz350 h => ?_)
        obtain ⟨rfl, bz351⟩ := h
        replace hB := below_after hB bz351
        replace h3 := h3.after bz351
        replace h6 := h6.after bz351
        replace ho := ho.below bz351
        clear bz351
        refine ⟨_, rfl, ?_⟩
        refine hK' _ _ ⟨hB, ho⟩ (fun _ => trivial) ?_
        clear hK' K'
        go_frame
        refine y_three 9 10 11 (by kernel_rfl) rfl rfl rfl rfl rfl rfl (fun K' hK' => ?_) (fun K' hK' => ?_) (fun K' hK' => ?_)
        ·have lz357 := hB.size
         have lz358 := h3.lt
         have lz359 := h6.lt
         refine wp_call1 (some 77) rfl 45 _ _ rfl (fun args w => by kernel_rfl) _ rfl _ (l10Forms_c R HRb.out _) (fun e Wz355 h => ?_)
         obtain ⟨rfl, bz356⟩ := h
         replace hB := below_after hB bz356
         replace h3 := h3.after bz356
         replace h6 := h6.after bz356
         replace ho := ho.below bz356
         clear bz356
         refine ⟨_, rfl, ?_⟩
         refine hK' _ _ ⟨hB, ho⟩ (fun _ => trivial) ?_
         clear hK' K'
         go_frame
         refine y_two 10 11 (by kernel_rfl) rfl rfl rfl rfl (fun K' hK' => ?_) (fun K' hK' => ?_)
         ·have lz360 := hB.size
          have lz361 := h3.lt
          have lz362 := h6.lt
          have naz367 := ho.away_new
          refine wp_new (some 16) rfl (al__3_impl_Form rfl) (fun Wz363 nnz364 => ?_)
          have bz365 := nnz364.below (Below.refl _ _) (Nat.le_refl _)
          replace hB := below_after hB bz365
          replace h3 := h3.after bz365
          replace h6 := h6.after bz365
          replace ho := ho.below bz365
          have hz366 : At Wz363 Wz355.heap.size (.cells (u8s (List.replicate 27 0)) 71 (0, 0)) := nnz364.at_
          refine hK' _ _ ⟨hB, ho⟩ (fun _ => trivial) ?_
          clear hK' K' nnz364 bz365
          go_frame
          refine y_oper 11 (by kernel_rfl) rfl rfl (fun K' hK' => ?_)
          have lz368 := hB.size
          have lz369 := h3.lt
          have lz370 := h6.lt
          have lz371 := hz366.lt
          have naz376 := ho.away_new
          refine wp_new (some 17) rfl (al__3_impl_Form rfl) (fun Wz372 nnz373 => ?_)
          have bz374 := nnz373.below (Below.refl _ _) (Nat.le_refl _)
          replace hB := below_after hB bz374
          replace h3 := h3.after bz374
          replace h6 := h6.after bz374
          replace ho := ho.below bz374
          replace hz366 := hz366.after bz374
          have hz375 : At Wz372 Wz363.heap.size (.cells (u8s (List.replicate 27 0)) 71 (0, 0)) := nnz373.at_
          refine hK' _ _ ⟨hB, ho⟩ (fun _ => trivial) ?_
          clear hK' K' nnz373 bz374
          go_frame
          refine y_oper 12 (by kernel_rfl) rfl rfl (fun K' hK' => ?_)
          refine wp_store_bytes 71 _ _ rfl rfl Wz355.heap.size rfl (Q) rfl _ _ hz366 27 (by kernel_rfl) HQ.out.len (by simp) (fun Wz377 pz378 => ?_)
          replace hB := pz378.below hB (by omega)
          replace h3 := pz378.other h3 (by omega)
          replace h6 := pz378.other h6 (by omega)
          replace ho := ho.put pz378 naz367
          replace hz375 := pz378.other hz375 (by omega)
          replace hz366 : At Wz377 Wz355.heap.size (.cells (u8s (Q)) 71 (0, 0)) := pz378.at_
          refine hK' _ _ ⟨hB, ho⟩ (fun _ => trivial) ?_
          clear hK' K' pz378
          refine y_oper 13 (by kernel_rfl) rfl rfl (fun K' hK' => ?_)
          refine wp_store_bytes 71 _ _ rfl rfl Wz363.heap.size rfl (R) rfl _ _ hz375 27 (by kernel_rfl) HRb.out.len (by simp) (fun Wz379 pz380 => ?_)
          replace hB := pz380.below hB (by omega)
          replace h3 := pz380.other h3 (by omega)
          replace h6 := pz380.other h6 (by omega)
          replace ho := ho.put pz380 naz376
          replace hz366 := pz380.other hz366 (by omega)
          replace hz375 : At Wz379 Wz363.heap.size (.cells (u8s (R)) 71 (0, 0)) := pz380.at_
          refine hK' _ _ ⟨hB, ho⟩ (fun _ => trivial) ?_
          clear hK' K' pz380
          refine y_done (by kernel_rfl) ?_ _
          go_wp2_with fail
          go_meet
          exact ⟨_, _, rfl, rfl, by omega, ⟨by omega, by omega, by omega, by omega⟩, hB, h3, h6, hz366, hz375, ho⟩
         ·have lz381 := hB.size
          have lz382 := h3.lt
          have lz383 := h6.lt
          have naz388 := ho.away_new
          refine wp_new (some 17) rfl (al__3_impl_Form rfl) (fun Wz384 nnz385 => ?_)
          have bz386 := nnz385.below (Below.refl _ _) (Nat.le_refl _)
          replace hB := below_after hB bz386
          replace h3 := h3.after bz386
          replace h6 := h6.after bz386
          replace ho := ho.below bz386
          have hz387 : At Wz384 Wz355.heap.size (.cells (u8s (List.replicate 27 0)) 71 (0, 0)) := nnz385.at_
          refine hK' _ _ ⟨hB, ho⟩ (fun _ => trivial) ?_
          clear hK' K' nnz385 bz386
          go_frame
          refine y_oper 10 (by kernel_rfl) rfl rfl (fun K' hK' => ?_)
          have lz389 := hB.size
          have lz390 := h3.lt
          have lz391 := h6.lt
          have lz392 := hz387.lt
          have naz397 := ho.away_new
          refine wp_new (some 16) rfl (al__3_impl_Form rfl) (fun Wz393 nnz394 => ?_)
          have bz395 := nnz394.below (Below.refl _ _) (Nat.le_refl _)
          replace hB := below_after hB bz395
          replace h3 := h3.after bz395
          replace h6 := h6.after bz395
          replace ho := ho.below bz395
          replace hz387 := hz387.after bz395
          have hz396 : At Wz393 Wz384.heap.size (.cells (u8s (List.replicate 27 0)) 71 (0, 0)) := nnz394.at_
          refine hK' _ _ ⟨hB, ho⟩ (fun _ => trivial) ?_
          clear hK' K' nnz394 bz395
          go_frame
          refine y_oper 12 (by kernel_rfl) rfl rfl (fun K' hK' => ?_)
          refine wp_store_bytes 71 _ _ rfl rfl Wz384.heap.size rfl (Q) rfl _ _ hz396 27 (by kernel_rfl) HQ.out.len (by simp) (fun Wz398 pz399 => ?_)
          replace hB := pz399.below hB (by omega)
          replace h3 := pz399.other h3 (by omega)
          replace h6 := pz399.other h6 (by omega)
          replace ho := ho.put pz399 naz397
          replace hz387 := pz399.other hz387 (by omega)
          replace hz396 : At Wz398 Wz384.heap.size (.cells (u8s (Q)) 71 (0, 0)) := pz399.at_
          refine hK' _ _ ⟨hB, ho⟩ (fun _ => trivial) ?_
          clear hK' K' pz399
          refine y_oper 13 (by kernel_rfl) rfl rfl (fun K' hK' => ?_)
          refine wp_store_bytes 71 _ _ rfl rfl Wz355.heap.size rfl (R) rfl _ _ hz387 27 (by kernel_rfl) HRb.out.len (by simp) (fun Wz400 pz401 => ?_)
          replace hB := pz401.below hB (by omega)
          replace h3 := pz401.other h3 (by omega)
          replace h6 := pz401.other h6 (by omega)
          replace ho := ho.put pz401 naz388
          replace hz396 := pz401.other hz396 (by omega)
          replace hz387 : At Wz400 Wz355.heap.size (.cells (u8s (R)) 71 (0, 0)) := pz401.at_
          refine hK' _ _ ⟨hB, ho⟩ (fun _ => trivial) ?_
          clear hK' K' pz401
          refine y_done (by kernel_rfl) ?_ _
          go_wp2_with fail
          go_meet
          exact ⟨_, _, rfl, rfl, by omega, ⟨by omega, by omega, by omega, by omega⟩, hB, h3, h6, hz396, hz387, ho⟩
        ·have lz402 := hB.size
         have lz403 := h3.lt
         have lz404 := h6.lt
         have naz409 := ho.away_new
         refine wp_new (some 16) rfl (al__3_impl_Form rfl) (fun Wz405 nnz406 => ?_)
         have bz407 := nnz406.below (Below.refl _ _) (Nat.le_refl _)
         replace hB := below_after hB bz407
         replace h3 := h3.after bz407
         replace h6 := h6.after bz407
         replace ho := ho.below bz407
         have hz408 : At Wz405 Wz350.heap.size (.cells (u8s (List.replicate 27 0)) 71 (0, 0)) := nnz406.at_
         refine hK' _ _ ⟨hB, ho⟩ (fun _ => trivial) ?_
         clear hK' K' nnz406 bz407
         go_frame
         refine y_two 9 11 (by kernel_rfl) rfl rfl rfl rfl (fun K' hK' => ?_) (fun K' hK' => ?_)
         ·have lz412 := hB.size
          have lz413 := h3.lt
          have lz414 := h6.lt
          have lz415 := hz408.lt
          refine wp_call1 (some 77) rfl 45 _ _ rfl (fun args w => by kernel_rfl) _ rfl _ (l10Forms_c R HRb.out _) (fun e Wz410 h => ?_)
          obtain ⟨rfl, bz411⟩ := h
          replace hB := below_after hB bz411
          replace h3 := h3.after bz411
          replace h6 := h6.after bz411
          replace ho := ho.below bz411
          replace hz408 := hz408.after bz411
          clear bz411
          refine ⟨_, rfl, ?_⟩
          refine hK' _ _ ⟨hB, ho⟩ (fun _ => trivial) ?_
          clear hK' K'
          go_frame
          refine y_oper 11 (by kernel_rfl) rfl rfl (fun K' hK' => ?_)
          have lz416 := hB.size
          have lz417 := h3.lt
          have lz418 := h6.lt
          have lz419 := hz408.lt
          have naz424 := ho.away_new
          refine wp_new (some 17) rfl (al__3_impl_Form rfl) (fun Wz420 nnz421 => ?_)
          have bz422 := nnz421.below (Below.refl _ _) (Nat.le_refl _)
          replace hB := below_after hB bz422
          replace h3 := h3.after bz422
          replace h6 := h6.after bz422
          replace ho := ho.below bz422
          replace hz408 := hz408.after bz422
          have hz423 : At Wz420 Wz410.heap.size (.cells (u8s (List.replicate 27 0)) 71 (0, 0)) := nnz421.at_
          refine hK' _ _ ⟨hB, ho⟩ (fun _ => trivial) ?_
          clear hK' K' nnz421 bz422
          go_frame
          refine y_oper 12 (by kernel_rfl) rfl rfl (fun K' hK' => ?_)
          refine wp_store_bytes 71 _ _ rfl rfl Wz350.heap.size rfl (Q) rfl _ _ hz408 27 (by kernel_rfl) HQ.out.len (by simp) (fun Wz425 pz426 => ?_)
          replace hB := pz426.below hB (by omega)
          replace h3 := pz426.other h3 (by omega)
          replace h6 := pz426.other h6 (by omega)
          replace ho := ho.put pz426 naz409
          replace hz423 := pz426.other hz423 (by omega)
          replace hz408 : At Wz425 Wz350.heap.size (.cells (u8s (Q)) 71 (0, 0)) := pz426.at_
          refine hK' _ _ ⟨hB, ho⟩ (fun _ => trivial) ?_
          clear hK' K' pz426
          refine y_oper 13 (by kernel_rfl) rfl rfl (fun K' hK' => ?_)
          refine wp_store_bytes 71 _ _ rfl rfl Wz410.heap.size rfl (R) rfl _ _ hz423 27 (by kernel_rfl) HRb.out.len (by simp) (fun Wz427 pz428 => ?_)
          replace hB := pz428.below hB (by omega)
          replace h3 := pz428.other h3 (by omega)
          replace h6 := pz428.other h6 (by omega)
          replace ho := ho.put pz428 naz424
          replace hz408 := pz428.other hz408 (by omega)
          replace hz423 : At Wz427 Wz410.heap.size (.cells (u8s (R)) 71 (0, 0)) := pz428.at_
          refine hK' _ _ ⟨hB, ho⟩ (fun _ => trivial) ?_
          clear hK' K' pz428
          refine y_done (by kernel_rfl) ?_ _
          go_wp2_with fail
          go_meet
          exact ⟨_, _, rfl, rfl, by omega, ⟨by omega, by omega, by omega, by omega⟩, hB, h3, h6, hz408, hz423, ho⟩
         ·have lz429 := hB.size
          have lz430 := h3.lt
          have lz431 := h6.lt
          have lz432 := hz408.lt
          have naz437 := ho.away_new
          refine wp_new (some 17) rfl (al__3_impl_Form rfl) (fun Wz433 nnz434 => ?_)
          have bz435 := nnz434.below (Below.refl _ _) (Nat.le_refl _)
          replace hB := below_after hB bz435
          replace h3 := h3.after bz435
          replace h6 := h6.after bz435
          replace ho := ho.below bz435
          replace hz408 := hz408.after bz435
          have hz436 : At Wz433 Wz405.heap.size (.cells (u8s (List.replicate 27 0)) 71 (0, 0)) := nnz434.at_
          refine hK' _ _ ⟨hB, ho⟩ (fun _ => trivial) ?_
          clear hK' K' nnz434 bz435
          go_frame
          refine y_oper 9 (by kernel_rfl) rfl rfl (fun K' hK' => ?_)
          have lz440 := hB.size
          have lz441 := h3.lt
          have lz442 := h6.lt
          have lz443 := hz408.lt
          have lz444 := hz436.lt
          refine wp_call1 (some 77) rfl 45 _ _ rfl (fun args w => by kernel_rfl) _ rfl _ (l10Forms_c R HRb.out _) (fun e Wz438 h => ?_)
          obtain ⟨rfl, bz439⟩ := h
          replace hB := below_after hB bz439
          replace h3 := h3.after bz439
          replace h6 := h6.after bz439
          replace ho := ho.below bz439
          replace hz408 := hz408.after bz439
          replace hz436 := hz436.after bz439
          clear bz439
          refine ⟨_, rfl, ?_⟩
          refine hK' _ _ ⟨hB, ho⟩ (fun _ => trivial) ?_
          clear hK' K'
          go_frame
          refine y_oper 12 (by kernel_rfl) rfl rfl (fun K' hK' => ?_)
          refine wp_store_bytes 71 _ _ rfl rfl Wz350.heap.size rfl (Q) rfl _ _ hz408 27 (by kernel_rfl) HQ.out.len (by simp) (fun Wz445 pz446 => ?_)
          replace hB := pz446.below hB (by omega)
          replace h3 := pz446.other h3 (by omega)
          replace h6 := pz446.other h6 (by omega)
          replace ho := ho.put pz446 naz409
          replace hz436 := pz446.other hz436 (by omega)
          replace hz408 : At Wz445 Wz350.heap.size (.cells (u8s (Q)) 71 (0, 0)) := pz446.at_
          refine hK' _ _ ⟨hB, ho⟩ (fun _ => trivial) ?_
          clear hK' K' pz446
          refine y_oper 13 (by kernel_rfl) rfl rfl (fun K' hK' => ?_)
          refine wp_store_bytes 71 _ _ rfl rfl Wz405.heap.size rfl (R) rfl _ _ hz436 27 (by kernel_rfl) HRb.out.len (by simp) (fun Wz447 pz448 => ?_)
          replace hB := pz448.below hB (by omega)
          replace h3 := pz448.other h3 (by omega)
          replace h6 := pz448.other h6 (by omega)
          replace ho := ho.put pz448 naz437
          replace hz408 := pz448.other hz408 (by omega)
          replace hz436 : At Wz447 Wz405.heap.size (.cells (u8s (R)) 71 (0, 0)) := pz448.at_
          refine hK' _ _ ⟨hB, ho⟩ (fun _ => trivial) ?_
          clear hK' K' pz448
          refine y_done (by kernel_rfl) ?_ _
          go_wp2_with fail
          go_meet
          exact ⟨_, _, rfl, rfl, by omega, ⟨by omega, by omega, by omega, by omega⟩, hB, h3, h6, hz408, hz436, ho⟩
        ·have lz449 := hB.size
         have lz450 := h3.lt
         have lz451 := h6.lt
         have naz456 := ho.away_new
         refine wp_new (some 17) rfl (al__3_impl_Form rfl) (fun Wz452 nnz453 => ?_)
         have bz454 := nnz453.below (Below.refl _ _) (Nat.le_refl _)
         replace hB := below_after hB bz454
         replace h3 := h3.after bz454
         replace h6 := h6.after bz454
         replace ho := ho.below bz454
         have hz455 : At Wz452 Wz350.heap.size (.cells (u8s (List.replicate 27 0)) 71 (0, 0)) := nnz453.at_
         refine hK' _ _ ⟨hB, ho⟩ (fun _ => trivial) ?_
         clear hK' K' nnz453 bz454
         go_frame
         refine y_two 9 10 (by kernel_rfl) rfl rfl rfl rfl (fun K' hK' => ?_) (fun K' hK' => ?_)
         ·have lz459 := hB.size
          have lz460 := h3.lt
          have lz461 := h6.lt
          have lz462 := hz455.lt
          refine wp_call1 (some 77) rfl 45 _ _ rfl (fun args w => by kernel_rfl) _ rfl _ (l10Forms_c R HRb.out _) (fun e Wz457 h => ?_)
          obtain ⟨rfl, bz458⟩ := h
          replace hB := below_after hB bz458
          replace h3 := h3.after bz458
          replace h6 := h6.after bz458
          replace ho := ho.below bz458
          replace hz455 := hz455.after bz458
          clear bz458
          refine ⟨_, rfl, ?_⟩
          refine hK' _ _ ⟨hB, ho⟩ (fun _ => trivial) ?_
          clear hK' K'
          go_frame
          refine y_oper 10 (by kernel_rfl) rfl rfl (fun K' hK' => ?_)
          have lz463 := hB.size
          have lz464 := h3.lt
          have lz465 := h6.lt
          have lz466 := hz455.lt
          have naz471 := ho.away_new
          refine wp_new (some 16) rfl (al__3_impl_Form rfl) (fun Wz467 nnz468 => ?_)
          have bz469 := nnz468.below (Below.refl _ _) (Nat.le_refl _)
          replace hB := below_after hB bz469
          replace h3 := h3.after bz469
          replace h6 := h6.after bz469
          replace ho := ho.below bz469
          replace hz455 := hz455.after bz469
          have hz470 : At Wz467 Wz457.heap.size (.cells (u8s (List.replicate 27 0)) 71 (0, 0)) := nnz468.at_
          refine hK' _ _ ⟨hB, ho⟩ (fun _ => trivial) ?_
          clear hK' K' nnz468 bz469
          go_frame
          refine y_oper 12 (by kernel_rfl) rfl rfl (fun K' hK' => ?_)
          refine wp_store_bytes 71 _ _ rfl rfl Wz457.heap.size rfl (Q) rfl _ _ hz470 27 (by kernel_rfl) HQ.out.len (by simp) (fun Wz472 pz473 => ?_)
          replace hB := pz473.below hB (by omega)
          replace h3 := pz473.other h3 (by omega)
          replace h6 := pz473.other h6 (by omega)
          replace ho := ho.put pz473 naz471
          replace hz455 := pz473.other hz455 (by omega)
          replace hz470 : At Wz472 Wz457.heap.size (.cells (u8s (Q)) 71 (0, 0)) := pz473.at_
          refine hK' _ _ ⟨hB, ho⟩ (fun _ => trivial) ?_
          clear hK' K' pz473
          refine y_oper 13 (by kernel_rfl) rfl rfl (fun K' hK' => ?_)
          refine wp_store_bytes 71 _ _ rfl rfl Wz350.heap.size rfl (R) rfl _ _ hz455 27 (by kernel_rfl) HRb.out.len (by simp) (fun Wz474 pz475 => ?_)
          replace hB := pz475.below hB (by omega)
          replace h3 := pz475.other h3 (by omega)
          replace h6 := pz475.other h6 (by omega)
          replace ho := ho.put pz475 naz456
          replace hz470 := pz475.other hz470 (by omega)
          replace hz455 : At Wz474 Wz350.heap.size (.cells (u8s (R)) 71 (0, 0)) := pz475.at_
          refine hK' _ _ ⟨hB, ho⟩ (fun _ => trivial) ?_
          clear hK' K' pz475
          refine y_done (by kernel_rfl) ?_ _
          go_wp2_with fail
          go_meet
          exact ⟨_, _, rfl, rfl, by omega, ⟨by omega, by omega, by omega, by omega⟩, hB, h3, h6, hz470, hz455, ho⟩
         ·have lz476 := hB.size
          have lz477 := h3.lt
          have lz478 := h6.lt
          have lz479 := hz455.lt
          have naz484 := ho.away_new
          refine wp_new (some 16) rfl (al__3_impl_Form rfl) (fun Wz480 nnz481 => ?_)
          have bz482 := nnz481.below (Below.refl _ _) (Nat.le_refl _)
          replace hB := below_after hB bz482
          replace h3 := h3.after bz482
          replace h6 := h6.after bz482
          replace ho := ho.below bz482
          replace hz455 := hz455.after bz482
          have hz483 : At Wz480 Wz452.heap.size (.cells (u8s (List.replicate 27 0)) 71 (0, 0)) := nnz481.at_
          refine hK' _ _ ⟨hB, ho⟩ (fun _ => trivial) ?_
          clear hK' K' nnz481 bz482
          go_frame
          refine y_oper 9 (by kernel_rfl) rfl rfl (fun K' hK' => ?_)
          have lz487 := hB.size
          have lz488 := h3.lt
          have lz489 := h6.lt
          have lz490 := hz455.lt
          have lz491 := hz483.lt
          refine wp_call1 (some 77) rfl 45 _ _ rfl (fun args w => by kernel_rfl) _ rfl _ (l10Forms_c R HRb.out _) (fun e Wz485 h => ?_)
          obtain ⟨rfl, bz486⟩ := h
          replace hB := below_after hB bz486
          replace h3 := h3.after bz486
          replace h6 := h6.after bz486
          replace ho := ho.below bz486
          replace hz455 := hz455.after bz486
          replace hz483 := hz483.after bz486
          clear bz486
          refine ⟨_, rfl, ?_⟩
          refine hK' _ _ ⟨hB, ho⟩ (fun _ => trivial) ?_
          clear hK' K'
          go_frame
          refine y_oper 12 (by kernel_rfl) rfl rfl (fun K' hK' => ?_)
          refine wp_store_bytes 71 _ _ rfl rfl Wz452.heap.size rfl (Q) rfl _ _ hz483 27 (by kernel_rfl) HQ.out.len (by simp) (fun Wz492 pz493 => ?_)
          replace hB := pz493.below hB (by omega)
          replace h3 := pz493.other h3 (by omega)
          replace h6 := pz493.other h6 (by omega)
          replace ho := ho.put pz493 naz484
          replace hz455 := pz493.other hz455 (by omega)
          replace hz483 : At Wz492 Wz452.heap.size (.cells (u8s (Q)) 71 (0, 0)) := pz493.at_
          refine hK' _ _ ⟨hB, ho⟩ (fun _ => trivial) ?_
          clear hK' K' pz493
          refine y_oper 13 (by kernel_rfl) rfl rfl (fun K' hK' => ?_)
          refine wp_store_bytes 71 _ _ rfl rfl Wz350.heap.size rfl (R) rfl _ _ hz455 27 (by kernel_rfl) HRb.out.len (by simp) (fun Wz494 pz495 => ?_)
          replace hB := pz495.below hB (by omega)
          replace h3 := pz495.other h3 (by omega)
          replace h6 := pz495.other h6 (by omega)
          replace ho := ho.put pz495 naz456
          replace hz483 := pz495.other hz483 (by omega)
          replace hz455 : At Wz494 Wz350.heap.size (.cells (u8s (R)) 71 (0, 0)) := pz495.at_
          refine hK' _ _ ⟨hB, ho⟩ (fun _ => trivial) ?_
          clear hK' K' pz495
          refine y_done (by kernel_rfl) ?_ _
          go_wp2_with fail
          go_meet
          exact ⟨_, _, rfl, rfl, by omega, ⟨by omega, by omega, by omega, by omega⟩, hB, h3, h6, hz483, hz455, ho⟩
       ·have lz496 := hB.size
        have lz497 := h3.lt
        have lz498 := h6.lt
        have naz503 := ho.away_new
        refine wp_new (some 16) rfl (al__3_impl_Form rfl) (fun Wz499 nnz500 => ?_)
        have bz501 := nnz500.below (Below.refl _ _) (Nat.le_refl _)
        replace hB := below_after hB bz501
        replace h3 := h3.after bz501
        replace h6 := h6.after bz501
        replace ho := ho.below bz501
        have hz502 : At Wz499 wdz349.heap.size (.cells (u8s (List.replicate 27 0)) 71 (0, 0)) := nnz500.at_
        refine hK' _ _ ⟨hB, ho⟩ (fun _ => trivial) ?_
        clear hK' K' nnz500 bz501
        go_frame
        refine y_two 4 11 (by kernel_rfl) rfl rfl rfl rfl (fun K' hK' => ?_) (fun K' hK' => ?_)
        ·have lz506 := hB.size
         have lz507 := h3.lt
         have lz508 := h6.lt
         have lz509 := hz502.lt
         refine wp_call1 (some 72) rfl 45 _ _ rfl (fun args w => by kernel_rfl) _ rfl _ (l10Forms_c Q HQ.out _) (fun e Wz504 h => ?_)
         obtain ⟨rfl, bz505⟩ := h
         replace hB := below_after hB bz505
         replace h3 := h3.after bz505
         replace h6 := h6.after bz505
         replace ho := ho.below bz505
         replace hz502 := hz502.after bz505
         clear bz505
         refine ⟨_, rfl, ?_⟩
         refine hK' _ _ ⟨hB, ho⟩ (fun _ => trivial) ?_
         clear hK' K'
         go_frame
         refine y_two 9 11 (by kernel_rfl) rfl rfl rfl rfl (fun K' hK' => ?_) (fun K' hK' => ?_)
         ·have lz512 := hB.size
          have lz513 := h3.lt
          have lz514 := h6.lt
          have lz515 := hz502.lt
          refine wp_call1 (some 77) rfl 45 _ _ rfl (fun args w => by kernel_rfl) _ rfl _ (l10Forms_c R HRb.out _) (fun e Wz510 h => ?_)
          obtain ⟨rfl, bz511⟩ := h
          replace hB := below_after hB bz511
          replace h3 := h3.after bz511
          replace h6 := h6.after bz511
          replace ho := ho.below bz511
          replace hz502 := hz502.after bz511
          clear bz511
          refine ⟨_, rfl, ?_⟩
          refine hK' _ _ ⟨hB, ho⟩ (fun _ => trivial) ?_
          clear hK' K'
          go_frame
          refine y_oper 11 (by kernel_rfl) rfl rfl (fun K' hK' => ?_)
          have lz516 := hB.size
          have lz517 := h3.lt
          have lz518 := h6.lt
          have lz519 := hz502.lt
          have naz524 := ho.away_new
          refine wp_new (some 17) rfl (al__3_impl_Form rfl) (fun Wz520 nnz521 => ?_)
          have bz522 := nnz521.below (Below.refl _ _) (Nat.le_refl _)
          replace hB := below_after hB bz522
          replace h3 := h3.after bz522
          replace h6 := h6.after bz522
          replace ho := ho.below bz522
          replace hz502 := hz502.after bz522
          have hz523 : At Wz520 Wz510.heap.size (.cells (u8s (List.replicate 27 0)) 71 (0, 0)) := nnz521.at_
          refine hK' _ _ ⟨hB, ho⟩ (fun _ => trivial) ?_
          clear hK' K' nnz521 bz522
          go_frame
          refine y_oper 12 (by kernel_rfl) rfl rfl (fun K' hK' => ?_)
          refine wp_store_bytes 71 _ _ rfl rfl wdz349.heap.size rfl (Q) rfl _ _ hz502 27 (by kernel_rfl) HQ.out.len (by simp) (fun Wz525 pz526 => ?_)
          replace hB := pz526.below hB (by omega)
          replace h3 := pz526.other h3 (by omega)
          replace h6 := pz526.other h6 (by omega)
          replace ho := ho.put pz526 naz503
          replace hz523 := pz526.other hz523 (by omega)
          replace hz502 : At Wz525 wdz349.heap.size (.cells (u8s (Q)) 71 (0, 0)) := pz526.at_
          refine hK' _ _ ⟨hB, ho⟩ (fun _ => trivial) ?_
          clear hK' K' pz526
          refine y_oper 13 (by kernel_rfl) rfl rfl (fun K' hK' => ?_)
          refine wp_store_bytes 71 _ _ rfl rfl Wz510.heap.size rfl (R) rfl _ _ hz523 27 (by kernel_rfl) HRb.out.len (by simp) (fun Wz527 pz528 => ?_)
          replace hB := pz528.below hB (by omega)
          replace h3 := pz528.other h3 (by omega)
          replace h6 := pz528.other h6 (by omega)
          replace ho := ho.put pz528 naz524
          replace hz502 := pz528.other hz502 (by omega)
          replace hz523 : At Wz527 Wz510.heap.size (.cells (u8s (R)) 71 (0, 0)) := pz528.at_
          refine hK' _ _ ⟨hB, ho⟩ (fun _ => trivial) ?_
          clear hK' K' pz528
          refine y_done (by kernel_rfl) ?_ _
          go_wp2_with fail
          go_meet
          exact ⟨_, _, rfl, rfl, by omega, ⟨by omega, by omega, by omega, by omega⟩, hB, h3, h6, hz502, hz523, ho⟩
         ·have lz529 := hB.size
          have lz530 := h3.lt
          have lz531 := h6.lt
          have lz532 := hz502.lt
          have naz537 := ho.away_new
          refine wp_new (some 17) rfl (al__3_impl_Form rfl) (fun Wz533 nnz534 => ?_)
          have bz535 := nnz534.below (Below.refl _ _) (Nat.le_refl _)
          replace hB := below_after hB bz535
          replace h3 := h3.after bz535
          replace h6 := h6.after bz535
          replace ho := ho.below bz535
          replace hz502 := hz502.after bz535
          have hz536 : At Wz533 Wz504.heap.size (.cells (u8s (List.replicate 27 0)) 71 (0, 0)) := nnz534.at_
          refine hK' _ _ ⟨hB, ho⟩ (fun _ => trivial) ?_
          clear hK' K' nnz534 bz535
          go_frame
          refine y_oper 9 (by kernel_rfl) rfl rfl (fun K' hK' => ?_)
          have lz540 := hB.size
          have lz541 := h3.lt
          have lz542 := h6.lt
          have lz543 := hz502.lt
          have lz544 := hz536.lt
          refine wp_call1 (some 77) rfl 45 _ _ rfl (fun args w => by kernel_rfl) _ rfl _ (l10Forms_c R HRb.out _) (fun e Wz538 h => ?_)
          obtain ⟨rfl, bz539⟩ := h
          replace hB := below_after hB bz539
          replace h3 := h3.after bz539
          replace h6 := h6.after bz539
          replace ho := ho.below bz539
          replace hz502 := hz502.after bz539
          replace hz536 := hz536.after bz539
          clear bz539
          refine ⟨_, rfl, ?_⟩
          refine hK' _ _ ⟨hB, ho⟩ (fun _ => trivial) ?_
          clear hK' K'
          go_frame
          refine y_oper 12 (by kernel_rfl) rfl rfl (fun K' hK' => ?_)
          refine wp_store_bytes 71 _ _ rfl rfl wdz349.heap.size rfl (Q) rfl _ _ hz502 27 (by kernel_rfl) HQ.out.len (by simp) (fun Wz545 pz546 => ?_)
          replace hB := pz546.below hB (by omega)
          replace h3 := pz546.other h3 (by omega)
          replace h6 := pz546.other h6 (by omega)
          replace ho := ho.put pz546 naz503
          replace hz536 := pz546.other hz536 (by omega)
          replace hz502 : At Wz545 wdz349.heap.size (.cells (u8s (Q)) 71 (0, 0)) := pz546.at_
          refine hK' _ _ ⟨hB, ho⟩ (fun _ => trivial) ?_
          clear hK' K' pz546
          refine y_oper 13 (by kernel_rfl) rfl rfl (fun K' hK' => ?_)
          refine wp_store_bytes 71 _ _ rfl rfl Wz504.heap.size rfl (R) rfl _ _ hz536 27 (by kernel_rfl) HRb.out.len (by simp) (fun Wz547 pz548 => ?_)
          replace hB := pz548.below hB (by omega)
          replace h3 := pz548.other h3 (by omega)
          replace h6 := pz548.other h6 (by omega)
          replace ho := ho.put pz548 naz537
          replace hz502 := pz548.other hz502 (by omega)
          replace hz536 : At Wz547 Wz504.heap.size (.cells (u8s (R)) 71 (0, 0)) := pz548.at_
          refine hK' _ _ ⟨hB, ho⟩ (fun _ => trivial) ?_
          clear hK' K' pz548
          refine y_done (by kernel_rfl) ?_ _
          go_wp2_with fail
          go_meet
          exact ⟨_, _, rfl, rfl, by omega, ⟨by omega, by omega, by omega, by omega⟩, hB, h3, h6, hz502, hz536, ho⟩
        ·have lz549 := hB.size
         have lz550 := h3.lt
         have lz551 := h6.lt
         have lz552 := hz502.lt
         have naz557 := ho.away_new
         refine wp_new (some 17) rfl (al__3_impl_Form rfl) (fun Wz553 nnz554 => ?_)
         have bz555 := nnz554.below (Below.refl _ _) (Nat.le_refl _)
         replace hB := below_after hB bz555
         replace h3 := h3.after bz555
         replace h6 := h6.after bz555
         replace ho := ho.below bz555
         replace hz502 := hz502.after bz555
         have hz556 : At Wz553 Wz499.heap.size (.cells (u8s (List.replicate 27 0)) 71 (0, 0)) := nnz554.at_
         refine hK' _ _ ⟨hB, ho⟩ (fun _ => trivial) ?_
         clear hK' K' nnz554 bz555
         go_frame
         refine y_oper 4 (by kernel_rfl) rfl rfl (fun K' hK' => ?_)
         have lz560 := hB.size
         have lz561 := h3.lt
         have lz562 := h6.lt
         have lz563 := hz502.lt
         have lz564 := hz556.lt
         refine wp_call1 (some 72) rfl 45 _ _ rfl (fun args w => by kernel_rfl) _ rfl _ (l10Forms_c Q HQ.out _) (fun e Wz558 h => ?_)
         obtain ⟨rfl, bz559⟩ := h
         replace hB := below_after hB bz559
         replace h3 := h3.after bz559
         replace h6 := h6.after bz559
         replace ho := ho.below bz559
         replace hz502 := hz502.after bz559
         replace hz556 := hz556.after bz559
         clear bz559
         refine ⟨_, rfl, ?_⟩
         refine hK' _ _ ⟨hB, ho⟩ (fun _ => trivial) ?_
         clear hK' K'
         go_frame
         refine y_oper 9 (by kernel_rfl) rfl rfl (fun K' hK' => ?_)
         have lz567 := hB.size
         have lz568 := h3.lt
         have lz569 := h6.lt
         have lz570 := hz502.lt
         have lz571 := hz556.lt
         refine wp_call1 (some 77) rfl 45 _ _ rfl (fun args w => by kernel_rfl) _ rfl _ (l10Forms_c R HRb.out _) (fun e Wz565 h => ?_)
         obtain ⟨rfl, bz566⟩ := h
         replace hB := below_after hB bz566
         replace h3 := h3.after bz566
         replace h6 := h6.after bz566
         replace ho := ho.below bz566
         replace hz502 := hz502.after bz566
         replace hz556 := hz556.after bz566
         clear bz566
         refine ⟨_, rfl, ?_⟩
         refine hK' _ _ ⟨hB, ho⟩ (fun _ => trivial) ?_
         clear hK' K'
         go_frame
         refine y_oper 12 (by kernel_rfl) rfl rfl (fun K' hK' => ?_)
         refine wp_store_bytes 71 _ _ rfl rfl wdz349.heap.size rfl (Q) rfl _ _ hz502 27 (by kernel_rfl) HQ.out.len (by simp) (fun Wz572 pz573 => ?_)
         replace hB := pz573.below hB (by omega)
         replace h3 := pz573.other h3 (by omega)
         replace h6 := pz573.other h6 (by omega)
         replace ho := ho.put pz573 naz503
         replace hz556 := pz573.other hz556 (by omega)
         replace hz502 : At Wz572 wdz349.heap.size (.cells (u8s (Q)) 71 (0, 0)) := pz573.at_
         refine hK' _ _ ⟨hB, ho⟩ (fun _ => trivial) ?_
         clear hK' K' pz573
         refine y_oper 13 (by kernel_rfl) rfl rfl (fun K' hK' => ?_)
         refine wp_store_bytes 71 _ _ rfl rfl Wz499.heap.size rfl (R) rfl _ _ hz556 27 (by kernel_rfl) HRb.out.len (by simp) (fun Wz574 pz575 => ?_)
         replace hB := pz575.below hB (by omega)
         replace h3 := pz575.other h3 (by omega)
         replace h6 := pz575.other h6 (by omega)
         replace ho := ho.put pz575 naz557
         replace hz502 := pz575.other hz502 (by omega)
         replace hz556 : At Wz574 Wz499.heap.size (.cells (u8s (R)) 71 (0, 0)) := pz575.at_
         refine hK' _ _ ⟨hB, ho⟩ (fun _ => trivial) ?_
         clear hK' K' pz575
         refine y_done (by kernel_rfl) ?_ _
         go_wp2_with fail
         go_meet
         exact ⟨_, _, rfl, rfl, by omega, ⟨by omega, by omega, by omega, by omega⟩, hB, h3, h6, hz502, hz556, ho⟩
       ·have lz576 := hB.size
        have lz577 := h3.lt
        have lz578 := h6.lt
        have naz583 := ho.away_new
        refine wp_new (some 17) rfl (al__3_impl_Form rfl) (fun Wz579 nnz580 => ?_)
        have bz581 := nnz580.below (Below.refl _ _) (Nat.le_refl _)
        replace hB := below_after hB bz581
        replace h3 := h3.after bz581
        replace h6 := h6.after bz581
        replace ho := ho.below bz581
        have hz582 : At Wz579 wdz349.heap.size (.cells (u8s (List.replicate 27 0)) 71 (0, 0)) := nnz580.at_
        refine hK' _ _ ⟨hB, ho⟩ (fun _ => trivial) ?_
        clear hK' K' nnz580 bz581
        go_frame
        refine y_two 4 10 (by kernel_rfl) rfl rfl rfl rfl (fun K' hK' => ?_) (fun K' hK' => ?_)
        ·have lz586 := hB.size
         have lz587 := h3.lt
         have lz588 := h6.lt
         have lz589 := hz582.lt
         refine wp_call1 (some 72) rfl 45 _ _ rfl (fun args w => by kernel_rfl) _ rfl _ (l10Forms_c Q HQ.out _) (fun e Wz584 h => ?_)
         obtain ⟨rfl, bz585⟩ := h
         replace hB := below_after hB bz585
         replace h3 := h3.after bz585
         replace h6 := h6.after bz585
         replace ho := ho.below bz585
         replace hz582 := hz582.after bz585
         clear bz585
         refine ⟨_, rfl, ?_⟩
         refine hK' _ _ ⟨hB, ho⟩ (fun _ => trivial) ?_
         clear hK' K'
         go_frame
         refine y_two 9 10 (by kernel_rfl) rfl rfl rfl rfl (fun K' hK' => ?_) (fun K' hK' => ?_)
         ·have lz592 := hB.size
          have lz593 := h3.lt
          have lz594 := h6.lt
          have lz595 := hz582.lt
          refine wp_call1 (some 77) rfl 45 _ _ rfl (fun args w => by kernel_rfl) _ rfl _ (l10Forms_c R HRb.out _) (fun e Wz590 h => ?_)
          obtain ⟨rfl, bz591⟩ := h
          replace hB := below_after hB bz591
          replace h3 := h3.after bz591
          replace h6 := h6.after bz591
          replace ho := ho.below bz591
          replace hz582 := hz582.after bz591
          clear bz591
          refine ⟨_, rfl, ?_⟩
          refine hK' _ _ ⟨hB, ho⟩ (fun _ => trivial) ?_
          clear hK' K'
          go_frame
          refine y_oper 10 (by kernel_rfl) rfl rfl (fun K' hK' => ?_)
          have lz596 := hB.size
          have lz597 := h3.lt
          have lz598 := h6.lt
          have lz599 := hz582.lt
          have naz604 := ho.away_new
          refine wp_new (some 16) rfl (al__3_impl_Form rfl) (fun Wz600 nnz601 => ?_)
          have bz602 := nnz601.below (Below.refl _ _) (Nat.le_refl _)
          replace hB := below_after hB bz602
          replace h3 := h3.after bz602
          replace h6 := h6.after bz602
          replace ho := ho.below bz602
          replace hz582 := hz582.after bz602
          have hz603 : At Wz600 Wz590.heap.size (.cells (u8s (List.replicate 27 0)) 71 (0, 0)) := nnz601.at_
          refine hK' _ _ ⟨hB, ho⟩ (fun _ => trivial) ?_
          clear hK' K' nnz601 bz602
          go_frame
          refine y_oper 12 (by kernel_rfl) rfl rfl (fun K' hK' => ?_)
          refine wp_store_bytes 71 _ _ rfl rfl Wz590.heap.size rfl (Q) rfl _ _ hz603 27 (by kernel_rfl) HQ.out.len (by simp) (fun Wz605 pz606 => ?_)
          replace hB := pz606.below hB (by omega)
          replace h3 := pz606.other h3 (by omega)
          replace h6 := pz606.other h6 (by omega)
          replace ho := ho.put pz606 naz604
          replace hz582 := pz606.other hz582 (by omega)
          replace hz603 : At Wz605 Wz590.heap.size (.cells (u8s (Q)) 71 (0, 0)) := pz606.at_
          refine hK' _ _ ⟨hB, ho⟩ (fun _ => trivial) ?_
          clear hK' K' pz606
          refine y_oper 13 (by kernel_rfl) rfl rfl (fun K' hK' => ?_)
          refine wp_store_bytes 71 _ _ rfl rfl wdz349.heap.size rfl (R) rfl _ _ hz582 27 (by kernel_rfl) HRb.out.len (by simp) (fun Wz607 pz608 => ?_)
          replace hB := pz608.below hB (by omega)
          replace h3 := pz608.other h3 (by omega)
          replace h6 := pz608.other h6 (by omega)
          replace ho := ho.put pz608 naz583
          replace hz603 := pz608.other hz603 (by omega)
          replace hz582 : At Wz607 wdz349.heap.size (.cells (u8s (R)) 71 (0, 0)) := pz608.at_
          refine hK' _ _ ⟨hB, ho⟩ (fun _ => trivial) ?_
          clear hK' K' pz608
          refine y_done (by kernel_rfl) ?_ _
          go_wp2_with fail
          go_meet
          exact ⟨_, _, rfl, rfl, by omega, ⟨by omega, by omega, by omega, by omega⟩, hB, h3, h6, hz603, hz582, ho⟩
         ·have lz609 := hB.size
          have lz610 := h3.lt
          have lz611 := h6.lt
          have lz612 := hz582.lt
          have naz617 := ho.away_new
          refine wp_new (some 16) rfl (al__3_impl_Form rfl) (fun Wz613 nnz614 => ?_)
          have bz615 := nnz614.below (Below.refl _ _) (Nat.le_refl _)
          replace hB := below_after hB bz615
          replace h3 := h3.after bz615
          replace h6 := h6.after bz615
          replace ho := ho.below bz615
          replace hz582 := hz582.after bz615
          have hz616 : At Wz613 Wz584.heap.size (.cells (u8s (List.replicate 27 0)) 71 (0, 0)) := nnz614.at_
          refine hK' _ _ ⟨hB, ho⟩ (fun _ => trivial) ?_
          clear hK' K' nnz614 bz615
          go_frame
          refine y_oper 9 (by kernel_rfl) rfl rfl (fun K' hK' => ?_)
          have lz620 := hB.size
          have lz621 := h3.lt
          have lz622 := h6.lt
          have lz623 := hz582.lt
          have lz624 := hz616.lt
          refine wp_call1 (some 77) rfl 45 _ _ rfl (fun args w => by kernel_rfl) _ rfl _ (l10Forms_c R HRb.out _) (fun e Wz618 h => ?_)
          obtain ⟨rfl, bz619⟩ := h
          replace hB := below_after hB bz619
          replace h3 := h3.after bz619
          replace h6 := h6.after bz619
          replace ho := ho.below bz619
          replace hz582 := hz582.after bz619
          replace hz616 := hz616.after bz619
          clear bz619
          refine ⟨_, rfl, ?_⟩
          refine hK' _ _ ⟨hB, ho⟩ (fun _ => trivial) ?_
          clear hK' K'
          go_frame
          refine y_oper 12 (by kernel_rfl) rfl rfl (fun K' hK' => ?_)
          refine wp_store_bytes 71 _ _ rfl rfl Wz584.heap.size rfl (Q) rfl _ _ hz616 27 (by kernel_rfl) HQ.out.len (by simp) (fun Wz625 pz626 => ?_)
          replace hB := pz626.below hB (by omega)
          replace h3 := pz626.other h3 (by omega)
          replace h6 := pz626.other h6 (by omega)
          replace ho := ho.put pz626 naz617
          replace hz582 := pz626.other hz582 (by omega)
          replace hz616 : At Wz625 Wz584.heap.size (.cells (u8s (Q)) 71 (0, 0)) := pz626.at_
          refine hK' _ _ ⟨hB, ho⟩ (fun _ => trivial) ?_
          clear hK' K' pz626
          refine y_oper 13 (by kernel_rfl) rfl rfl (fun K' hK' => ?_)
          refine wp_store_bytes 71 _ _ rfl rfl wdz349.heap.size rfl (R) rfl _ _ hz582 27 (by kernel_rfl) HRb.out.len (by simp) (fun Wz627 pz628 => ?_)
          replace hB := pz628.below hB (by omega)
          replace h3 := pz628.other h3 (by omega)
          replace h6 := pz628.other h6 (by omega)
          replace ho := ho.put pz628 naz583
          replace hz616 := pz628.other hz616 (by omega)
          replace hz582 : At Wz627 wdz349.heap.size (.cells (u8s (R)) 71 (0, 0)) := pz628.at_
          refine hK' _ _ ⟨hB, ho⟩ (fun _ => trivial) ?_
          clear hK' K' pz628
          refine y_done (by kernel_rfl) ?_ _
          go_wp2_with fail
          go_meet
          exact ⟨_, _, rfl, rfl, by omega, ⟨by omega, by omega, by omega, by omega⟩, hB, h3, h6, hz616, hz582, ho⟩
        ·have lz629 := hB.size
         have lz630 := h3.lt
         have lz631 := h6.lt
         have lz632 := hz582.lt
         have naz637 := ho.away_new
         refine wp_new (some 16) rfl (al__3_impl_Form rfl) (fun Wz633 nnz634 => ?_)
         have bz635 := nnz634.below (Below.refl _ _) (Nat.le_refl _)
         replace hB := below_after hB bz635
         replace h3 := h3.after bz635
         replace h6 := h6.after bz635
         replace ho := ho.below bz635
         replace hz582 := hz582.after bz635
         have hz636 : At Wz633 Wz579.heap.size (.cells (u8s (List.replicate 27 0)) 71 (0, 0)) := nnz634.at_
         refine hK' _ _ ⟨hB, ho⟩ (fun _ => trivial) ?_
         clear hK' K' nnz634 bz635
         go_frame
         refine y_oper 4 (by kernel_rfl) rfl rfl (fun K' hK' => ?_)
         have lz640 := hB.size
         have lz641 := h3.lt
         have lz642 := h6.lt
         have lz643 := hz582.lt
         have lz644 := hz636.lt
         refine wp_call1 (some 72) rfl 45 _ _ rfl (fun args w => by kernel_rfl) _ rfl _ (l10Forms_c Q HQ.out _) (fun e Wz638 h => ?_)
         obtain ⟨rfl, bz639⟩ := h
         replace hB := below_after hB bz639
         replace h3 := h3.after bz639
         replace h6 := h6.after bz639
         replace ho := ho.below bz639
         replace hz582 := hz582.after bz639
         replace hz636 := hz636.after bz639
         clear bz639
         refine ⟨_, rfl, ?_⟩
         refine hK' _ _ ⟨hB, ho⟩ (fun _ => trivial) ?_
         clear hK' K'
         go_frame
         refine y_oper 9 (by kernel_rfl) rfl rfl (fun K' hK' => ?_)
         have lz647 := hB.size
         have lz648 := h3.lt
         have lz649 := h6.lt
         have lz650 := hz582.lt
         have lz651 := hz636.lt
         refine wp_call1 (some 77) rfl 45 _ _ rfl (fun args w => by kernel_rfl) _ rfl _ (l10Forms_c R HRb.out _) (fun e Wz645 h => ?_)
         obtain ⟨rfl, bz646⟩ := h
         replace hB := below_after hB bz646
         replace h3 := h3.after bz646
         replace h6 := h6.after bz646
         replace ho := ho.below bz646
         replace hz582 := hz582.after bz646
         replace hz636 := hz636.after bz646
         clear bz646
         refine ⟨_, rfl, ?_⟩
         refine hK' _ _ ⟨hB, ho⟩ (fun _ => trivial) ?_
         clear hK' K'
         go_frame
         refine y_oper 12 (by kernel_rfl) rfl rfl (fun K' hK' => ?_)
         refine wp_store_bytes 71 _ _ rfl rfl Wz579.heap.size rfl (Q) rfl _ _ hz636 27 (by kernel_rfl) HQ.out.len (by simp) (fun Wz652 pz653 => ?_)
         replace hB := pz653.below hB (by omega)
         replace h3 := pz653.other h3 (by omega)
         replace h6 := pz653.other h6 (by omega)
         replace ho := ho.put pz653 naz637
         replace hz582 := pz653.other hz582 (by omega)
         replace hz636 : At Wz652 Wz579.heap.size (.cells (u8s (Q)) 71 (0, 0)) := pz653.at_
         refine hK' _ _ ⟨hB, ho⟩ (fun _ => trivial) ?_
         clear hK' K' pz653
         refine y_oper 13 (by kernel_rfl) rfl rfl (fun K' hK' => ?_)
         refine wp_store_bytes 71 _ _ rfl rfl wdz349.heap.size rfl (R) rfl _ _ hz582 27 (by kernel_rfl) HRb.out.len (by simp) (fun Wz654 pz655 => ?_)
         replace hB := pz655.below hB (by omega)
         replace h3 := pz655.other h3 (by omega)
         replace h6 := pz655.other h6 (by omega)
         replace ho := ho.put pz655 naz583
         replace hz636 := pz655.other hz636 (by omega)
         replace hz582 : At Wz654 wdz349.heap.size (.cells (u8s (R)) 71 (0, 0)) := pz655.at_
         refine hK' _ _ ⟨hB, ho⟩ (fun _ => trivial) ?_
         clear hK' K' pz655
         refine y_done (by kernel_rfl) ?_ _
         go_wp2_with fail
         go_meet
         exact ⟨_, _, rfl, rfl, by omega, ⟨by omega, by omega, by omega, by omega⟩, hB, h3, h6, hz636, hz582, ho⟩
      case rest =>
      clear hB h3 h6 ho
      obtain ⟨b16, b17, rfl, rfl, hne9, ⟨l1, l2, l3, l4⟩, hB, h3, h6, h16, h17, ho⟩ := hcut
      obtain ⟨wc, rfl⟩ := cut_worldF hB
      go_upto_region 16 with (fail)
      refine wp_region_y (zs := []) (S := fun w' => Below w.heap.size w w' ∧ At w' b16 (.cells (u8s (Q)) 71 (0, 0)) ∧ At w' b17 (.cells (u8s (R)) 71 (0, 0))) (S2 := fun w' => True) (by kernel_rfl) ?_
      change wpAnyY _ _ _ _ _ _ _ _ _ _ (World.drew _)
      generalize hwdz656 : World.drew _ = wdz656
      replace hB : Below w.heap.size w wdz656 := by rw [← hwdz656]; exact hB.drew
      replace h3 : At wdz656 w.heap.size (.cells #[.int .i64 p, .int .i64 n, .int .i64 m, .int .i64 k, .slice (some ⟨a0, 0, none⟩) qs.length c] 31 (0, 0)) := by rw [← hwdz656]; exact h3
      replace h6 : At wdz656 Wz2.heap.size (.cells #[.int .i64 0, .int .i64 0, .int .i64 0, .int .i64 0, .slice none 0 0] 31 (0, 0)) := by rw [← hwdz656]; exact h6
      replace h16 : At wdz656 b16 (.cells (u8s (Q)) 71 (0, 0)) := by rw [← hwdz656]; exact h16
      replace h17 : At wdz656 b17 (.cells (u8s (R)) 71 (0, 0)) := by rw [← hwdz656]; exact h17
      replace ho : Own wdz656 w.heap.size (.slice (some ⟨g, 0, none⟩) L.length c9) (L) := by rw [← hwdz656]; exact ho.drew
      clear hwdz656
      refine y_yield 0 (some 78) (.int .i64 I) rfl (by kernel_rfl) (by kernel_rfl) (by kernel_rfl) (fun _ _ _ h => h) rfl rfl ⟨hB, h16, h17⟩ (fun w' h' => exec_move _ rfl (.int .i64 I) rfl) ?_
      go_frame
      refine y_yield 1 (some 79) (.int .i64 J) rfl (by kernel_rfl) (by kernel_rfl) (by kernel_rfl) (fun _ _ _ h => h) rfl rfl ⟨hB, h16, h17⟩ (fun w' h' => exec_move _ rfl (.int .i64 J) rfl) ?_
      go_frame
      refine y_yield 2 (some 80) (.bool false) rfl (by kernel_rfl) (by kernel_rfl) (by kernel_rfl) (fun _ _ _ h => h) rfl rfl ⟨hB, h16, h17⟩ (fun w' h' => exec_eql _ _ _ _ rfl I J rfl rfl false (beq_eq_false_iff_ne.2 (by omega))) ?_
      go_frame
      refine y_yield 3 (some 81) (.bool false) rfl (by kernel_rfl) (by kernel_rfl) (by kernel_rfl) (fun _ _ _ h => h) rfl rfl ⟨hB, h16, h17⟩ (fun w' h' => exec_move _ rfl (.bool false) rfl) ?_
      go_frame
      refine y_yield 4 (some 82) (.int .i64 F) rfl (by kernel_rfl) (by kernel_rfl) (by kernel_rfl) (fun _ _ _ h => h) rfl rfl ⟨hB, h16, h17⟩ (fun w' h' => exec_move _ rfl (.int .i64 F) rfl) ?_
      go_frame
      refine y_yield 5 (some 83) (.pointer (some ⟨b16, F * 9, none⟩)) rfl (by kernel_rfl) (by kernel_rfl) (by kernel_rfl) (fun _ _ _ h => h) rfl rfl ⟨hB, h16, h17⟩ (fun w' h' => exec_index_arr0f 71 50 _ _ rfl b16 3 F 9 rfl rfl Try.underlying71 (by kernel_rfl) hF3) ?_
      go_frame
      refine y_yield 6 (some 84) (.agg (u8s (facQ Q F))) rfl (by kernel_rfl) (by kernel_rfl) (by kernel_rfl) (fun _ _ _ h => h) rfl rfl ⟨hB, h16, h17⟩ (fun w' h' => exec_load_seg 50 _ rfl b16 (F * 9) rfl _ (Q) _ 9 h'.2.1 Try.underlying50 rfl (by kernel_rfl) (by rw [HQ.out.len]; omega) (facQ Q F) rfl) ?_
      go_frame
      refine y_yield 7 (some 85) (.int .i64 F) rfl (by kernel_rfl) (by kernel_rfl) (by kernel_rfl) (fun _ _ _ h => h) rfl rfl ⟨hB, h16, h17⟩ (fun w' h' => exec_move _ rfl (.int .i64 F) rfl) ?_
      go_frame
      refine y_yield 8 (some 86) (.pointer (some ⟨b17, F * 9, none⟩)) rfl (by kernel_rfl) (by kernel_rfl) (by kernel_rfl) (fun _ _ _ h => h) rfl rfl ⟨hB, h16, h17⟩ (fun w' h' => exec_index_arr0f 71 50 _ _ rfl b17 3 F 9 rfl rfl Try.underlying71 (by kernel_rfl) hF3) ?_
      go_frame
      refine y_yield 9 (some 87) (.agg (u8s (facQ R F))) rfl (by kernel_rfl) (by kernel_rfl) (by kernel_rfl) (fun _ _ _ h => h) rfl rfl ⟨hB, h16, h17⟩ (fun w' h' => exec_load_seg 50 _ rfl b17 (F * 9) rfl _ (R) _ 9 h'.2.2 Try.underlying50 rfl (by kernel_rfl) (by rw [HRb.out.len]; omega) (facQ R F) rfl) ?_
      go_frame
      refine y_yield 10 (some 88) (.bool false) rfl (by kernel_rfl) (by kernel_rfl) (by kernel_rfl) (fun _ _ _ h => h) rfl rfl ⟨hB, h16, h17⟩ (fun w' h' => exec_neqFc _ _ _ rfl (facQ Q F) (facQ R F) rfl rfl (facQ_bytes HQ.out hF3).len (facQ_bytes HRb.out hF3).len false HNE.out) ?_
      go_frame
      refine y_yield 11 (some 89) (.bool false) rfl (by kernel_rfl) (by kernel_rfl) (by kernel_rfl) (fun _ _ _ h => h) rfl rfl ⟨hB, h16, h17⟩ (fun w' h' => exec_pick _ _ _ rfl false rfl (.bool false) rfl) ?_
      go_frame
      refine y_done (by kernel_rfl) ?_ _
      go_upto_region 17 with (fail)
      refine wp_region_lit ?_
      refine ls_ex (some 90) (.int .i64 F) rfl rfl (exec_move _ rfl (.int .i64 F) rfl) ?_
      go_frame
      refine ls_ex (some 91) (.int .i64 f1) rfl rfl (exec_add _ _ _ _ rfl F 1 f1 rfl rfl Hf1.out) ?_
      go_frame
      refine ls_ex (some 92) (.int .i64 G) rfl rfl (exec_rem _ _ _ _ rfl f1 3 G rfl rfl (by decide) HGm.out) ?_
      go_frame
      refine ls_ex (some 93) (.int .i64 F) rfl rfl (exec_move _ rfl (.int .i64 F) rfl) ?_
      go_frame
      refine ls_ex (some 94) (.int .i64 f2) rfl rfl (exec_add _ _ _ _ rfl F 2 f2 rfl rfl Hf2.out) ?_
      go_frame
      refine ls_ex (some 95) (.int .i64 H) rfl rfl (exec_rem _ _ _ _ rfl f2 3 H rfl rfl (by decide) HHm.out) ?_
      go_frame
      refine ls_ex (some 18) (.int .i64 G) rfl rfl (exec_assign _ rfl (.int .i64 G) rfl) ?_
      go_frame
      refine ls_ex (some 19) (.int .i64 H) rfl rfl (exec_assign _ rfl (.int .i64 H) rfl) ?_
      go_frame
      refine wpList_nil ?_
      go_upto_region 18 with (fail)
      go_cut [20, 21] from 96 to 113 (fun s20 s21 wx => ∃ b20 b21 : Nat, s20 = .pointer (some ⟨b20, 0, none⟩) ∧ s21 = .pointer (some ⟨b21, 0, none⟩) ∧ (w.heap.size < b20 ∧ w.heap.size < b21 ∧ Wz2.heap.size < b20 ∧ Wz2.heap.size < b21 ∧ b16 < b20 ∧ b16 < b21 ∧ b17 < b20 ∧ b17 < b21) ∧ Below w.heap.size w wx ∧ At wx w.heap.size (.cells #[.int .i64 p, .int .i64 n, .int .i64 m, .int .i64 k, .slice (some ⟨a0, 0, none⟩) qs.length c] 31 (0, 0)) ∧ At wx Wz2.heap.size (.cells #[.int .i64 0, .int .i64 0, .int .i64 0, .int .i64 0, .slice none 0 0] 31 (0, 0)) ∧ At wx b16 (.cells (u8s (Q)) 71 (0, 0)) ∧ At wx b17 (.cells (u8s (R)) 71 (0, 0)) ∧ At wx b20 (.cells (u8s (F1)) 50 (0, 0)) ∧ At wx b21 (.cells (u8s (F2)) 50 (0, 0)) ∧ Own wx w.heap.size (.slice (some ⟨g, 0, none⟩) L.length c9) (L))
      case first =>
       refine wp_region_y (zs := []) (S := fun w' => Below w.heap.size w w' ∧ At w' w.heap.size (.cells #[.int .i64 p, .int .i64 n, .int .i64 m, .int .i64 k, .slice (some ⟨a0, 0, none⟩) qs.length c] 31 (0, 0)) ∧ At w' b16 (.cells (u8s (Q)) 71 (0, 0)) ∧ At w' b17 (.cells (u8s (R)) 71 (0, 0))) (S2 := fun w' => True) (by kernel_rfl) ?_
       change wpAnyY _ _ _ _ _ _ _ _ _ _ (World.drew _)
       generalize hwdz657 : World.drew _ = wdz657
       replace hB : Below w.heap.size w wdz657 := by rw [← hwdz657]; exact hB.drew
       replace h3 : At wdz657 w.heap.size (.cells #[.int .i64 p, .int .i64 n, .int .i64 m, .int .i64 k, .slice (some ⟨a0, 0, none⟩) qs.length c] 31 (0, 0)) := by rw [← hwdz657]; exact h3
       replace h6 : At wdz657 Wz2.heap.size (.cells #[.int .i64 0, .int .i64 0, .int .i64 0, .int .i64 0, .slice none 0 0] 31 (0, 0)) := by rw [← hwdz657]; exact h6
       replace h16 : At wdz657 b16 (.cells (u8s (Q)) 71 (0, 0)) := by rw [← hwdz657]; exact h16
       replace h17 : At wdz657 b17 (.cells (u8s (R)) 71 (0, 0)) := by rw [← hwdz657]; exact h17
       replace ho : Own wdz657 w.heap.size (.slice (some ⟨g, 0, none⟩) L.length c9) (L) := by rw [← hwdz657]; exact ho.drew
       clear hwdz657
       refine y_yield 0 (some 96) (.pointer (some ⟨w.heap.size, 0, none⟩)) rfl (by kernel_rfl) (by kernel_rfl) (by kernel_rfl) (fun _ _ _ h => h) rfl rfl ⟨hB, h3, h16, h17⟩ (fun w' h' => exec_fieldAddr 31 _ 0 rfl _ (by kernel_rfl)) ?_
       go_frame
       refine y_yield 1 (some 97) (.int .i64 p) rfl (by kernel_rfl) (by kernel_rfl) (by kernel_rfl) (fun _ _ _ h => h) rfl rfl ⟨hB, h3, h16, h17⟩ (fun w' h' => exec_load_one 2 _ rfl w.heap.size 0 rfl (.int .i64 p) _ Try.underlying2 rfl (h'.2.1.at_ 0)) ?_
       go_frame
       refine y_yield 2 (some 98) (.int .i64 G) rfl (by kernel_rfl) (by kernel_rfl) (by kernel_rfl) (fun _ _ _ h => h) rfl rfl ⟨hB, h3, h16, h17⟩ (fun w' h' => exec_move _ rfl (.int .i64 G) rfl) ?_
       go_frame
       refine y_yield 3 (some 99) (.pointer (some ⟨b16, G * 9, none⟩)) rfl (by kernel_rfl) (by kernel_rfl) (by kernel_rfl) (fun _ _ _ h => h) rfl rfl ⟨hB, h3, h16, h17⟩ (fun w' h' => exec_index_arr0f 71 50 _ _ rfl b16 3 G 9 rfl rfl Try.underlying71 (by kernel_rfl) hG3) ?_
       go_frame
       refine y_yield 4 (some 100) (.agg (u8s (facQ Q G))) rfl (by kernel_rfl) (by kernel_rfl) (by kernel_rfl) (fun _ _ _ h => h) rfl rfl ⟨hB, h3, h16, h17⟩ (fun w' h' => exec_load_seg 50 _ rfl b16 (G * 9) rfl _ (Q) _ 9 h'.2.2.1 Try.underlying50 rfl (by kernel_rfl) (by rw [HQ.out.len]; omega) (facQ Q G) rfl) ?_
       go_frame
       refine y_yield 5 (some 101) (.int .i64 G) rfl (by kernel_rfl) (by kernel_rfl) (by kernel_rfl) (fun _ _ _ h => h) rfl rfl ⟨hB, h3, h16, h17⟩ (fun w' h' => exec_move _ rfl (.int .i64 G) rfl) ?_
       go_frame
       refine y_yield 6 (some 102) (.pointer (some ⟨b17, G * 9, none⟩)) rfl (by kernel_rfl) (by kernel_rfl) (by kernel_rfl) (fun _ _ _ h => h) rfl rfl ⟨hB, h3, h16, h17⟩ (fun w' h' => exec_index_arr0f 71 50 _ _ rfl b17 3 G 9 rfl rfl Try.underlying71 (by kernel_rfl) hG3) ?_
       go_frame
       refine y_yield 7 (some 103) (.agg (u8s (facQ R G))) rfl (by kernel_rfl) (by kernel_rfl) (by kernel_rfl) (fun _ _ _ h => h) rfl rfl ⟨hB, h3, h16, h17⟩ (fun w' h' => exec_load_seg 50 _ rfl b17 (G * 9) rfl _ (R) _ 9 h'.2.2.2 Try.underlying50 rfl (by kernel_rfl) (by rw [HRb.out.len]; omega) (facQ R G) rfl) ?_
       go_frame
       refine y_yield 9 (some 105) (.pointer (some ⟨w.heap.size, 0, none⟩)) rfl (by kernel_rfl) (by kernel_rfl) (by kernel_rfl) (fun _ _ _ h => h) rfl rfl ⟨hB, h3, h16, h17⟩ (fun w' h' => exec_fieldAddr 31 _ 0 rfl _ (by kernel_rfl)) ?_
       go_frame
       refine y_yield 10 (some 106) (.int .i64 p) rfl (by kernel_rfl) (by kernel_rfl) (by kernel_rfl) (fun _ _ _ h => h) rfl rfl ⟨hB, h3, h16, h17⟩ (fun w' h' => exec_load_one 2 _ rfl w.heap.size 0 rfl (.int .i64 p) _ Try.underlying2 rfl (h'.2.1.at_ 0)) ?_
       go_frame
       refine y_yield 11 (some 107) (.int .i64 H) rfl (by kernel_rfl) (by kernel_rfl) (by kernel_rfl) (fun _ _ _ h => h) rfl rfl ⟨hB, h3, h16, h17⟩ (fun w' h' => exec_move _ rfl (.int .i64 H) rfl) ?_
       go_frame
       refine y_yield 12 (some 108) (.pointer (some ⟨b17, H * 9, none⟩)) rfl (by kernel_rfl) (by kernel_rfl) (by kernel_rfl) (fun _ _ _ h => h) rfl rfl ⟨hB, h3, h16, h17⟩ (fun w' h' => exec_index_arr0f 71 50 _ _ rfl b17 3 H 9 rfl rfl Try.underlying71 (by kernel_rfl) hH3) ?_
       go_frame
       refine y_yield 13 (some 109) (.agg (u8s (facQ R H))) rfl (by kernel_rfl) (by kernel_rfl) (by kernel_rfl) (fun _ _ _ h => h) rfl rfl ⟨hB, h3, h16, h17⟩ (fun w' h' => exec_load_seg 50 _ rfl b17 (H * 9) rfl _ (R) _ 9 h'.2.2.2 Try.underlying50 rfl (by kernel_rfl) (by rw [HRb.out.len]; omega) (facQ R H) rfl) ?_
       go_frame
       refine y_yield 14 (some 110) (.int .i64 H) rfl (by kernel_rfl) (by kernel_rfl) (by kernel_rfl) (fun _ _ _ h => h) rfl rfl ⟨hB, h3, h16, h17⟩ (fun w' h' => exec_move _ rfl (.int .i64 H) rfl) ?_
       go_frame
       refine y_yield 15 (some 111) (.pointer (some ⟨b16, H * 9, none⟩)) rfl (by kernel_rfl) (by kernel_rfl) (by kernel_rfl) (fun _ _ _ h => h) rfl rfl ⟨hB, h3, h16, h17⟩ (fun w' h' => exec_index_arr0f 71 50 _ _ rfl b16 3 H 9 rfl rfl Try.underlying71 (by kernel_rfl) hH3) ?_
       go_frame
       refine y_yield 16 (some 112) (.agg (u8s (facQ Q H))) rfl (by kernel_rfl) (by kernel_rfl) (by kernel_rfl) (fun _ _ _ h => h) rfl rfl ⟨hB, h3, h16, h17⟩ (fun w' h' => exec_load_seg 50 _ rfl b16 (H * 9) rfl _ (Q) _ 9 h'.2.2.1 Try.underlying50 rfl (by kernel_rfl) (by rw [HQ.out.len]; omega) (facQ Q H) rfl) ?_
       go_frame
       refine y_three 8 18 19 (by kernel_rfl) rfl rfl rfl rfl rfl rfl (fun K' hK' => ?_) (fun K' hK' => ?_) (fun K' hK' => ?_)
       ·have lz660 := hB.size
        have lz661 := h3.lt
        have lz662 := h6.lt
        have lz663 := h16.lt
        have lz664 := h17.lt
        have lz665 : g < wdz657.heap.size := (ho.lt rfl).2
        have lz666 : w.heap.size ≤ g := (ho.lt rfl).1
        refine wp_call4 (some 104) rfl 46 _ _ _ _ _ rfl (fun args w => by kernel_rfl) _ _ _ _ rfl rfl rfl rfl _ (l01Add_c p 1 (facQ Q G) (facQ R G) (facQ_bytes HQ.out hG3) (facQ_bytes HRb.out hG3) _ (by omega) (by omega) (by omega) (by omega)) (fun e Wz658 h => ?_)
        obtain ⟨rfl, bz659⟩ := h
        replace hB := below_after hB bz659
        replace h3 := h3.after bz659
        replace h6 := h6.after bz659
        replace h16 := h16.after bz659
        replace h17 := h17.after bz659
        replace ho := ho.below bz659
        rw [HF1.out]
        clear bz659
        refine ⟨_, rfl, ?_⟩
        refine hK' _ _ ⟨hB, h3, h16, h17⟩ (fun _ => trivial) ?_
        clear hK' K'
        go_frame
        refine y_three 17 18 19 (by kernel_rfl) rfl rfl rfl rfl rfl rfl (fun K' hK' => ?_) (fun K' hK' => ?_) (fun K' hK' => ?_)
        ·have lz669 := hB.size
         have lz670 := h3.lt
         have lz671 := h6.lt
         have lz672 := h16.lt
         have lz673 := h17.lt
         have lz674 : g < Wz658.heap.size := (ho.lt rfl).2
         have lz675 : w.heap.size ≤ g := (ho.lt rfl).1
         refine wp_call4 (some 113) rfl 46 _ _ _ _ _ rfl (fun args w => by kernel_rfl) _ _ _ _ rfl rfl rfl rfl _ (l01Add_c p (-1) (facQ R H) (facQ Q H) (facQ_bytes HRb.out hH3) (facQ_bytes HQ.out hH3) _ (by omega) (by omega) (by omega) (by omega)) (fun e Wz667 h => ?_)
         obtain ⟨rfl, bz668⟩ := h
         replace hB := below_after hB bz668
         replace h3 := h3.after bz668
         replace h6 := h6.after bz668
         replace h16 := h16.after bz668
         replace h17 := h17.after bz668
         replace ho := ho.below bz668
         rw [HF2.out]
         clear bz668
         refine ⟨_, rfl, ?_⟩
         refine hK' _ _ ⟨hB, h3, h16, h17⟩ (fun _ => trivial) ?_
         clear hK' K'
         go_frame
         refine y_two 18 19 (by kernel_rfl) rfl rfl rfl rfl (fun K' hK' => ?_) (fun K' hK' => ?_)
         ·have lz676 := hB.size
          have lz677 := h3.lt
          have lz678 := h6.lt
          have lz679 := h16.lt
          have lz680 := h17.lt
          have lz681 : g < Wz667.heap.size := (ho.lt rfl).2
          have lz682 : w.heap.size ≤ g := (ho.lt rfl).1
          have naz687 := ho.away_new
          refine wp_new (some 20) rfl (al_impl_Form rfl) (fun Wz683 nnz684 => ?_)
          have bz685 := nnz684.below (Below.refl _ _) (Nat.le_refl _)
          replace hB := below_after hB bz685
          replace h3 := h3.after bz685
          replace h6 := h6.after bz685
          replace h16 := h16.after bz685
          replace h17 := h17.after bz685
          replace ho := ho.below bz685
          have hz686 : At Wz683 Wz667.heap.size (.cells (u8s (List.replicate 9 0)) 50 (0, 0)) := nnz684.at_
          refine hK' _ _ ⟨hB, h3, h16, h17⟩ (fun _ => trivial) ?_
          clear hK' K' nnz684 bz685
          go_frame
          refine y_oper 19 (by kernel_rfl) rfl rfl (fun K' hK' => ?_)
          have lz688 := hB.size
          have lz689 := h3.lt
          have lz690 := h6.lt
          have lz691 := h16.lt
          have lz692 := h17.lt
          have lz693 : g < Wz683.heap.size := (ho.lt rfl).2
          have lz694 : w.heap.size ≤ g := (ho.lt rfl).1
          have lz695 := hz686.lt
          have naz700 := ho.away_new
          refine wp_new (some 21) rfl (al_impl_Form rfl) (fun Wz696 nnz697 => ?_)
          have bz698 := nnz697.below (Below.refl _ _) (Nat.le_refl _)
          replace hB := below_after hB bz698
          replace h3 := h3.after bz698
          replace h6 := h6.after bz698
          replace h16 := h16.after bz698
          replace h17 := h17.after bz698
          replace ho := ho.below bz698
          replace hz686 := hz686.after bz698
          have hz699 : At Wz696 Wz683.heap.size (.cells (u8s (List.replicate 9 0)) 50 (0, 0)) := nnz697.at_
          refine hK' _ _ ⟨hB, h3, h16, h17⟩ (fun _ => trivial) ?_
          clear hK' K' nnz697 bz698
          go_frame
          refine y_oper 20 (by kernel_rfl) rfl rfl (fun K' hK' => ?_)
          refine wp_store_bytes 50 _ _ rfl rfl Wz667.heap.size rfl (F1) rfl _ _ hz686 9 (by kernel_rfl) HF1b.out.len (by simp) (fun Wz701 pz702 => ?_)
          replace hB := pz702.below hB (by omega)
          replace h3 := pz702.other h3 (by omega)
          replace h6 := pz702.other h6 (by omega)
          replace h16 := pz702.other h16 (by omega)
          replace h17 := pz702.other h17 (by omega)
          replace ho := ho.put pz702 naz687
          replace hz699 := pz702.other hz699 (by omega)
          replace hz686 : At Wz701 Wz667.heap.size (.cells (u8s (F1)) 50 (0, 0)) := pz702.at_
          refine hK' _ _ ⟨hB, h3, h16, h17⟩ (fun _ => trivial) ?_
          clear hK' K' pz702
          refine y_oper 21 (by kernel_rfl) rfl rfl (fun K' hK' => ?_)
          refine wp_store_bytes 50 _ _ rfl rfl Wz683.heap.size rfl (F2) rfl _ _ hz699 9 (by kernel_rfl) HF2b.out.len (by simp) (fun Wz703 pz704 => ?_)
          replace hB := pz704.below hB (by omega)
          replace h3 := pz704.other h3 (by omega)
          replace h6 := pz704.other h6 (by omega)
          replace h16 := pz704.other h16 (by omega)
          replace h17 := pz704.other h17 (by omega)
          replace ho := ho.put pz704 naz700
          replace hz686 := pz704.other hz686 (by omega)
          replace hz699 : At Wz703 Wz683.heap.size (.cells (u8s (F2)) 50 (0, 0)) := pz704.at_
          refine hK' _ _ ⟨hB, h3, h16, h17⟩ (fun _ => trivial) ?_
          clear hK' K' pz704
          refine y_done (by kernel_rfl) ?_ _
          go_wp2_with fail
          go_meet
          exact ⟨_, _, rfl, rfl, ⟨by omega, by omega, by omega, by omega, by omega, by omega, by omega, by omega⟩, hB, h3, h6, h16, h17, hz686, hz699, ho⟩
         ·have lz705 := hB.size
          have lz706 := h3.lt
          have lz707 := h6.lt
          have lz708 := h16.lt
          have lz709 := h17.lt
          have lz710 : g < Wz667.heap.size := (ho.lt rfl).2
          have lz711 : w.heap.size ≤ g := (ho.lt rfl).1
          have naz716 := ho.away_new
          refine wp_new (some 21) rfl (al_impl_Form rfl) (fun Wz712 nnz713 => ?_)
          have bz714 := nnz713.below (Below.refl _ _) (Nat.le_refl _)
          replace hB := below_after hB bz714
          replace h3 := h3.after bz714
          replace h6 := h6.after bz714
          replace h16 := h16.after bz714
          replace h17 := h17.after bz714
          replace ho := ho.below bz714
          have hz715 : At Wz712 Wz667.heap.size (.cells (u8s (List.replicate 9 0)) 50 (0, 0)) := nnz713.at_
          refine hK' _ _ ⟨hB, h3, h16, h17⟩ (fun _ => trivial) ?_
          clear hK' K' nnz713 bz714
          go_frame
          refine y_oper 18 (by kernel_rfl) rfl rfl (fun K' hK' => ?_)
          have lz717 := hB.size
          have lz718 := h3.lt
          have lz719 := h6.lt
          have lz720 := h16.lt
          have lz721 := h17.lt
          have lz722 : g < Wz712.heap.size := (ho.lt rfl).2
          have lz723 : w.heap.size ≤ g := (ho.lt rfl).1
          have lz724 := hz715.lt
          have naz729 := ho.away_new
          refine wp_new (some 20) rfl (al_impl_Form rfl) (fun Wz725 nnz726 => ?_)
          have bz727 := nnz726.below (Below.refl _ _) (Nat.le_refl _)
          replace hB := below_after hB bz727
          replace h3 := h3.after bz727
          replace h6 := h6.after bz727
          replace h16 := h16.after bz727
          replace h17 := h17.after bz727
          replace ho := ho.below bz727
          replace hz715 := hz715.after bz727
          have hz728 : At Wz725 Wz712.heap.size (.cells (u8s (List.replicate 9 0)) 50 (0, 0)) := nnz726.at_
          refine hK' _ _ ⟨hB, h3, h16, h17⟩ (fun _ => trivial) ?_
          clear hK' K' nnz726 bz727
          go_frame
          refine y_oper 20 (by kernel_rfl) rfl rfl (fun K' hK' => ?_)
          refine wp_store_bytes 50 _ _ rfl rfl Wz712.heap.size rfl (F1) rfl _ _ hz728 9 (by kernel_rfl) HF1b.out.len (by simp) (fun Wz730 pz731 => ?_)
          replace hB := pz731.below hB (by omega)
          replace h3 := pz731.other h3 (by omega)
          replace h6 := pz731.other h6 (by omega)
          replace h16 := pz731.other h16 (by omega)
          replace h17 := pz731.other h17 (by omega)
          replace ho := ho.put pz731 naz729
          replace hz715 := pz731.other hz715 (by omega)
          replace hz728 : At Wz730 Wz712.heap.size (.cells (u8s (F1)) 50 (0, 0)) := pz731.at_
          refine hK' _ _ ⟨hB, h3, h16, h17⟩ (fun _ => trivial) ?_
          clear hK' K' pz731
          refine y_oper 21 (by kernel_rfl) rfl rfl (fun K' hK' => ?_)
          refine wp_store_bytes 50 _ _ rfl rfl Wz667.heap.size rfl (F2) rfl _ _ hz715 9 (by kernel_rfl) HF2b.out.len (by simp) (fun Wz732 pz733 => ?_)
          replace hB := pz733.below hB (by omega)
          replace h3 := pz733.other h3 (by omega)
          replace h6 := pz733.other h6 (by omega)
          replace h16 := pz733.other h16 (by omega)
          replace h17 := pz733.other h17 (by omega)
          replace ho := ho.put pz733 naz716
          replace hz728 := pz733.other hz728 (by omega)
          replace hz715 : At Wz732 Wz667.heap.size (.cells (u8s (F2)) 50 (0, 0)) := pz733.at_
          refine hK' _ _ ⟨hB, h3, h16, h17⟩ (fun _ => trivial) ?_
          clear hK' K' pz733
          refine y_done (by kernel_rfl) ?_ _
          go_wp2_with fail
          go_meet
          exact ⟨_, _, rfl, rfl, ⟨by omega, by omega, by omega, by omega, by omega, by omega, by omega, by omega⟩, hB, h3, h6, h16, h17, hz728, hz715, ho⟩
        ·have lz734 := hB.size
         have lz735 := h3.lt
         have lz736 := h6.lt
         have lz737 := h16.lt
         have lz738 := h17.lt
         have lz739 : g < Wz658.heap.size := (ho.lt rfl).2
         have lz740 : w.heap.size ≤ g := (ho.lt rfl).1
         have naz745 := ho.away_new
         refine wp_new (some 20) rfl (al_impl_Form rfl) (fun Wz741 nnz742 => ?_)
         have bz743 := nnz742.below (Below.refl _ _) (Nat.le_refl _)
         replace hB := below_after hB bz743
         replace h3 := h3.after bz743
         replace h6 := h6.after bz743
         replace h16 := h16.after bz743
         replace h17 := h17.after bz743
         replace ho := ho.below bz743
         have hz744 : At Wz741 Wz658.heap.size (.cells (u8s (List.replicate 9 0)) 50 (0, 0)) := nnz742.at_
         refine hK' _ _ ⟨hB, h3, h16, h17⟩ (fun _ => trivial) ?_
         clear hK' K' nnz742 bz743
         go_frame
         refine y_two 17 19 (by kernel_rfl) rfl rfl rfl rfl (fun K' hK' => ?_) (fun K' hK' => ?_)
         ·have lz748 := hB.size
          have lz749 := h3.lt
          have lz750 := h6.lt
          have lz751 := h16.lt
          have lz752 := h17.lt
          have lz753 : g < Wz741.heap.size := (ho.lt rfl).2
          have lz754 : w.heap.size ≤ g := (ho.lt rfl).1
          have lz755 := hz744.lt
          refine wp_call4 (some 113) rfl 46 _ _ _ _ _ rfl (fun args w => by kernel_rfl) _ _ _ _ rfl rfl rfl rfl _ (l01Add_c p (-1) (facQ R H) (facQ Q H) (facQ_bytes HRb.out hH3) (facQ_bytes HQ.out hH3) _ (by omega) (by omega) (by omega) (by omega)) (fun e Wz746 h => ?_)
          obtain ⟨rfl, bz747⟩ := h
          replace hB := below_after hB bz747
          replace h3 := h3.after bz747
          replace h6 := h6.after bz747
          replace h16 := h16.after bz747
          replace h17 := h17.after bz747
          replace ho := ho.below bz747
          replace hz744 := hz744.after bz747
          rw [HF2.out]
          clear bz747
          refine ⟨_, rfl, ?_⟩
          refine hK' _ _ ⟨hB, h3, h16, h17⟩ (fun _ => trivial) ?_
          clear hK' K'
          go_frame
          refine y_oper 19 (by kernel_rfl) rfl rfl (fun K' hK' => ?_)
          have lz756 := hB.size
          have lz757 := h3.lt
          have lz758 := h6.lt
          have lz759 := h16.lt
          have lz760 := h17.lt
          have lz761 : g < Wz746.heap.size := (ho.lt rfl).2
          have lz762 : w.heap.size ≤ g := (ho.lt rfl).1
          have lz763 := hz744.lt
          have naz768 := ho.away_new
          refine wp_new (some 21) rfl (al_impl_Form rfl) (fun Wz764 nnz765 => ?_)
          have bz766 := nnz765.below (Below.refl _ _) (Nat.le_refl _)
          replace hB := below_after hB bz766
          replace h3 := h3.after bz766
          replace h6 := h6.after bz766
          replace h16 := h16.after bz766
          replace h17 := h17.after bz766
          replace ho := ho.below bz766
          replace hz744 := hz744.after bz766
          have hz767 : At Wz764 Wz746.heap.size (.cells (u8s (List.replicate 9 0)) 50 (0, 0)) := nnz765.at_
          refine hK' _ _ ⟨hB, h3, h16, h17⟩ (fun _ => trivial) ?_
          clear hK' K' nnz765 bz766
          go_frame
          refine y_oper 20 (by kernel_rfl) rfl rfl (fun K' hK' => ?_)
          refine wp_store_bytes 50 _ _ rfl rfl Wz658.heap.size rfl (F1) rfl _ _ hz744 9 (by kernel_rfl) HF1b.out.len (by simp) (fun Wz769 pz770 => ?_)
          replace hB := pz770.below hB (by omega)
          replace h3 := pz770.other h3 (by omega)
          replace h6 := pz770.other h6 (by omega)
          replace h16 := pz770.other h16 (by omega)
          replace h17 := pz770.other h17 (by omega)
          replace ho := ho.put pz770 naz745
          replace hz767 := pz770.other hz767 (by omega)
          replace hz744 : At Wz769 Wz658.heap.size (.cells (u8s (F1)) 50 (0, 0)) := pz770.at_
          refine hK' _ _ ⟨hB, h3, h16, h17⟩ (fun _ => trivial) ?_
          clear hK' K' pz770
          refine y_oper 21 (by kernel_rfl) rfl rfl (fun K' hK' => ?_)
          refine wp_store_bytes 50 _ _ rfl rfl Wz746.heap.size rfl (F2) rfl _ _ hz767 9 (by kernel_rfl) HF2b.out.len (by simp) (fun Wz771 pz772 => ?_)
          replace hB := pz772.below hB (by omega)
          replace h3 := pz772.other h3 (by omega)
          replace h6 := pz772.other h6 (by omega)
          replace h16 := pz772.other h16 (by omega)
          replace h17 := pz772.other h17 (by omega)
          replace ho := ho.put pz772 naz768
          replace hz744 := pz772.other hz744 (by omega)
          replace hz767 : At Wz771 Wz746.heap.size (.cells (u8s (F2)) 50 (0, 0)) := pz772.at_
          refine hK' _ _ ⟨hB, h3, h16, h17⟩ (fun _ => trivial) ?_
          clear hK' K' pz772
          refine y_done (by kernel_rfl) ?_ _
          go_wp2_with fail
          go_meet
          exact ⟨_, _, rfl, rfl, ⟨by omega, by omega, by omega, by omega, by omega, by omega, by omega, by omega⟩, hB, h3, h6, h16, h17, hz744, hz767, ho⟩
         ·have lz773 := hB.size
          have lz774 := h3.lt
          have lz775 := h6.lt
          have lz776 := h16.lt
          have lz777 := h17.lt
          have lz778 : g < Wz741.heap.size := (ho.lt rfl).2
          have lz779 : w.heap.size ≤ g := (ho.lt rfl).1
          have lz780 := hz744.lt
          have naz785 := ho.away_new
          refine wp_new (some 21) rfl (al_impl_Form rfl) (fun Wz781 nnz782 => ?_)
          have bz783 := nnz782.below (Below.refl _ _) (Nat.le_refl _)
          replace hB := below_after hB bz783
          replace h3 := h3.after bz783
          replace h6 := h6.after bz783
          replace h16 := h16.after bz783
          replace h17 := h17.after bz783
          replace ho := ho.below bz783
          replace hz744 := hz744.after bz783
          have hz784 : At Wz781 Wz741.heap.size (.cells (u8s (List.replicate 9 0)) 50 (0, 0)) := nnz782.at_
          refine hK' _ _ ⟨hB, h3, h16, h17⟩ (fun _ => trivial) ?_
          clear hK' K' nnz782 bz783
          go_frame
          refine y_oper 17 (by kernel_rfl) rfl rfl (fun K' hK' => ?_)
          have lz788 := hB.size
          have lz789 := h3.lt
          have lz790 := h6.lt
          have lz791 := h16.lt
          have lz792 := h17.lt
          have lz793 : g < Wz781.heap.size := (ho.lt rfl).2
          have lz794 : w.heap.size ≤ g := (ho.lt rfl).1
          have lz795 := hz744.lt
          have lz796 := hz784.lt
          refine wp_call4 (some 113) rfl 46 _ _ _ _ _ rfl (fun args w => by kernel_rfl) _ _ _ _ rfl rfl rfl rfl _ (l01Add_c p (-1) (facQ R H) (facQ Q H) (facQ_bytes HRb.out hH3) (facQ_bytes HQ.out hH3) _ (by omega) (by omega) (by omega) (by omega)) (fun e Wz786 h => ?_)
          obtain ⟨rfl, bz787⟩ := h
          replace hB := below_after hB bz787
          replace h3 := h3.after bz787
          replace h6 := h6.after bz787
          replace h16 := h16.after bz787
          replace h17 := h17.after bz787
          replace ho := ho.below bz787
          replace hz744 := hz744.after bz787
          replace hz784 := hz784.after bz787
          rw [HF2.out]
          clear bz787
          refine ⟨_, rfl, ?_⟩
          refine hK' _ _ ⟨hB, h3, h16, h17⟩ (fun _ => trivial) ?_
          clear hK' K'
          go_frame
          refine y_oper 20 (by kernel_rfl) rfl rfl (fun K' hK' => ?_)
          refine wp_store_bytes 50 _ _ rfl rfl Wz658.heap.size rfl (F1) rfl _ _ hz744 9 (by kernel_rfl) HF1b.out.len (by simp) (fun Wz797 pz798 => ?_)
          replace hB := pz798.below hB (by omega)
          replace h3 := pz798.other h3 (by omega)
          replace h6 := pz798.other h6 (by omega)
          replace h16 := pz798.other h16 (by omega)
          replace h17 := pz798.other h17 (by omega)
          replace ho := ho.put pz798 naz745
          replace hz784 := pz798.other hz784 (by omega)
          replace hz744 : At Wz797 Wz658.heap.size (.cells (u8s (F1)) 50 (0, 0)) := pz798.at_
          refine hK' _ _ ⟨hB, h3, h16, h17⟩ (fun _ => trivial) ?_
          clear hK' K' pz798
          refine y_oper 21 (by kernel_rfl) rfl rfl (fun K' hK' => ?_)
          refine wp_store_bytes 50 _ _ rfl rfl Wz741.heap.size rfl (F2) rfl _ _ hz784 9 (by kernel_rfl) HF2b.out.len (by simp) (fun Wz799 pz800 => ?_)
          replace hB := pz800.below hB (by omega)
          replace h3 := pz800.other h3 (by omega)
          replace h6 := pz800.other h6 (by omega)
          replace h16 := pz800.other h16 (by omega)
          replace h17 := pz800.other h17 (by omega)
          replace ho := ho.put pz800 naz785
          replace hz744 := pz800.other hz744 (by omega)
          replace hz784 : At Wz799 Wz741.heap.size (.cells (u8s (F2)) 50 (0, 0)) := pz800.at_
          refine hK' _ _ ⟨hB, h3, h16, h17⟩ (fun _ => trivial) ?_
          clear hK' K' pz800
          refine y_done (by kernel_rfl) ?_ _
          go_wp2_with fail
          go_meet
          exact ⟨_, _, rfl, rfl, ⟨by omega, by omega, by omega, by omega, by omega, by omega, by omega, by omega⟩, hB, h3, h6, h16, h17, hz744, hz784, ho⟩
        ·have lz801 := hB.size
         have lz802 := h3.lt
         have lz803 := h6.lt
         have lz804 := h16.lt
         have lz805 := h17.lt
         have lz806 : g < Wz658.heap.size := (ho.lt rfl).2
         have lz807 : w.heap.size ≤ g := (ho.lt rfl).1
         have naz812 := ho.away_new
         refine wp_new (some 21) rfl (al_impl_Form rfl) (fun Wz808 nnz809 => ?_)
         have bz810 := nnz809.below (Below.refl _ _) (Nat.le_refl _)
         replace hB := below_after hB bz810
         replace h3 := h3.after bz810
         replace h6 := h6.after bz810
         replace h16 := h16.after bz810
         replace h17 := h17.after bz810
         replace ho := ho.below bz810
         have hz811 : At Wz808 Wz658.heap.size (.cells (u8s (List.replicate 9 0)) 50 (0, 0)) := nnz809.at_
         refine hK' _ _ ⟨hB, h3, h16, h17⟩ (fun _ => trivial) ?_
         clear hK' K' nnz809 bz810
         go_frame
         refine y_two 17 18 (by kernel_rfl) rfl rfl rfl rfl (fun K' hK' => ?_) (fun K' hK' => ?_)
         ·have lz815 := hB.size
          have lz816 := h3.lt
          have lz817 := h6.lt
          have lz818 := h16.lt
          have lz819 := h17.lt
          have lz820 : g < Wz808.heap.size := (ho.lt rfl).2
          have lz821 : w.heap.size ≤ g := (ho.lt rfl).1
          have lz822 := hz811.lt
          refine wp_call4 (some 113) rfl 46 _ _ _ _ _ rfl (fun args w => by kernel_rfl) _ _ _ _ rfl rfl rfl rfl _ (l01Add_c p (-1) (facQ R H) (facQ Q H) (facQ_bytes HRb.out hH3) (facQ_bytes HQ.out hH3) _ (by omega) (by omega) (by omega) (by omega)) (fun e Wz813 h => ?_)
          obtain ⟨rfl, bz814⟩ := h
          replace hB := below_after hB bz814
          replace h3 := h3.after bz814
          replace h6 := h6.after bz814
          replace h16 := h16.after bz814
          replace h17 := h17.after bz814
          replace ho := ho.below bz814
          replace hz811 := hz811.after bz814
          rw [HF2.out]
          clear bz814
          refine ⟨_, rfl, ?_⟩
          refine hK' _ _ ⟨hB, h3, h16, h17⟩ (fun _ => trivial) ?_
          clear hK' K'
          go_frame
          refine y_oper 18 (by kernel_rfl) rfl rfl (fun K' hK' => ?_)
          have lz823 := hB.size
          have lz824 := h3.lt
          have lz825 := h6.lt
          have lz826 := h16.lt
          have lz827 := h17.lt
          have lz828 : g < Wz813.heap.size := (ho.lt rfl).2
          have lz829 : w.heap.size ≤ g := (ho.lt rfl).1
          have lz830 := hz811.lt
          have naz835 := ho.away_new
          refine wp_new (some 20) rfl (al_impl_Form rfl) (fun Wz831 nnz832 => ?_)
          have bz833 := nnz832.below (Below.refl _ _) (Nat.le_refl _)
          replace hB := below_after hB bz833
          replace h3 := h3.after bz833
          replace h6 := h6.after bz833
          replace h16 := h16.after bz833
          replace h17 := h17.after bz833
          replace ho := ho.below bz833
          replace hz811 := hz811.after bz833
          have hz834 : At Wz831 Wz813.heap.size (.cells (u8s (List.replicate 9 0)) 50 (0, 0)) := nnz832.at_
          refine hK' _ _ ⟨hB, h3, h16, h17⟩ (fun _ => trivial) ?_
          clear hK' K' nnz832 bz833
          go_frame
          refine y_oper 20 (by kernel_rfl) rfl rfl (fun K' hK' => ?_)
          refine wp_store_bytes 50 _ _ rfl rfl Wz813.heap.size rfl (F1) rfl _ _ hz834 9 (by kernel_rfl) HF1b.out.len (by simp) (fun Wz836 pz837 => ?_)
          replace hB := pz837.below hB (by omega)
          replace h3 := pz837.other h3 (by omega)
          replace h6 := pz837.other h6 (by omega)
          replace h16 := pz837.other h16 (by omega)
          replace h17 := pz837.other h17 (by omega)
          replace ho := ho.put pz837 naz835
          replace hz811 := pz837.other hz811 (by omega)
          replace hz834 : At Wz836 Wz813.heap.size (.cells (u8s (F1)) 50 (0, 0)) := pz837.at_
          refine hK' _ _ ⟨hB, h3, h16, h17⟩ (fun _ => trivial) ?_
          clear hK' K' pz837
          refine y_oper 21 (by kernel_rfl) rfl rfl (fun K' hK' => ?_)
          refine wp_store_bytes 50 _ _ rfl rfl Wz658.heap.size rfl (F2) rfl _ _ hz811 9 (by kernel_rfl) HF2b.out.len (by simp) (fun Wz838 pz839 => ?_)
          replace hB := pz839.below hB (by omega)
          replace h3 := pz839.other h3 (by omega)
          replace h6 := pz839.other h6 (by omega)
          replace h16 := pz839.other h16 (by omega)
          replace h17 := pz839.other h17 (by omega)
          replace ho := ho.put pz839 naz812
          replace hz834 := pz839.other hz834 (by omega)
          replace hz811 : At Wz838 Wz658.heap.size (.cells (u8s (F2)) 50 (0, 0)) := pz839.at_
          refine hK' _ _ ⟨hB, h3, h16, h17⟩ (fun _ => trivial) ?_
          clear hK' K' pz839
          refine y_done (by kernel_rfl) ?_ _
          go_wp2_with fail
          go_meet
          exact ⟨_, _, rfl, rfl, ⟨by omega, by omega, by omega, by omega, by omega, by omega, by omega, by omega⟩, hB, h3, h6, h16, h17, hz834, hz811, ho⟩
         ·have lz840 := hB.size
          have lz841 := h3.lt
          have lz842 := h6.lt
          have lz843 := h16.lt
          have lz844 := h17.lt
          have lz845 : g < Wz808.heap.size := (ho.lt rfl).2
          have lz846 : w.heap.size ≤ g := (ho.lt rfl).1
          have lz847 := hz811.lt
          have naz852 := ho.away_new
          refine wp_new (some 20) rfl (al_impl_Form rfl) (fun Wz848 nnz849 => ?_)
          have bz850 := nnz849.below (Below.refl _ _) (Nat.le_refl _)
          replace hB := below_after hB bz850
          replace h3 := h3.after bz850
          replace h6 := h6.after bz850
          replace h16 := h16.after bz850
          replace h17 := h17.after bz850
          replace ho := ho.below bz850
          replace hz811 := hz811.after bz850
          have hz851 : At Wz848 Wz808.heap.size (.cells (u8s (List.replicate 9 0)) 50 (0, 0)) := nnz849.at_
          refine hK' _ _ ⟨hB, h3, h16, h17⟩ (fun _ => trivial) ?_
          clear hK' K' nnz849 bz850
          go_frame
          refine y_oper 17 (by kernel_rfl) rfl rfl (fun K' hK' => ?_)
          have lz855 := hB.size
          have lz856 := h3.lt
          have lz857 := h6.lt
          have lz858 := h16.lt
          have lz859 := h17.lt
          have lz860 : g < Wz848.heap.size := (ho.lt rfl).2
          have lz861 : w.heap.size ≤ g := (ho.lt rfl).1
          have lz862 := hz811.lt
          have lz863 := hz851.lt
          refine wp_call4 (some 113) rfl 46 _ _ _ _ _ rfl (fun args w => by kernel_rfl) _ _ _ _ rfl rfl rfl rfl _ (l01Add_c p (-1) (facQ R H) (facQ Q H) (facQ_bytes HRb.out hH3) (facQ_bytes HQ.out hH3) _ (by omega) (by omega) (by omega) (by omega)) (fun e Wz853 h => ?_)
          obtain ⟨rfl, bz854⟩ := h
          replace hB := below_after hB bz854
          replace h3 := h3.after bz854
          replace h6 := h6.after bz854
          replace h16 := h16.after bz854
          replace h17 := h17.after bz854
          replace ho := ho.below bz854
          replace hz811 := hz811.after bz854
          replace hz851 := hz851.after bz854
          rw [HF2.out]
          clear bz854
          refine ⟨_, rfl, ?_⟩
          refine hK' _ _ ⟨hB, h3, h16, h17⟩ (fun _ => trivial) ?_
          clear hK' K'
          go_frame
          refine y_oper 20 (by kernel_rfl) rfl rfl (fun K' hK' => ?_)
          refine wp_store_bytes 50 _ _ rfl rfl Wz808.heap.size rfl (F1) rfl _ _ hz851 9 (by kernel_rfl) HF1b.out.len (by simp) (fun Wz864 pz865 => ?_)
          replace hB := pz865.below hB (by omega)
          replace h3 := pz865.other h3 (by omega)
          replace h6 := pz865.other h6 (by omega)
          replace h16 := pz865.other h16 (by omega)
          replace h17 := pz865.other h17 (by omega)
          replace ho := ho.put pz865 naz852
          replace hz811 := pz865.other hz811 (by omega)
          replace hz851 : At Wz864 Wz808.heap.size (.cells (u8s (F1)) 50 (0, 0)) := pz865.at_
          refine hK' _ _ ⟨hB, h3, h16, h17⟩ (fun _ => trivial) ?_
          clear hK' K' pz865
          refine y_oper 21 (by kernel_rfl) rfl rfl (fun K' hK' => ?_)
          refine wp_store_bytes 50 _ _ rfl rfl Wz658.heap.size rfl (F2) rfl _ _ hz811 9 (by kernel_rfl) HF2b.out.len (by simp) (fun Wz866 pz867 => ?_)
          replace hB := pz867.below hB (by omega)
          replace h3 := pz867.other h3 (by omega)
          replace h6 := pz867.other h6 (by omega)
          replace h16 := pz867.other h16 (by omega)
          replace h17 := pz867.other h17 (by omega)
          replace ho := ho.put pz867 naz812
          replace hz851 := pz867.other hz851 (by omega)
          replace hz811 : At Wz866 Wz658.heap.size (.cells (u8s (F2)) 50 (0, 0)) := pz867.at_
          refine hK' _ _ ⟨hB, h3, h16, h17⟩ (fun _ => trivial) ?_
          clear hK' K' pz867
          refine y_done (by kernel_rfl) ?_ _
          go_wp2_with fail
          go_meet
          exact ⟨_, _, rfl, rfl, ⟨by omega, by omega, by omega, by omega, by omega, by omega, by omega, by omega⟩, hB, h3, h6, h16, h17, hz851, hz811, ho⟩
       ·have lz868 := hB.size
        have lz869 := h3.lt
        have lz870 := h6.lt
        have lz871 := h16.lt
        have lz872 := h17.lt
        have lz873 : g < wdz657.heap.size := (ho.lt rfl).2
        have lz874 : w.heap.size ≤ g := (ho.lt rfl).1
        have naz879 := ho.away_new
        refine wp_new (some 20) rfl (al_impl_Form rfl) (fun Wz875 nnz876 => ?_)
        have bz877 := nnz876.below (Below.refl _ _) (Nat.le_refl _)
        replace hB := below_after hB bz877
        replace h3 := h3.after bz877
        replace h6 := h6.after bz877
        replace h16 := h16.after bz877
        replace h17 := h17.after bz877
        replace ho := ho.below bz877
        have hz878 : At Wz875 wdz657.heap.size (.cells (u8s (List.replicate 9 0)) 50 (0, 0)) := nnz876.at_
        refine hK' _ _ ⟨hB, h3, h16, h17⟩ (fun _ => trivial) ?_
        clear hK' K' nnz876 bz877
        go_frame
        refine y_two 8 19 (by kernel_rfl) rfl rfl rfl rfl (fun K' hK' => ?_) (fun K' hK' => ?_)
        ·have lz882 := hB.size
         have lz883 := h3.lt
         have lz884 := h6.lt
         have lz885 := h16.lt
         have lz886 := h17.lt
         have lz887 : g < Wz875.heap.size := (ho.lt rfl).2
         have lz888 : w.heap.size ≤ g := (ho.lt rfl).1
         have lz889 := hz878.lt
         refine wp_call4 (some 104) rfl 46 _ _ _ _ _ rfl (fun args w => by kernel_rfl) _ _ _ _ rfl rfl rfl rfl _ (l01Add_c p 1 (facQ Q G) (facQ R G) (facQ_bytes HQ.out hG3) (facQ_bytes HRb.out hG3) _ (by omega) (by omega) (by omega) (by omega)) (fun e Wz880 h => ?_)
         obtain ⟨rfl, bz881⟩ := h
         replace hB := below_after hB bz881
         replace h3 := h3.after bz881
         replace h6 := h6.after bz881
         replace h16 := h16.after bz881
         replace h17 := h17.after bz881
         replace ho := ho.below bz881
         replace hz878 := hz878.after bz881
         rw [HF1.out]
         clear bz881
         refine ⟨_, rfl, ?_⟩
         refine hK' _ _ ⟨hB, h3, h16, h17⟩ (fun _ => trivial) ?_
         clear hK' K'
         go_frame
         refine y_two 17 19 (by kernel_rfl) rfl rfl rfl rfl (fun K' hK' => ?_) (fun K' hK' => ?_)
         ·have lz892 := hB.size
          have lz893 := h3.lt
          have lz894 := h6.lt
          have lz895 := h16.lt
          have lz896 := h17.lt
          have lz897 : g < Wz880.heap.size := (ho.lt rfl).2
          have lz898 : w.heap.size ≤ g := (ho.lt rfl).1
          have lz899 := hz878.lt
          refine wp_call4 (some 113) rfl 46 _ _ _ _ _ rfl (fun args w => by kernel_rfl) _ _ _ _ rfl rfl rfl rfl _ (l01Add_c p (-1) (facQ R H) (facQ Q H) (facQ_bytes HRb.out hH3) (facQ_bytes HQ.out hH3) _ (by omega) (by omega) (by omega) (by omega)) (fun e Wz890 h => ?_)
          obtain ⟨rfl, bz891⟩ := h
          replace hB := below_after hB bz891
          replace h3 := h3.after bz891
          replace h6 := h6.after bz891
          replace h16 := h16.after bz891
          replace h17 := h17.after bz891
          replace ho := ho.below bz891
          replace hz878 := hz878.after bz891
          rw [HF2.out]
          clear bz891
          refine ⟨_, rfl, ?_⟩
          refine hK' _ _ ⟨hB, h3, h16, h17⟩ (fun _ => trivial) ?_
          clear hK' K'
          go_frame
          refine y_oper 19 (by kernel_rfl) rfl rfl (fun K' hK' => ?_)
          have lz900 := hB.size
          have lz901 := h3.lt
          have lz902 := h6.lt
          have lz903 := h16.lt
          have lz904 := h17.lt
          have lz905 : g < Wz890.heap.size := (ho.lt rfl).2
          have lz906 : w.heap.size ≤ g := (ho.lt rfl).1
          have lz907 := hz878.lt
          have naz912 := ho.away_new
          refine wp_new (some 21) rfl (al_impl_Form rfl) (fun Wz908 nnz909 => ?_)
          have bz910 := nnz909.below (Below.refl _ _) (Nat.le_refl _)
          replace hB := below_after hB bz910
          replace h3 := h3.after bz910
          replace h6 := h6.after bz910
          replace h16 := h16.after bz910
          replace h17 := h17.after bz910
          replace ho := ho.below bz910
          replace hz878 := hz878.after bz910
          have hz911 : At Wz908 Wz890.heap.size (.cells (u8s (List.replicate 9 0)) 50 (0, 0)) := nnz909.at_
          refine hK' _ _ ⟨hB, h3, h16, h17⟩ (fun _ => trivial) ?_
          clear hK' K' nnz909 bz910
          go_frame
          refine y_oper 20 (by kernel_rfl) rfl rfl (fun K' hK' => ?_)
          refine wp_store_bytes 50 _ _ rfl rfl wdz657.heap.size rfl (F1) rfl _ _ hz878 9 (by kernel_rfl) HF1b.out.len (by simp) (fun Wz913 pz914 => ?_)
          replace hB := pz914.below hB (by omega)
          replace h3 := pz914.other h3 (by omega)
          replace h6 := pz914.other h6 (by omega)
          replace h16 := pz914.other h16 (by omega)
          replace h17 := pz914.other h17 (by omega)
          replace ho := ho.put pz914 naz879
          replace hz911 := pz914.other hz911 (by omega)
          replace hz878 : At Wz913 wdz657.heap.size (.cells (u8s (F1)) 50 (0, 0)) := pz914.at_
          refine hK' _ _ ⟨hB, h3, h16, h17⟩ (fun _ => trivial) ?_
          clear hK' K' pz914
          refine y_oper 21 (by kernel_rfl) rfl rfl (fun K' hK' => ?_)
          refine wp_store_bytes 50 _ _ rfl rfl Wz890.heap.size rfl (F2) rfl _ _ hz911 9 (by kernel_rfl) HF2b.out.len (by simp) (fun Wz915 pz916 => ?_)
          replace hB := pz916.below hB (by omega)
          replace h3 := pz916.other h3 (by omega)
          replace h6 := pz916.other h6 (by omega)
          replace h16 := pz916.other h16 (by omega)
          replace h17 := pz916.other h17 (by omega)
          replace ho := ho.put pz916 naz912
          replace hz878 := pz916.other hz878 (by omega)
          replace hz911 : At Wz915 Wz890.heap.size (.cells (u8s (F2)) 50 (0, 0)) := pz916.at_
          refine hK' _ _ ⟨hB, h3, h16, h17⟩ (fun _ => trivial) ?_
          clear hK' K' pz916
          refine y_done (by kernel_rfl) ?_ _
          go_wp2_with fail
          go_meet
          exact ⟨_, _, rfl, rfl, ⟨by omega, by omega, by omega, by omega, by omega, by omega, by omega, by omega⟩, hB, h3, h6, h16, h17, hz878, hz911, ho⟩
         ·have lz917 := hB.size
          have lz918 := h3.lt
          have lz919 := h6.lt
          have lz920 := h16.lt
          have lz921 := h17.lt
          have lz922 : g < Wz880.heap.size := (ho.lt rfl).2
          have lz923 : w.heap.size ≤ g := (ho.lt rfl).1
          have lz924 := hz878.lt
          have naz929 := ho.away_new
          refine wp_new (some 21) rfl (al_impl_Form rfl) (fun Wz925 nnz926 => ?_)
          have bz927 := nnz926.below (Below.refl _ _) (Nat.le_refl _)
          replace hB := below_after hB bz927
          replace h3 := h3.after bz927
          replace h6 := h6.after bz927
          replace h16 := h16.after bz927
          replace h17 := h17.after bz927
          replace ho := ho.below bz927
          replace hz878 := hz878.after bz927
          have hz928 : At Wz925 Wz880.heap.size (.cells (u8s (List.replicate 9 0)) 50 (0, 0)) := nnz926.at_
          refine hK' _ _ ⟨hB, h3, h16, h17⟩ (fun _ => trivial) ?_
          clear hK' K' nnz926 bz927
          go_frame
          refine y_oper 17 (by kernel_rfl) rfl rfl (fun K' hK' => ?_)
          have lz932 := hB.size
          have lz933 := h3.lt
          have lz934 := h6.lt
          have lz935 := h16.lt
          have lz936 := h17.lt
          have lz937 : g < Wz925.heap.size := (ho.lt rfl).2
          have lz938 : w.heap.size ≤ g := (ho.lt rfl).1
          have lz939 := hz878.lt
          have lz940 := hz928.lt
          refine wp_call4 (some 113) rfl 46 _ _ _ _ _ rfl (fun args w => by kernel_rfl) _ _ _ _ rfl rfl rfl rfl _ (l01Add_c p (-1) (facQ R H) (facQ Q H) (facQ_bytes HRb.out hH3) (facQ_bytes HQ.out hH3) _ (by omega) (by omega) (by omega) (by omega)) (fun e Wz930 h => ?_)
          obtain ⟨rfl, bz931⟩ := h
          replace hB := below_after hB bz931
          replace h3 := h3.after bz931
          replace h6 := h6.after bz931
          replace h16 := h16.after bz931
          replace h17 := h17.after bz931
          replace ho := ho.below bz931
          replace hz878 := hz878.after bz931
          replace hz928 := hz928.after bz931
          rw [HF2.out]
          clear bz931
          refine ⟨_, rfl, ?_⟩
          refine hK' _ _ ⟨hB, h3, h16, h17⟩ (fun _ => trivial) ?_
          clear hK' K'
          go_frame
          refine y_oper 20 (by kernel_rfl) rfl rfl (fun K' hK' => ?_)
          refine wp_store_bytes 50 _ _ rfl rfl wdz657.heap.size rfl (F1) rfl _ _ hz878 9 (by kernel_rfl) HF1b.out.len (by simp) (fun Wz941 pz942 => ?_)
          replace hB := pz942.below hB (by omega)
          replace h3 := pz942.other h3 (by omega)
          replace h6 := pz942.other h6 (by omega)
          replace h16 := pz942.other h16 (by omega)
          replace h17 := pz942.other h17 (by omega)
          replace ho := ho.put pz942 naz879
          replace hz928 := pz942.other hz928 (by omega)
          replace hz878 : At Wz941 wdz657.heap.size (.cells (u8s (F1)) 50 (0, 0)) := pz942.at_
          refine hK' _ _ ⟨hB, h3, h16, h17⟩ (fun _ => trivial) ?_
          clear hK' K' pz942
          refine y_oper 21 (by kernel_rfl) rfl rfl (fun K' hK' => ?_)
          refine wp_store_bytes 50 _ _ rfl rfl Wz880.heap.size rfl (F2) rfl _ _ hz928 9 (by kernel_rfl) HF2b.out.len (by simp) (fun Wz943 pz944 => ?_)
          replace hB := pz944.below hB (by omega)
          replace h3 := pz944.other h3 (by omega)
          replace h6 := pz944.other h6 (by omega)
          replace h16 := pz944.other h16 (by omega)
          replace h17 := pz944.other h17 (by omega)
          replace ho := ho.put pz944 naz929
          replace hz878 := pz944.other hz878 (by omega)
          replace hz928 : At Wz943 Wz880.heap.size (.cells (u8s (F2)) 50 (0, 0)) := pz944.at_
          refine hK' _ _ ⟨hB, h3, h16, h17⟩ (fun _ => trivial) ?_
          clear hK' K' pz944
          refine y_done (by kernel_rfl) ?_ _
          go_wp2_with fail
          go_meet
          exact ⟨_, _, rfl, rfl, ⟨by omega, by omega, by omega, by omega, by omega, by omega, by omega, by omega⟩, hB, h3, h6, h16, h17, hz878, hz928, ho⟩
        ·have lz945 := hB.size
         have lz946 := h3.lt
         have lz947 := h6.lt
         have lz948 := h16.lt
         have lz949 := h17.lt
         have lz950 : g < Wz875.heap.size := (ho.lt rfl).2
         have lz951 : w.heap.size ≤ g := (ho.lt rfl).1
         have lz952 := hz878.lt
         have naz957 := ho.away_new
         refine wp_new (some 21) rfl (al_impl_Form rfl) (fun Wz953 nnz954 => ?_)
         have bz955 := nnz954.below (Below.refl _ _) (Nat.le_refl _)
         replace hB := below_after hB bz955
         replace h3 := h3.after bz955
         replace h6 := h6.after bz955
         replace h16 := h16.after bz955
         replace h17 := h17.after bz955
         replace ho := ho.below bz955
         replace hz878 := hz878.after bz955
         have hz956 : At Wz953 Wz875.heap.size (.cells (u8s (List.replicate 9 0)) 50 (0, 0)) := nnz954.at_
         refine hK' _ _ ⟨hB, h3, h16, h17⟩ (fun _ => trivial) ?_
         clear hK' K' nnz954 bz955
         go_frame
         refine y_oper 8 (by kernel_rfl) rfl rfl (fun K' hK' => ?_)
         have lz960 := hB.size
         have lz961 := h3.lt
         have lz962 := h6.lt
         have lz963 := h16.lt
         have lz964 := h17.lt
         have lz965 : g < Wz953.heap.size := (ho.lt rfl).2
         have lz966 : w.heap.size ≤ g := (ho.lt rfl).1
         have lz967 := hz878.lt
         have lz968 := hz956.lt
         refine wp_call4 (some 104) rfl 46 _ _ _ _ _ rfl (fun args w => by kernel_rfl) _ _ _ _ rfl rfl rfl rfl _ (l01Add_c p 1 (facQ Q G) (facQ R G) (facQ_bytes HQ.out hG3) (facQ_bytes HRb.out hG3) _ (by omega) (by omega) (by omega) (by omega)) (fun e Wz958 h => ?_)
         obtain ⟨rfl, bz959⟩ := h
         replace hB := below_after hB bz959
         replace h3 := h3.after bz959
         replace h6 := h6.after bz959
         replace h16 := h16.after bz959
         replace h17 := h17.after bz959
         replace ho := ho.below bz959
         replace hz878 := hz878.after bz959
         replace hz956 := hz956.after bz959
         rw [HF1.out]
         clear bz959
         refine ⟨_, rfl, ?_⟩
         refine hK' _ _ ⟨hB, h3, h16, h17⟩ (fun _ => trivial) ?_
         clear hK' K'
         go_frame
         refine y_oper 17 (by kernel_rfl) rfl rfl (fun K' hK' => ?_)
         have lz971 := hB.size
         have lz972 := h3.lt
         have lz973 := h6.lt
         have lz974 := h16.lt
         have lz975 := h17.lt
         have lz976 : g < Wz958.heap.size := (ho.lt rfl).2
         have lz977 : w.heap.size ≤ g := (ho.lt rfl).1
         have lz978 := hz878.lt
         have lz979 := hz956.lt
         refine wp_call4 (some 113) rfl 46 _ _ _ _ _ rfl (fun args w => by kernel_rfl) _ _ _ _ rfl rfl rfl rfl _ (l01Add_c p (-1) (facQ R H) (facQ Q H) (facQ_bytes HRb.out hH3) (facQ_bytes HQ.out hH3) _ (by omega) (by omega) (by omega) (by omega)) (fun e Wz969 h => ?_)
         obtain ⟨rfl, bz970⟩ := h
         replace hB := below_after hB bz970
         replace h3 := h3.after bz970
         replace h6 := h6.after bz970
         replace h16 := h16.after bz970
         replace h17 := h17.after bz970
         replace ho := ho.below bz970
         replace hz878 := hz878.after bz970
         replace hz956 := hz956.after bz970
         rw [HF2.out]
         clear bz970
         refine ⟨_, rfl, ?_⟩
         refine hK' _ _ ⟨hB, h3, h16, h17⟩ (fun _ => trivial) ?_
         clear hK' K'
         go_frame
         refine y_oper 20 (by kernel_rfl) rfl rfl (fun K' hK' => ?_)
         refine wp_store_bytes 50 _ _ rfl rfl wdz657.heap.size rfl (F1) rfl _ _ hz878 9 (by kernel_rfl) HF1b.out.len (by simp) (fun Wz980 pz981 => ?_)
         replace hB := pz981.below hB (by omega)
         replace h3 := pz981.other h3 (by omega)
         replace h6 := pz981.other h6 (by omega)
         replace h16 := pz981.other h16 (by omega)
         replace h17 := pz981.other h17 (by omega)
         replace ho := ho.put pz981 naz879
         replace hz956 := pz981.other hz956 (by omega)
         replace hz878 : At Wz980 wdz657.heap.size (.cells (u8s (F1)) 50 (0, 0)) := pz981.at_
         refine hK' _ _ ⟨hB, h3, h16, h17⟩ (fun _ => trivial) ?_
         clear hK' K' pz981
         refine y_oper 21 (by kernel_rfl) rfl rfl (fun K' hK' => ?_)
         refine wp_store_bytes 50 _ _ rfl rfl Wz875.heap.size rfl (F2) rfl _ _ hz956 9 (by kernel_rfl) HF2b.out.len (by simp) (fun Wz982 pz983 => ?_)
         replace hB := pz983.below hB (by omega)
         replace h3 := pz983.other h3 (by omega)
         replace h6 := pz983.other h6 (by omega)
         replace h16 := pz983.other h16 (by omega)
         replace h17 := pz983.other h17 (by omega)
         replace ho := ho.put pz983 naz957
         replace hz878 := pz983.other hz878 (by omega)
         replace hz956 : At Wz982 Wz875.heap.size (.cells (u8s (F2)) 50 (0, 0)) := pz983.at_
         refine hK' _ _ ⟨hB, h3, h16, h17⟩ (fun _ => trivial) ?_
         clear hK' K' pz983
         refine y_done (by kernel_rfl) ?_ _
         go_wp2_with fail
         go_meet
         exact ⟨_, _, rfl, rfl, ⟨by omega, by omega, by omega, by omega, by omega, by omega, by omega, by omega⟩, hB, h3, h6, h16, h17, hz878, hz956, ho⟩
       ·have lz984 := hB.size
        have lz985 := h3.lt
        have lz986 := h6.lt
        have lz987 := h16.lt
        have lz988 := h17.lt
        have lz989 : g < wdz657.heap.size := (ho.lt rfl).2
        have lz990 : w.heap.size ≤ g := (ho.lt rfl).1
        have naz995 := ho.away_new
        refine wp_new (some 21) rfl (al_impl_Form rfl) (fun Wz991 nnz992 => ?_)
        have bz993 := nnz992.below (Below.refl _ _) (Nat.le_refl _)
        replace hB := below_after hB bz993
        replace h3 := h3.after bz993
        replace h6 := h6.after bz993
        replace h16 := h16.after bz993
        replace h17 := h17.after bz993
        replace ho := ho.below bz993
        have hz994 : At Wz991 wdz657.heap.size (.cells (u8s (List.replicate 9 0)) 50 (0, 0)) := nnz992.at_
        refine hK' _ _ ⟨hB, h3, h16, h17⟩ (fun _ => trivial) ?_
        clear hK' K' nnz992 bz993
        go_frame
        refine y_two 8 18 (by kernel_rfl) rfl rfl rfl rfl (fun K' hK' => ?_) (fun K' hK' => ?_)
        ·have lz998 := hB.size
         have lz999 := h3.lt
         have lz1000 := h6.lt
         have lz1001 := h16.lt
         have lz1002 := h17.lt
         have lz1003 : g < Wz991.heap.size := (ho.lt rfl).2
         have lz1004 : w.heap.size ≤ g := (ho.lt rfl).1
         have lz1005 := hz994.lt
         refine wp_call4 (some 104) rfl 46 _ _ _ _ _ rfl (fun args w => by kernel_rfl) _ _ _ _ rfl rfl rfl rfl _ (l01Add_c p 1 (facQ Q G) (facQ R G) (facQ_bytes HQ.out hG3) (facQ_bytes HRb.out hG3) _ (by omega) (by omega) (by omega) (by omega)) (fun e Wz996 h => ?_)
         obtain ⟨rfl, bz997⟩ := h
         replace hB := below_after hB bz997
         replace h3 := h3.after bz997
         replace h6 := h6.after bz997
         replace h16 := h16.after bz997
         replace h17 := h17.after bz997
         replace ho := ho.below bz997
         replace hz994 := hz994.after bz997
         rw [HF1.out]
         clear bz997
         refine ⟨_, rfl, ?_⟩
         refine hK' _ _ ⟨hB, h3, h16, h17⟩ (fun _ => trivial) ?_
         clear hK' K'
         go_frame
         refine y_two 17 18 (by kernel_rfl) rfl rfl rfl rfl (fun K' hK' => ?_) (fun K' hK' => ?_)
         ·have lz1008 := hB.size
          have lz1009 := h3.lt
          have lz1010 := h6.lt
          have lz1011 := h16.lt
          have lz1012 := h17.lt
          have lz1013 : g < Wz996.heap.size := (ho.lt rfl).2
          have lz1014 : w.heap.size ≤ g := (ho.lt rfl).1
          have lz1015 := hz994.lt
          refine wp_call4 (some 113) rfl 46 _ _ _ _ _ rfl (fun args w => by kernel_rfl) _ _ _ _ rfl rfl rfl rfl _ (l01Add_c p (-1) (facQ R H) (facQ Q H) (facQ_bytes HRb.out hH3) (facQ_bytes HQ.out hH3) _ (by omega) (by omega) (by omega) (by omega)) (fun e Wz1006 h => ?_)
          obtain ⟨rfl, bz1007⟩ := h
          replace hB := below_after hB bz1007
          replace h3 := h3.after bz1007
          replace h6 := h6.after bz1007
          replace h16 := h16.after bz1007
          replace h17 := h17.after bz1007
          replace ho := ho.below bz1007
          replace hz994 := hz994.after bz1007
          rw [HF2.out]
          clear bz1007
          refine ⟨_, rfl, ?_⟩
          refine hK' _ _ ⟨hB, h3, h16, h17⟩ (fun _ => trivial) ?_
          clear hK' K'
          go_frame
          refine y_oper 18 (by kernel_rfl) rfl rfl (fun K' hK' => ?_)
          have lz1016 := hB.size
          have lz1017 := h3.lt
          have lz1018 := h6.lt
          have lz1019 := h16.lt
          have lz1020 := h17.lt
          have lz1021 : g < Wz1006.heap.size := (ho.lt rfl).2
          have lz1022 : w.heap.size ≤ g := (ho.lt rfl).1
          have lz1023 := hz994.lt
          have naz1028 := ho.away_new
          refine wp_new (some 20) rfl (al_impl_Form rfl) (fun Wz1024 nnz1025 => ?_)
          have bz1026 := nnz1025.below (Below.refl _ _) (Nat.le_refl _)
          replace hB := below_after hB bz1026
          replace h3 := h3.after bz1026
          replace h6 := h6.after bz1026
          replace h16 := h16.after bz1026
          replace h17 := h17.after bz1026
          replace ho := ho.below bz1026
          replace hz994 := hz994.after bz1026
          have hz1027 : At Wz1024 Wz1006.heap.size (.cells (u8s (List.replicate 9 0)) 50 (0, 0)) := nnz1025.at_
          refine hK' _ _ ⟨hB, h3, h16, h17⟩ (fun _ => trivial) ?_
          clear hK' K' nnz1025 bz1026
          go_frame
          refine y_oper 20 (by kernel_rfl) rfl rfl (fun K' hK' => ?_)
          refine wp_store_bytes 50 _ _ rfl rfl Wz1006.heap.size rfl (F1) rfl _ _ hz1027 9 (by kernel_rfl) HF1b.out.len (by simp) (fun Wz1029 pz1030 => ?_)
          replace hB := pz1030.below hB (by omega)
          replace h3 := pz1030.other h3 (by omega)
          replace h6 := pz1030.other h6 (by omega)
          replace h16 := pz1030.other h16 (by omega)
          replace h17 := pz1030.other h17 (by omega)
          replace ho := ho.put pz1030 naz1028
          replace hz994 := pz1030.other hz994 (by omega)
          replace hz1027 : At Wz1029 Wz1006.heap.size (.cells (u8s (F1)) 50 (0, 0)) := pz1030.at_
          refine hK' _ _ ⟨hB, h3, h16, h17⟩ (fun _ => trivial) ?_
          clear hK' K' pz1030
          refine y_oper 21 (by kernel_rfl) rfl rfl (fun K' hK' => ?_)
          refine wp_store_bytes 50 _ _ rfl rfl wdz657.heap.size rfl (F2) rfl _ _ hz994 9 (by kernel_rfl) HF2b.out.len (by simp) (fun Wz1031 pz1032 => ?_)
          replace hB := pz1032.below hB (by omega)
          replace h3 := pz1032.other h3 (by omega)
          replace h6 := pz1032.other h6 (by omega)
          replace h16 := pz1032.other h16 (by omega)
          replace h17 := pz1032.other h17 (by omega)
          replace ho := ho.put pz1032 naz995
          replace hz1027 := pz1032.other hz1027 (by omega)
          replace hz994 : At Wz1031 wdz657.heap.size (.cells (u8s (F2)) 50 (0, 0)) := pz1032.at_
          refine hK' _ _ ⟨hB, h3, h16, h17⟩ (fun _ => trivial) ?_
          clear hK' K' pz1032
          refine y_done (by kernel_rfl) ?_ _
          go_wp2_with fail
          go_meet
          exact ⟨_, _, rfl, rfl, ⟨by omega, by omega, by omega, by omega, by omega, by omega, by omega, by omega⟩, hB, h3, h6, h16, h17, hz1027, hz994, ho⟩
         ·have lz1033 := hB.size
          have lz1034 := h3.lt
          have lz1035 := h6.lt
          have lz1036 := h16.lt
          have lz1037 := h17.lt
          have lz1038 : g < Wz996.heap.size := (ho.lt rfl).2
          have lz1039 : w.heap.size ≤ g := (ho.lt rfl).1
          have lz1040 := hz994.lt
          have naz1045 := ho.away_new
          refine wp_new (some 20) rfl (al_impl_Form rfl) (fun Wz1041 nnz1042 => ?_)
          have bz1043 := nnz1042.below (Below.refl _ _) (Nat.le_refl _)
          replace hB := below_after hB bz1043
          replace h3 := h3.after bz1043
          replace h6 := h6.after bz1043
          replace h16 := h16.after bz1043
          replace h17 := h17.after bz1043
          replace ho := ho.below bz1043
          replace hz994 := hz994.after bz1043
          have hz1044 : At Wz1041 Wz996.heap.size (.cells (u8s (List.replicate 9 0)) 50 (0, 0)) := nnz1042.at_
          refine hK' _ _ ⟨hB, h3, h16, h17⟩ (fun _ => trivial) ?_
          clear hK' K' nnz1042 bz1043
          go_frame
          refine y_oper 17 (by kernel_rfl) rfl rfl (fun K' hK' => ?_)
          have lz1048 := hB.size
          have lz1049 := h3.lt
          have lz1050 := h6.lt
          have lz1051 := h16.lt
          have lz1052 := h17.lt
          have lz1053 : g < Wz1041.heap.size := (ho.lt rfl).2
          have lz1054 : w.heap.size ≤ g := (ho.lt rfl).1
          have lz1055 := hz994.lt
          have lz1056 := hz1044.lt
          refine wp_call4 (some 113) rfl 46 _ _ _ _ _ rfl (fun args w => by kernel_rfl) _ _ _ _ rfl rfl rfl rfl _ (l01Add_c p (-1) (facQ R H) (facQ Q H) (facQ_bytes HRb.out hH3) (facQ_bytes HQ.out hH3) _ (by omega) (by omega) (by omega) (by omega)) (fun e Wz1046 h => ?_)
          obtain ⟨rfl, bz1047⟩ := h
          replace hB := below_after hB bz1047
          replace h3 := h3.after bz1047
          replace h6 := h6.after bz1047
          replace h16 := h16.after bz1047
          replace h17 := h17.after bz1047
          replace ho := ho.below bz1047
          replace hz994 := hz994.after bz1047
          replace hz1044 := hz1044.after bz1047
          rw [HF2.out]
          clear bz1047
          refine ⟨_, rfl, ?_⟩
          refine hK' _ _ ⟨hB, h3, h16, h17⟩ (fun _ => trivial) ?_
          clear hK' K'
          go_frame
          refine y_oper 20 (by kernel_rfl) rfl rfl (fun K' hK' => ?_)
          refine wp_store_bytes 50 _ _ rfl rfl Wz996.heap.size rfl (F1) rfl _ _ hz1044 9 (by kernel_rfl) HF1b.out.len (by simp) (fun Wz1057 pz1058 => ?_)
          replace hB := pz1058.below hB (by omega)
          replace h3 := pz1058.other h3 (by omega)
          replace h6 := pz1058.other h6 (by omega)
          replace h16 := pz1058.other h16 (by omega)
          replace h17 := pz1058.other h17 (by omega)
          replace ho := ho.put pz1058 naz1045
          replace hz994 := pz1058.other hz994 (by omega)
          replace hz1044 : At Wz1057 Wz996.heap.size (.cells (u8s (F1)) 50 (0, 0)) := pz1058.at_
          refine hK' _ _ ⟨hB, h3, h16, h17⟩ (fun _ => trivial) ?_
          clear hK' K' pz1058
          refine y_oper 21 (by kernel_rfl) rfl rfl (fun K' hK' => ?_)
          refine wp_store_bytes 50 _ _ rfl rfl wdz657.heap.size rfl (F2) rfl _ _ hz994 9 (by kernel_rfl) HF2b.out.len (by simp) (fun Wz1059 pz1060 => ?_)
          replace hB := pz1060.below hB (by omega)
          replace h3 := pz1060.other h3 (by omega)
          replace h6 := pz1060.other h6 (by omega)
          replace h16 := pz1060.other h16 (by omega)
          replace h17 := pz1060.other h17 (by omega)
          replace ho := ho.put pz1060 naz995
          replace hz1044 := pz1060.other hz1044 (by omega)
          replace hz994 : At Wz1059 wdz657.heap.size (.cells (u8s (F2)) 50 (0, 0)) := pz1060.at_
          refine hK' _ _ ⟨hB, h3, h16, h17⟩ (fun _ => trivial) ?_
          clear hK' K' pz1060
          refine y_done (by kernel_rfl) ?_ _
          go_wp2_with fail
          go_meet
          exact ⟨_, _, rfl, rfl, ⟨by omega, by omega, by omega, by omega, by omega, by omega, by omega, by omega⟩, hB, h3, h6, h16, h17, hz1044, hz994, ho⟩
        ·have lz1061 := hB.size
         have lz1062 := h3.lt
         have lz1063 := h6.lt
         have lz1064 := h16.lt
         have lz1065 := h17.lt
         have lz1066 : g < Wz991.heap.size := (ho.lt rfl).2
         have lz1067 : w.heap.size ≤ g := (ho.lt rfl).1
         have lz1068 := hz994.lt
         have naz1073 := ho.away_new
         refine wp_new (some 20) rfl (al_impl_Form rfl) (fun Wz1069 nnz1070 => ?_)
         have bz1071 := nnz1070.below (Below.refl _ _) (Nat.le_refl _)
         replace hB := below_after hB bz1071
         replace h3 := h3.after bz1071
         replace h6 := h6.after bz1071
         replace h16 := h16.after bz1071
         replace h17 := h17.after bz1071
         replace ho := ho.below bz1071
         replace hz994 := hz994.after bz1071
         have hz1072 : At Wz1069 Wz991.heap.size (.cells (u8s (List.replicate 9 0)) 50 (0, 0)) := nnz1070.at_
         refine hK' _ _ ⟨hB, h3, h16, h17⟩ (fun _ => trivial) ?_
         clear hK' K' nnz1070 bz1071
         go_frame
         refine y_oper 8 (by kernel_rfl) rfl rfl (fun K' hK' => ?_)
         have lz1076 := hB.size
         have lz1077 := h3.lt
         have lz1078 := h6.lt
         have lz1079 := h16.lt
         have lz1080 := h17.lt
         have lz1081 : g < Wz1069.heap.size := (ho.lt rfl).2
         have lz1082 : w.heap.size ≤ g := (ho.lt rfl).1
         have lz1083 := hz994.lt
         have lz1084 := hz1072.lt
         refine wp_call4 (some 104) rfl 46 _ _ _ _ _ rfl (fun args w => by kernel_rfl) _ _ _ _ rfl rfl rfl rfl _ (l01Add_c p 1 (facQ Q G) (facQ R G) (facQ_bytes HQ.out hG3) (facQ_bytes HRb.out hG3) _ (by omega) (by omega) (by omega) (by omega)) (fun e Wz1074 h => ?_)
         obtain ⟨rfl, bz1075⟩ := h
         replace hB := below_after hB bz1075
         replace h3 := h3.after bz1075
         replace h6 := h6.after bz1075
         replace h16 := h16.after bz1075
         replace h17 := h17.after bz1075
         replace ho := ho.below bz1075
         replace hz994 := hz994.after bz1075
         replace hz1072 := hz1072.after bz1075
         rw [HF1.out]
         clear bz1075
         refine ⟨_, rfl, ?_⟩
         refine hK' _ _ ⟨hB, h3, h16, h17⟩ (fun _ => trivial) ?_
         clear hK' K'
         go_frame
         refine y_oper 17 (by kernel_rfl) rfl rfl (fun K' hK' => ?_)
         have lz1087 := hB.size
         have lz1088 := h3.lt
         have lz1089 := h6.lt
         have lz1090 := h16.lt
         have lz1091 := h17.lt
         have lz1092 : g < Wz1074.heap.size := (ho.lt rfl).2
         have lz1093 : w.heap.size ≤ g := (ho.lt rfl).1
         have lz1094 := hz994.lt
         have lz1095 := hz1072.lt
         refine wp_call4 (some 113) rfl 46 _ _ _ _ _ rfl (fun args w => by kernel_rfl) _ _ _ _ rfl rfl rfl rfl _ (l01Add_c p (-1) (facQ R H) (facQ Q H) (facQ_bytes HRb.out hH3) (facQ_bytes HQ.out hH3) _ (by omega) (by omega) (by omega) (by omega)) (fun e Wz1085 h => ?_)
         obtain ⟨rfl, bz1086⟩ := h
         replace hB := below_after hB bz1086
         replace h3 := h3.after bz1086
         replace h6 := h6.after bz1086
         replace h16 := h16.after bz1086
         replace h17 := h17.after bz1086
         replace ho := ho.below bz1086
         replace hz994 := hz994.after bz1086
         replace hz1072 := hz1072.after bz1086
         rw [HF2.out]
         clear bz1086
         refine ⟨_, rfl, ?_⟩
         refine hK' _ _ ⟨hB, h3, h16, h17⟩ (fun _ => trivial) ?_
         clear hK' K'
         go_frame
         refine y_oper 20 (by kernel_rfl) rfl rfl (fun K' hK' => ?_)
         refine wp_store_bytes 50 _ _ rfl rfl Wz991.heap.size rfl (F1) rfl _ _ hz1072 9 (by kernel_rfl) HF1b.out.len (by simp) (fun Wz1096 pz1097 => ?_)
         replace hB := pz1097.below hB (by omega)
         replace h3 := pz1097.other h3 (by omega)
         replace h6 := pz1097.other h6 (by omega)
         replace h16 := pz1097.other h16 (by omega)
         replace h17 := pz1097.other h17 (by omega)
         replace ho := ho.put pz1097 naz1073
         replace hz994 := pz1097.other hz994 (by omega)
         replace hz1072 : At Wz1096 Wz991.heap.size (.cells (u8s (F1)) 50 (0, 0)) := pz1097.at_
         refine hK' _ _ ⟨hB, h3, h16, h17⟩ (fun _ => trivial) ?_
         clear hK' K' pz1097
         refine y_oper 21 (by kernel_rfl) rfl rfl (fun K' hK' => ?_)
         refine wp_store_bytes 50 _ _ rfl rfl wdz657.heap.size rfl (F2) rfl _ _ hz994 9 (by kernel_rfl) HF2b.out.len (by simp) (fun Wz1098 pz1099 => ?_)
         replace hB := pz1099.below hB (by omega)
         replace h3 := pz1099.other h3 (by omega)
         replace h6 := pz1099.other h6 (by omega)
         replace h16 := pz1099.other h16 (by omega)
         replace h17 := pz1099.other h17 (by omega)
         replace ho := ho.put pz1099 naz995
         replace hz1072 := pz1099.other hz1072 (by omega)
         replace hz994 : At Wz1098 wdz657.heap.size (.cells (u8s (F2)) 50 (0, 0)) := pz1099.at_
         refine hK' _ _ ⟨hB, h3, h16, h17⟩ (fun _ => trivial) ?_
         clear hK' K' pz1099
         refine y_done (by kernel_rfl) ?_ _
         go_wp2_with fail
         go_meet
         exact ⟨_, _, rfl, rfl, ⟨by omega, by omega, by omega, by omega, by omega, by omega, by omega, by omega⟩, hB, h3, h6, h16, h17, hz1072, hz994, ho⟩
      case rest =>
      clear hB h3 h6 h16 h17 ho
      obtain ⟨b20, b21, rfl, rfl, ⟨m1, m2, m3, m4, m5, m6, m7, m8⟩, hB, h3, h6, h16, h17, h20, h21, ho⟩ := hcut
      obtain ⟨wc, rfl⟩ := cut_worldF hB
      go_upto_region 19 with (fail)
      refine wp_region_lit ?_
      refine ls_ex (some 114) (.int .i64 G) rfl rfl (exec_move _ rfl (.int .i64 G) rfl) ?_
      go_frame
      refine ls_ex (some 115) (.agg (u8s (F1))) rfl rfl (exec_load_all 50 _ rfl b20 rfl _ _ _ h20 Try.underlying50 rfl 9 (by kernel_rfl) ((u8s_size _).trans HF1b.out.len)) ?_
      go_frame
      refine ls_ex (some 116) (.pointer (some ⟨b16, G * 9, none⟩)) rfl rfl (exec_index_arr0f 71 50 _ _ rfl b16 3 G 9 rfl rfl Try.underlying71 (by kernel_rfl) hG3) ?_
      go_frame
      refine ls_op rfl (fun K' hK' => ?_)
      refine wp_store_u8s 50 _ _ rfl rfl b16 (G * 9) rfl (F1) rfl _ _ h16 9 (by kernel_rfl) HF1b.out.len (by rw [HQ.out.len]; omega) (fun Wz1100 pz1101 => ?_)
      replace hB := pz1101.below hB (by omega)
      replace h3 := pz1101.other h3 (by omega)
      replace h6 := pz1101.other h6 (by omega)
      replace h17 := pz1101.other h17 (by omega)
      replace h20 := pz1101.other h20 (by omega)
      replace h21 := pz1101.other h21 (by omega)
      replace ho := ho.put pz1101 (ho.off h16 (by decide))
      replace h16 : At Wz1100 b16 (.cells (u8s (Q1)) 71 (0, 0)) := by have h9 := pz1101.at_; rwa [HQ1.out] at h9
      refine hK' _ _ ?_
      clear hK' K' pz1101
      refine wpList_nil ?_
      go_upto_region 20 with (fail)
      refine wp_region_lit ?_
      refine ls_ex (some 117) (.int .i64 H) rfl rfl (exec_move _ rfl (.int .i64 H) rfl) ?_
      go_frame
      refine ls_ex (some 118) (.agg (u8s (F2))) rfl rfl (exec_load_all 50 _ rfl b21 rfl _ _ _ h21 Try.underlying50 rfl 9 (by kernel_rfl) ((u8s_size _).trans HF2b.out.len)) ?_
      go_frame
      refine ls_ex (some 119) (.pointer (some ⟨b17, H * 9, none⟩)) rfl rfl (exec_index_arr0f 71 50 _ _ rfl b17 3 H 9 rfl rfl Try.underlying71 (by kernel_rfl) hH3) ?_
      go_frame
      refine ls_op rfl (fun K' hK' => ?_)
      refine wp_store_u8s 50 _ _ rfl rfl b17 (H * 9) rfl (F2) rfl _ _ h17 9 (by kernel_rfl) HF2b.out.len (by rw [HRb.out.len]; omega) (fun Wz1103 pz1104 => ?_)
      replace hB := pz1104.below hB (by omega)
      replace h3 := pz1104.other h3 (by omega)
      replace h6 := pz1104.other h6 (by omega)
      replace h16 := pz1104.other h16 (by omega)
      replace h20 := pz1104.other h20 (by omega)
      replace h21 := pz1104.other h21 (by omega)
      replace ho := ho.put pz1104 (ho.off h17 (by decide))
      replace h17 : At Wz1103 b17 (.cells (u8s (R1)) 71 (0, 0)) := by have h9 := pz1104.at_; rwa [HR1.out] at h9
      refine hK' _ _ ?_
      clear hK' K' pz1104
      refine wpList_nil ?_
      go_upto_region 21 with (fail)
      refine wp_region_lit ?_
      refine ls_ex (some 120) (.slice (some ⟨g, 0, none⟩) L.length c9) rfl rfl (exec_move _ rfl (.slice (some ⟨g, 0, none⟩) L.length c9) rfl) ?_
      go_frame
      refine ls_ex (some 121) (.int .i64 I) rfl rfl (exec_move _ rfl (.int .i64 I) rfl) ?_
      go_frame
      refine ls_ex (some 122) (.agg (u8s (Q1))) rfl rfl (exec_load_all 71 _ rfl b16 rfl _ _ _ h16 Try.underlying71 rfl 27 (by kernel_rfl) ((u8s_size _).trans HQ1b.out.len)) ?_
      go_frame
      refine ls_op rfl (fun K' hK' => ?_)
      have lz1108 := hB.size
      have lz1109 := h3.lt
      have lz1110 := h6.lt
      have lz1111 := h16.lt
      have lz1112 := h17.lt
      have lz1113 := h20.lt
      have lz1114 := h21.lt
      have lz1115 : g < Wz1103.heap.size := (ho.lt rfl).2
      have lz1116 : w.heap.size ≤ g := (ho.lt rfl).1
      refine wp_call1 (some 123) rfl 47 _ _ rfl (fun args w => by kernel_rfl) _ rfl _ (l10Product_c Q1 HQ1b.out _) (fun e Wz1106 h => ?_)
      obtain ⟨rfl, bz1107⟩ := h
      replace hB := below_after hB bz1107
      replace h3 := h3.after bz1107
      replace h6 := h6.after bz1107
      replace h16 := h16.after bz1107
      replace h17 := h17.after bz1107
      replace h20 := h20.after bz1107
      replace h21 := h21.after bz1107
      replace ho := ho.below bz1107
      clear bz1107
      refine ⟨_, rfl, ?_⟩
      refine hK' _ _ ?_
      clear hK' K'
      go_frame
      refine ls_ex (some 124) (.pointer (some ⟨g, I * 27, none⟩)) rfl rfl (exec_ix0 _ 65 _ _ rfl g L.length c9 I 27 rfl rfl Try.underlying29 (by kernel_rfl) (by omega)) ?_
      go_frame
      refine ls_op rfl (fun K' hK' => ?_)
      have lz1120 := hB.size
      have lz1121 := h3.lt
      have lz1122 := h6.lt
      have lz1123 := h16.lt
      have lz1124 := h17.lt
      have lz1125 := h20.lt
      have lz1126 := h21.lt
      have lz1127 : g < Wz1106.heap.size := (ho.lt rfl).2
      have lz1128 : w.heap.size ≤ g := (ho.lt rfl).1
      have nh3 := ne_blk (ho.off h3 (by decide))
      have nh6 := ne_blk (ho.off h6 (by decide))
      have nh16 := ne_blk (ho.off h16 (by decide))
      have nh17 := ne_blk (ho.off h17 (by decide))
      have nh20 := ne_blk (ho.off h20 (by decide))
      have nh21 := ne_blk (ho.off h21 (by decide))
      refine wp_store_own 65 _ _ rfl rfl g I rfl (Q1) rfl ho HG27.out (by kernel_rfl) (hI3) HQ1b.out.len (fun Wz1117 hoz1119 pz1118 _ => ?_)
      replace hB := pz1118.below hB (by omega)
      replace h3 := pz1118.other h3 (by omega)
      replace h6 := pz1118.other h6 (by omega)
      replace h16 := pz1118.other h16 (by omega)
      replace h17 := pz1118.other h17 (by omega)
      replace h20 := pz1118.other h20 (by omega)
      replace h21 := pz1118.other h21 (by omega)
      replace ho := hoz1119
      refine hK' _ _ ?_
      clear hK' K' pz1118 hoz1119
      refine wpList_nil ?_
      go_upto_region 22 with (fail)
      refine wp_region_lit ?_
      refine ls_ex (some 125) (.slice (some ⟨g, 0, none⟩) L.length c9) rfl rfl (exec_move _ rfl (.slice (some ⟨g, 0, none⟩) L.length c9) rfl) ?_
      go_frame
      refine ls_ex (some 126) (.int .i64 J) rfl rfl (exec_move _ rfl (.int .i64 J) rfl) ?_
      go_frame
      refine ls_ex (some 127) (.agg (u8s (R1))) rfl rfl (exec_load_all 71 _ rfl b17 rfl _ _ _ h17 Try.underlying71 rfl 27 (by kernel_rfl) ((u8s_size _).trans HR1b.out.len)) ?_
      go_frame
      refine ls_op rfl (fun K' hK' => ?_)
      have lz1131 := hB.size
      have lz1132 := h3.lt
      have lz1133 := h6.lt
      have lz1134 := h16.lt
      have lz1135 := h17.lt
      have lz1136 := h20.lt
      have lz1137 := h21.lt
      have lz1138 : g < Wz1117.heap.size := (ho.lt rfl).2
      have lz1139 : w.heap.size ≤ g := (ho.lt rfl).1
      refine wp_call1 (some 128) rfl 47 _ _ rfl (fun args w => by kernel_rfl) _ rfl _ (l10Product_c R1 HR1b.out _) (fun e Wz1129 h => ?_)
      obtain ⟨rfl, bz1130⟩ := h
      replace hB := below_after hB bz1130
      replace h3 := h3.after bz1130
      replace h6 := h6.after bz1130
      replace h16 := h16.after bz1130
      replace h17 := h17.after bz1130
      replace h20 := h20.after bz1130
      replace h21 := h21.after bz1130
      replace ho := ho.below bz1130
      clear bz1130
      refine ⟨_, rfl, ?_⟩
      refine hK' _ _ ?_
      clear hK' K'
      go_frame
      refine ls_ex (some 129) (.pointer (some ⟨g, J * 27, none⟩)) rfl rfl (exec_ix0 _ 65 _ _ rfl g L.length c9 J 27 rfl rfl Try.underlying29 (by kernel_rfl) (by omega)) ?_
      go_frame
      refine ls_op rfl (fun K' hK' => ?_)
      have lz1143 := hB.size
      have lz1144 := h3.lt
      have lz1145 := h6.lt
      have lz1146 := h16.lt
      have lz1147 := h17.lt
      have lz1148 := h20.lt
      have lz1149 := h21.lt
      have lz1150 : g < Wz1129.heap.size := (ho.lt rfl).2
      have lz1151 : w.heap.size ≤ g := (ho.lt rfl).1
      have nh3 := ne_blk (ho.off h3 (by decide))
      have nh6 := ne_blk (ho.off h6 (by decide))
      have nh16 := ne_blk (ho.off h16 (by decide))
      have nh17 := ne_blk (ho.off h17 (by decide))
      have nh20 := ne_blk (ho.off h20 (by decide))
      have nh21 := ne_blk (ho.off h21 (by decide))
      refine wp_store_own 65 _ _ rfl rfl g J rfl (R1) rfl ho (set_len27 HG27.out HQ1b.out.len) (by kernel_rfl) ((by rw [List.length_set]; exact hJ3)) HR1b.out.len (fun Wz1140 hoz1142 pz1141 _ => ?_)
      replace hB := pz1141.below hB (by omega)
      replace h3 := pz1141.other h3 (by omega)
      replace h6 := pz1141.other h6 (by omega)
      replace h16 := pz1141.other h16 (by omega)
      replace h17 := pz1141.other h17 (by omega)
      replace h20 := pz1141.other h20 (by omega)
      replace h21 := pz1141.other h21 (by omega)
      replace ho := hoz1142
      refine hK' _ _ ?_
      clear hK' K' pz1141 hoz1142
      refine wpList_nil ?_
      go_upto_region 23 with (fail)
      refine wp_region_lit ?_
      refine ls_ex (some 130) (.slice (some ⟨g, 0, none⟩) L.length c9) rfl rfl (exec_move _ rfl (.slice (some ⟨g, 0, none⟩) L.length c9) rfl) ?_
      go_frame
      refine ls_op rfl (fun K' hK' => ?_)
      have lz1154 := hB.size
      have lz1155 := h3.lt
      have lz1156 := h6.lt
      have lz1157 := h16.lt
      have lz1158 := h17.lt
      have lz1159 := h20.lt
      have lz1160 := h21.lt
      have lz1161 : g < Wz1140.heap.size := (ho.lt rfl).2
      have lz1162 : w.heap.size ≤ g := (ho.lt rfl).1
      have lo8 := hB.size
      refine wp_call1 (some 131) rfl 48 _ _ rfl (fun args w => by kernel_rfl) _ rfl _ (l10DropN_c (some ⟨g, 0, none⟩) L.length c9 ((L.set I Q1).set J R1) _ (by rw [List.length_set, List.length_set]) (ho.rd' HL2b.out) (by rw [List.length_set, List.length_set]; omega)) (fun e Wz1152 h => ?_)
      obtain ⟨v8, rfl, ho8, bz1153⟩ := h
      replace hB := below_after hB bz1153
      replace h3 := h3.after bz1153
      replace h6 := h6.after bz1153
      replace h16 := h16.after bz1153
      replace h17 := h17.after bz1153
      replace h20 := h20.after bz1153
      replace h21 := h21.after bz1153
      replace ho := ho.below bz1153
      clear ho
      have ho := ho8
      clear ho8
      rw [HFL8.out] at ho
      obtain ⟨A8, c8, rfl⟩ := Own.rdN2 ho (n := M8) HM8.out
      clear bz1153
      refine ⟨_, rfl, ?_⟩
      refine hK' _ _ ?_
      clear hK' K'
      go_frame
      refine ls_ex (some 8) (.slice A8 M8 c8) rfl rfl (exec_assign _ rfl (.slice A8 M8 c8) rfl) ?_
      go_frame
      refine wpList_nil ?_
      go_upto_region 7 with (fail)
      refine wp_region_lit ?_
      refine ls_ex (some 44) (.int .i64 D0) rfl rfl (exec_move _ rfl (.int .i64 D0) rfl) ?_
      go_frame
      refine ls_ex (some 45) (.int .i64 D) rfl rfl (exec_sub _ _ _ _ rfl D0 1 D rfl rfl HD.out) ?_
      go_frame
      refine ls_ex (some 2) (.int .i64 D) rfl rfl (exec_assign _ rfl (.int .i64 D) rfl) ?_
      go_frame
      refine wpList_nil ?_
      go_wp2_with fail
      go_roundw
      case rel => exact ⟨t + 1, _, _, _, by omega, by rw [← hD], rfl, rfl, HS, hYb, hB, h3, h6, ho.mono (by omega)⟩
      case measure => simp [intOf]; omega
     ·obtain ⟨D0, hD0⟩ : ∃ z9, T - t = z9 := ⟨_, rfl⟩
      obtain ⟨D, hD⟩ : ∃ z9, T - (t + 1) = z9 := ⟨_, rfl⟩
      have HD : Hid (IntKind.i64.wrap ((D0 : Int) - 1) = (D : Int)) := Lib.hid (by rw [IntWalk.i64_in _ (by omega)]; omega)
      rw [hD0]
      obtain ⟨U, hU⟩ : ∃ z9, nxW x = z9 := ⟨_, rfl⟩
      obtain ⟨V, hV⟩ : ∃ z9, nxW U = z9 := ⟨_, rfl⟩
      obtain ⟨Y, hY⟩ : ∃ z9, nxW V = z9 := ⟨_, rfl⟩
      have hUb : U < 2147483647 := by rw [← hU]; exact nxW_lt _
      have hVb : V < 2147483647 := by rw [← hV]; exact nxW_lt _
      have hYb : Y < 2147483647 := by rw [← hY]; exact nxW_lt _
      obtain ⟨MU, hMU⟩ : ∃ z9, x * 48271 = z9 := ⟨_, rfl⟩
      have HMU : Hid (IntKind.i64.wrap ((x : Int) * 48271) = (MU : Int)) := Lib.hid (by rw [IntWalk.i64_in _ (by omega)]; omega)
      have HNU : Hid ((MU : Int).tmod 2147483647 = (U : Int)) := Lib.hid (by rw [Int.tmod_eq_emod_of_nonneg (by omega), ← hU, ← hMU]; unfold nxW; omega)
      obtain ⟨MV, hMV⟩ : ∃ z9, U * 48271 = z9 := ⟨_, rfl⟩
      have HMV : Hid (IntKind.i64.wrap ((U : Int) * 48271) = (MV : Int)) := Lib.hid (by rw [IntWalk.i64_in _ (by omega)]; omega)
      have HNV : Hid ((MV : Int).tmod 2147483647 = (V : Int)) := Lib.hid (by rw [Int.tmod_eq_emod_of_nonneg (by omega), ← hV, ← hMV]; unfold nxW; omega)
      obtain ⟨MY, hMY⟩ : ∃ z9, V * 48271 = z9 := ⟨_, rfl⟩
      have HMY : Hid (IntKind.i64.wrap ((V : Int) * 48271) = (MY : Int)) := Lib.hid (by rw [IntWalk.i64_in _ (by omega)]; omega)
      have HNY : Hid ((MY : Int).tmod 2147483647 = (Y : Int)) := Lib.hid (by rw [Int.tmod_eq_emod_of_nonneg (by omega), ← hY, ← hMY]; unfold nxW; omega)
      obtain ⟨A9, c9, rfl⟩ := Own.rdN2 ho (n := L.length) rfl
      obtain ⟨g, rfl, hg⟩ := ho.blk (by omega)
      obtain ⟨I, hI⟩ : ∃ z9, U % L.length = z9 := ⟨_, rfl⟩
      obtain ⟨J, hJ⟩ : ∃ z9, V % L.length = z9 := ⟨_, rfl⟩
      obtain ⟨F, hF⟩ : ∃ z9, Y % 3 = z9 := ⟨_, rfl⟩
      have hI3 : I < L.length := by rw [← hI]; exact Nat.mod_lt _ (by omega)
      have hJ3 : J < L.length := by rw [← hJ]; exact Nat.mod_lt _ (by omega)
      have hF3 : F < 3 := by rw [← hF]; exact Nat.mod_lt _ (by omega)
      obtain ⟨Q, hQ⟩ : ∃ z9, L[I]? = some z9 := ⟨_, List.getElem?_eq_getElem hI3⟩
      obtain ⟨R, hRj⟩ : ∃ z9, L[J]? = some z9 := ⟨_, List.getElem?_eq_getElem hJ3⟩
      have HI : Hid ((U : Int).tmod (L.length : Int) = (I : Int)) := Lib.hid (by rw [Int.tmod_eq_emod_of_nonneg (by omega), ← hI]; rfl)
      have HJ : Hid ((V : Int).tmod (L.length : Int) = (J : Int)) := Lib.hid (by rw [Int.tmod_eq_emod_of_nonneg (by omega), ← hJ]; rfl)
      have HF : Hid ((Y : Int).tmod 3 = (F : Int)) := Lib.hid (by rw [Int.tmod_eq_emod_of_nonneg (by omega), ← hF]; rfl)
      rw [hU, hV, hI, hJ] at hij
      rw [hU, hV, hY, hI, hJ, hF, hQ, hRj, Option.getD_some, Option.getD_some] at heq
      have HS : Hid (wst p qs S (t + 1) = (L, Y)) := Lib.hid (by have h9 := wst_no (F := F) HW.out (by rw [hU]; exact hI) (by rw [hU, hV]; exact hJ) (by rw [hU, hV, hY]; exact hF) hQ hRj (by unfold flB; rw [heq, Bool.and_false]); rwa [hU, hV, hY] at h9)
      have HNE : Hid ((!(facQ Q F == facQ R F)) = true) := Lib.hid (by rw [heq]; rfl)
      clear heq
      have HQ := Lib.hid (HLb.out _ (List.mem_of_getElem? hQ))
      have HRb := Lib.hid (HLb.out _ (List.mem_of_getElem? hRj))
      have HQi := Lib.hid hQ
      have HRj := Lib.hid hRj
      have hLz : ((L.length : Int)) ≠ 0 := by omega
      clear hU hV hY hI hJ hF hQ hRj
      clear hMU hMV hMY
      go_upto_region 6 with (fail)
      refine wp_region_lit ?_
      refine ls_ex (some 42) (.int .i64 D0) rfl rfl (exec_move _ rfl (.int .i64 D0) rfl) ?_
      go_frame
      refine ls_ex (some 43) (.bool true) rfl rfl (exec_gtr _ _ _ _ rfl D0 0 rfl rfl true (decide_eq_true (by omega))) ?_
      go_frame
      refine wpList_nil ?_
      go_upto_region 8 with (fail)
      refine wp_region_lit ?_
      refine ls_ex (some 46) (.int .i64 x) rfl rfl (exec_move _ rfl (.int .i64 x) rfl) ?_
      go_frame
      refine ls_ex (some 47) (.int .i64 MU) rfl rfl (exec_mul _ _ _ _ rfl x 48271 MU rfl rfl HMU.out) ?_
      go_frame
      refine ls_ex (some 48) (.int .i64 U) rfl rfl (exec_rem _ _ _ _ rfl MU 2147483647 U rfl rfl (by decide) HNU.out) ?_
      go_frame
      refine ls_ex (some 9) (.int .i64 U) rfl rfl (exec_assign _ rfl (.int .i64 U) rfl) ?_
      go_frame
      refine wpList_nil ?_
      go_upto_region 9 with (fail)
      refine wp_region_lit ?_
      refine ls_ex (some 49) (.int .i64 U) rfl rfl (exec_move _ rfl (.int .i64 U) rfl) ?_
      go_frame
      refine ls_ex (some 50) (.int .i64 MV) rfl rfl (exec_mul _ _ _ _ rfl U 48271 MV rfl rfl HMV.out) ?_
      go_frame
      refine ls_ex (some 51) (.int .i64 V) rfl rfl (exec_rem _ _ _ _ rfl MV 2147483647 V rfl rfl (by decide) HNV.out) ?_
      go_frame
      refine ls_ex (some 10) (.int .i64 V) rfl rfl (exec_assign _ rfl (.int .i64 V) rfl) ?_
      go_frame
      refine wpList_nil ?_
      go_upto_region 10 with (fail)
      refine wp_region_lit ?_
      refine ls_ex (some 52) (.int .i64 V) rfl rfl (exec_move _ rfl (.int .i64 V) rfl) ?_
      go_frame
      refine ls_ex (some 53) (.int .i64 MY) rfl rfl (exec_mul _ _ _ _ rfl V 48271 MY rfl rfl HMY.out) ?_
      go_frame
      refine ls_ex (some 54) (.int .i64 Y) rfl rfl (exec_rem _ _ _ _ rfl MY 2147483647 Y rfl rfl (by decide) HNY.out) ?_
      go_frame
      refine ls_ex (some 11) (.int .i64 Y) rfl rfl (exec_assign _ rfl (.int .i64 Y) rfl) ?_
      go_frame
      refine wpList_nil ?_
      go_upto_region 11 with (fail)
      refine wp_region_lit ?_
      refine ls_ex (some 55) (.int .i64 Y) rfl rfl (exec_move _ rfl (.int .i64 Y) rfl) ?_
      go_frame
      refine ls_ex (some 1) (.int .i64 Y) rfl rfl (exec_assign _ rfl (.int .i64 Y) rfl) ?_
      go_frame
      refine wpList_nil ?_
      go_upto_region 12 with (fail)
      refine wp_region_lit ?_
      refine ls_ex (some 56) (.slice (some ⟨g, 0, none⟩) L.length c9) rfl rfl (exec_move _ rfl (.slice (some ⟨g, 0, none⟩) L.length c9) rfl) ?_
      go_frame
      refine ls_ex (some 57) (.int .i64 L.length) rfl rfl (exec_len _ 29 65 rfl ((some ⟨g, 0, none⟩)) L.length c9 rfl Try.underlying29) ?_
      go_frame
      refine ls_ex (some 12) (.int .i64 L.length) rfl rfl (exec_assign _ rfl (.int .i64 L.length) rfl) ?_
      go_frame
      refine wpList_nil ?_
      go_upto_region 13 with (fail)
      refine wp_region_lit ?_
      refine ls_ex (some 58) (.int .i64 L.length) rfl rfl (exec_move _ rfl (.int .i64 L.length) rfl) ?_
      go_frame
      refine ls_ex (some 59) (.bool false) rfl rfl (exec_eql _ _ _ _ rfl L.length 0 rfl rfl false (beq_eq_false_iff_ne.2 (by omega))) ?_
      go_frame
      refine wpList_nil ?_
      go_upto_region 14 with (fail)
      refine wp_region_y (zs := []) (S := fun w' => Below w.heap.size w w') (S2 := fun w' => True) (by kernel_rfl) ?_
      change wpAnyY _ _ _ _ _ _ _ _ _ _ (World.drew _)
      generalize hwdz1163 : World.drew _ = wdz1163
      replace hB : Below w.heap.size w wdz1163 := by rw [← hwdz1163]; exact hB.drew
      replace h3 : At wdz1163 w.heap.size (.cells #[.int .i64 p, .int .i64 n, .int .i64 m, .int .i64 k, .slice (some ⟨a0, 0, none⟩) qs.length c] 31 (0, 0)) := by rw [← hwdz1163]; exact h3
      replace h6 : At wdz1163 Wz2.heap.size (.cells #[.int .i64 0, .int .i64 0, .int .i64 0, .int .i64 0, .slice none 0 0] 31 (0, 0)) := by rw [← hwdz1163]; exact h6
      replace ho : Own wdz1163 w.heap.size (.slice (some ⟨g, 0, none⟩) L.length c9) (L) := by rw [← hwdz1163]; exact ho.drew
      clear hwdz1163
      refine y_yield 0 (some 60) (.int .i64 U) rfl (by kernel_rfl) (by kernel_rfl) (by kernel_rfl) (fun _ _ _ h => h) rfl rfl hB (fun w' h' => exec_move _ rfl (.int .i64 U) rfl) ?_
      go_frame
      refine y_yield 1 (some 61) (.int .i64 L.length) rfl (by kernel_rfl) (by kernel_rfl) (by kernel_rfl) (fun _ _ _ h => h) rfl rfl hB (fun w' h' => exec_move _ rfl (.int .i64 L.length) rfl) ?_
      go_frame
      refine y_yield 2 (some 62) (.int .i64 I) rfl (by kernel_rfl) (by kernel_rfl) (by kernel_rfl) (fun _ _ _ h => h) rfl rfl hB (fun w' h' => exec_rem _ _ _ _ rfl U L.length I rfl rfl hLz HI.out) ?_
      go_frame
      refine y_yield 3 (some 63) (.int .i64 V) rfl (by kernel_rfl) (by kernel_rfl) (by kernel_rfl) (fun _ _ _ h => h) rfl rfl hB (fun w' h' => exec_move _ rfl (.int .i64 V) rfl) ?_
      go_frame
      refine y_yield 4 (some 64) (.int .i64 L.length) rfl (by kernel_rfl) (by kernel_rfl) (by kernel_rfl) (fun _ _ _ h => h) rfl rfl hB (fun w' h' => exec_move _ rfl (.int .i64 L.length) rfl) ?_
      go_frame
      refine y_yield 5 (some 65) (.int .i64 J) rfl (by kernel_rfl) (by kernel_rfl) (by kernel_rfl) (fun _ _ _ h => h) rfl rfl hB (fun w' h' => exec_rem _ _ _ _ rfl V L.length J rfl rfl hLz HJ.out) ?_
      go_frame
      refine y_yield 6 (some 66) (.int .i64 Y) rfl (by kernel_rfl) (by kernel_rfl) (by kernel_rfl) (fun _ _ _ h => h) rfl rfl hB (fun w' h' => exec_move _ rfl (.int .i64 Y) rfl) ?_
      go_frame
      refine y_yield 7 (some 67) (.int .i64 F) rfl (by kernel_rfl) (by kernel_rfl) (by kernel_rfl) (fun _ _ _ h => h) rfl rfl hB (fun w' h' => exec_rem _ _ _ _ rfl Y 3 F rfl rfl (by decide) HF.out) ?_
      go_frame
      refine y_oper 8 (by kernel_rfl) rfl rfl (fun K' hK' => ?_)
      refine wp_exec (some 13) rfl (.int .i64 I) (exec_assign _ rfl (.int .i64 I) rfl) ?_
      refine hK' _ _ hB (fun _ => trivial) ?_
      clear hK' K'
      go_frame
      refine y_oper 9 (by kernel_rfl) rfl rfl (fun K' hK' => ?_)
      refine wp_exec (some 14) rfl (.int .i64 J) (exec_assign _ rfl (.int .i64 J) rfl) ?_
      refine hK' _ _ hB (fun _ => trivial) ?_
      clear hK' K'
      go_frame
      refine y_oper 10 (by kernel_rfl) rfl rfl (fun K' hK' => ?_)
      refine wp_exec (some 15) rfl (.int .i64 F) (exec_assign _ rfl (.int .i64 F) rfl) ?_
      refine hK' _ _ hB (fun _ => trivial) ?_
      clear hK' K'
      go_frame
      refine y_done (by kernel_rfl) ?_ _
      go_upto_region 15 with (fail)
      go_cut [16, 17] from 68 to 77 (fun s16 s17 wx => ∃ b16 b17 : Nat, s16 = .pointer (some ⟨b16, 0, none⟩) ∧ s17 = .pointer (some ⟨b17, 0, none⟩) ∧ b16 ≠ b17 ∧ (w.heap.size < b16 ∧ w.heap.size < b17 ∧ Wz2.heap.size < b16 ∧ Wz2.heap.size < b17) ∧ Below w.heap.size w wx ∧ At wx w.heap.size (.cells #[.int .i64 p, .int .i64 n, .int .i64 m, .int .i64 k, .slice (some ⟨a0, 0, none⟩) qs.length c] 31 (0, 0)) ∧ At wx Wz2.heap.size (.cells #[.int .i64 0, .int .i64 0, .int .i64 0, .int .i64 0, .slice none 0 0] 31 (0, 0)) ∧ At wx b16 (.cells (u8s (Q)) 71 (0, 0)) ∧ At wx b17 (.cells (u8s (R)) 71 (0, 0)) ∧ Own wx w.heap.size (.slice (some ⟨g, 0, none⟩) L.length c9) (L))
      case first =>
       refine wp_region_y (zs := []) (S := fun w' => Below w.heap.size w w' ∧ Own w' w.heap.size (.slice (some ⟨g, 0, none⟩) L.length c9) (L)) (S2 := fun w' => True) (by kernel_rfl) ?_
       change wpAnyY _ _ _ _ _ _ _ _ _ _ (World.drew _)
       generalize hwdz1164 : World.drew _ = wdz1164
       replace hB : Below w.heap.size w wdz1164 := by rw [← hwdz1164]; exact hB.drew
       replace h3 : At wdz1164 w.heap.size (.cells #[.int .i64 p, .int .i64 n, .int .i64 m, .int .i64 k, .slice (some ⟨a0, 0, none⟩) qs.length c] 31 (0, 0)) := by rw [← hwdz1164]; exact h3
       replace h6 : At wdz1164 Wz2.heap.size (.cells #[.int .i64 0, .int .i64 0, .int .i64 0, .int .i64 0, .slice none 0 0] 31 (0, 0)) := by rw [← hwdz1164]; exact h6
       replace ho : Own wdz1164 w.heap.size (.slice (some ⟨g, 0, none⟩) L.length c9) (L) := by rw [← hwdz1164]; exact ho.drew
       clear hwdz1164
       refine y_yield 0 (some 68) (.slice (some ⟨g, 0, none⟩) L.length c9) rfl (by kernel_rfl) (by kernel_rfl) (by kernel_rfl) (fun _ _ _ h => h) rfl rfl ⟨hB, ho⟩ (fun w' h' => exec_move _ rfl (.slice (some ⟨g, 0, none⟩) L.length c9) rfl) ?_
       go_frame
       refine y_yield 1 (some 69) (.int .i64 I) rfl (by kernel_rfl) (by kernel_rfl) (by kernel_rfl) (fun _ _ _ h => h) rfl rfl ⟨hB, ho⟩ (fun w' h' => exec_move _ rfl (.int .i64 I) rfl) ?_
       go_frame
       refine y_yield 2 (some 70) (.pointer (some ⟨g, I * 27, none⟩)) rfl (by kernel_rfl) (by kernel_rfl) (by kernel_rfl) (fun _ _ _ h => h) rfl rfl ⟨hB, ho⟩ (fun w' h' => exec_ix0 _ 65 _ _ rfl g L.length c9 I 27 rfl rfl Try.underlying29 (by kernel_rfl) (by omega)) ?_
       go_frame
       refine y_yield 3 (some 71) (.agg (u8s (Q))) rfl (by kernel_rfl) (by kernel_rfl) (by kernel_rfl) (fun _ _ _ h => h) rfl rfl ⟨hB, ho⟩ (fun w' h' => exec_load_cells 65 _ rfl g (I * 27) rfl (Q) _ 27 (ownF0 h'.2 HLb.out HQi.out) Try.underlying65 rfl (by kernel_rfl) (HQ.out.len)) ?_
       go_frame
       refine y_yield 5 (some 73) (.slice (some ⟨g, 0, none⟩) L.length c9) rfl (by kernel_rfl) (by kernel_rfl) (by kernel_rfl) (fun _ _ _ h => h) rfl rfl ⟨hB, ho⟩ (fun w' h' => exec_move _ rfl (.slice (some ⟨g, 0, none⟩) L.length c9) rfl) ?_
       go_frame
       refine y_yield 6 (some 74) (.int .i64 J) rfl (by kernel_rfl) (by kernel_rfl) (by kernel_rfl) (fun _ _ _ h => h) rfl rfl ⟨hB, ho⟩ (fun w' h' => exec_move _ rfl (.int .i64 J) rfl) ?_
       go_frame
       refine y_yield 7 (some 75) (.pointer (some ⟨g, J * 27, none⟩)) rfl (by kernel_rfl) (by kernel_rfl) (by kernel_rfl) (fun _ _ _ h => h) rfl rfl ⟨hB, ho⟩ (fun w' h' => exec_ix0 _ 65 _ _ rfl g L.length c9 J 27 rfl rfl Try.underlying29 (by kernel_rfl) (by omega)) ?_
       go_frame
       refine y_yield 8 (some 76) (.agg (u8s (R))) rfl (by kernel_rfl) (by kernel_rfl) (by kernel_rfl) (fun _ _ _ h => h) rfl rfl ⟨hB, ho⟩ (fun w' h' => exec_load_cells 65 _ rfl g (J * 27) rfl (R) _ 27 (ownF0 h'.2 HLb.out HRj.out) Try.underlying65 rfl (by kernel_rfl) (HRb.out.len)) ?_
       go_frame
       refine y_three 4 10 11 (by kernel_rfl) rfl rfl rfl rfl rfl rfl (fun K' hK' => ?_) (fun K' hK' => ?_) (fun K' hK' => ?_)
       ·have lz1167 := hB.size
        have lz1168 := h3.lt
        have lz1169 := h6.lt
        refine wp_call1 (some 72) rfl 45 _ _ rfl (fun args w => by kernel_rfl) _ rfl _ (l10Forms_c Q HQ.out _) (fun e Wz1165 h => ?_)
        obtain ⟨rfl, bz1166⟩ := h
        replace hB := below_after hB bz1166
        replace h3 := h3.after bz1166
        replace h6 := h6.after bz1166
        replace ho := ho.below bz1166
        clear bz1166
        refine ⟨_, rfl, ?_⟩
        refine hK' _ _ ⟨hB, ho⟩ (fun _ => trivial) ?_
        clear hK' K'
        go_frame
        refine y_three 9 10 11 (by kernel_rfl) rfl rfl rfl rfl rfl rfl (fun K' hK' => ?_) (fun K' hK' => ?_) (fun K' hK' => ?_)
        ·have lz1172 := hB.size
         have lz1173 := h3.lt
         have lz1174 := h6.lt
         refine wp_call1 (some 77) rfl 45 _ _ rfl (fun args w => by kernel_rfl) _ rfl _ (l10Forms_c R HRb.out _) (fun e Wz1170 h => ?_)
         obtain ⟨rfl, bz1171⟩ := h
         replace hB := below_after hB bz1171
         replace h3 := h3.after bz1171
         replace h6 := h6.after bz1171
         replace ho := ho.below bz1171
         clear bz1171
         refine ⟨_, rfl, ?_⟩
         refine hK' _ _ ⟨hB, ho⟩ (fun _ => trivial) ?_
         clear hK' K'
         go_frame
         refine y_two 10 11 (by kernel_rfl) rfl rfl rfl rfl (fun K' hK' => ?_) (fun K' hK' => ?_)
         ·have lz1175 := hB.size
          have lz1176 := h3.lt
          have lz1177 := h6.lt
          have naz1182 := ho.away_new
          refine wp_new (some 16) rfl (al__3_impl_Form rfl) (fun Wz1178 nnz1179 => ?_)
          have bz1180 := nnz1179.below (Below.refl _ _) (Nat.le_refl _)
          replace hB := below_after hB bz1180
          replace h3 := h3.after bz1180
          replace h6 := h6.after bz1180
          replace ho := ho.below bz1180
          have hz1181 : At Wz1178 Wz1170.heap.size (.cells (u8s (List.replicate 27 0)) 71 (0, 0)) := nnz1179.at_
          refine hK' _ _ ⟨hB, ho⟩ (fun _ => trivial) ?_
          clear hK' K' nnz1179 bz1180
          go_frame
          refine y_oper 11 (by kernel_rfl) rfl rfl (fun K' hK' => ?_)
          have lz1183 := hB.size
          have lz1184 := h3.lt
          have lz1185 := h6.lt
          have lz1186 := hz1181.lt
          have naz1191 := ho.away_new
          refine wp_new (some 17) rfl (al__3_impl_Form rfl) (fun Wz1187 nnz1188 => ?_)
          have bz1189 := nnz1188.below (Below.refl _ _) (Nat.le_refl _)
          replace hB := below_after hB bz1189
          replace h3 := h3.after bz1189
          replace h6 := h6.after bz1189
          replace ho := ho.below bz1189
          replace hz1181 := hz1181.after bz1189
          have hz1190 : At Wz1187 Wz1178.heap.size (.cells (u8s (List.replicate 27 0)) 71 (0, 0)) := nnz1188.at_
          refine hK' _ _ ⟨hB, ho⟩ (fun _ => trivial) ?_
          clear hK' K' nnz1188 bz1189
          go_frame
          refine y_oper 12 (by kernel_rfl) rfl rfl (fun K' hK' => ?_)
          refine wp_store_bytes 71 _ _ rfl rfl Wz1170.heap.size rfl (Q) rfl _ _ hz1181 27 (by kernel_rfl) HQ.out.len (by simp) (fun Wz1192 pz1193 => ?_)
          replace hB := pz1193.below hB (by omega)
          replace h3 := pz1193.other h3 (by omega)
          replace h6 := pz1193.other h6 (by omega)
          replace ho := ho.put pz1193 naz1182
          replace hz1190 := pz1193.other hz1190 (by omega)
          replace hz1181 : At Wz1192 Wz1170.heap.size (.cells (u8s (Q)) 71 (0, 0)) := pz1193.at_
          refine hK' _ _ ⟨hB, ho⟩ (fun _ => trivial) ?_
          clear hK' K' pz1193
          refine y_oper 13 (by kernel_rfl) rfl rfl (fun K' hK' => ?_)
          refine wp_store_bytes 71 _ _ rfl rfl Wz1178.heap.size rfl (R) rfl _ _ hz1190 27 (by kernel_rfl) HRb.out.len (by simp) (fun Wz1194 pz1195 => ?_)
          replace hB := pz1195.below hB (by omega)
          replace h3 := pz1195.other h3 (by omega)
          replace h6 := pz1195.other h6 (by omega)
          replace ho := ho.put pz1195 naz1191
          replace hz1181 := pz1195.other hz1181 (by omega)
          replace hz1190 : At Wz1194 Wz1178.heap.size (.cells (u8s (R)) 71 (0, 0)) := pz1195.at_
          refine hK' _ _ ⟨hB, ho⟩ (fun _ => trivial) ?_
          clear hK' K' pz1195
          refine y_done (by kernel_rfl) ?_ _
          go_wp2_with fail
          go_meet
          exact ⟨_, _, rfl, rfl, by omega, ⟨by omega, by omega, by omega, by omega⟩, hB, h3, h6, hz1181, hz1190, ho⟩
         ·have lz1196 := hB.size
          have lz1197 := h3.lt
          have lz1198 := h6.lt
          have naz1203 := ho.away_new
          refine wp_new (some 17) rfl (al__3_impl_Form rfl) (fun Wz1199 nnz1200 => ?_)
          have bz1201 := nnz1200.below (Below.refl _ _) (Nat.le_refl _)
          replace hB := below_after hB bz1201
          replace h3 := h3.after bz1201
          replace h6 := h6.after bz1201
          replace ho := ho.below bz1201
          have hz1202 : At Wz1199 Wz1170.heap.size (.cells (u8s (List.replicate 27 0)) 71 (0, 0)) := nnz1200.at_
          refine hK' _ _ ⟨hB, ho⟩ (fun _ => trivial) ?_
          clear hK' K' nnz1200 bz1201
          go_frame
          refine y_oper 10 (by kernel_rfl) rfl rfl (fun K' hK' => ?_)
          have lz1204 := hB.size
          have lz1205 := h3.lt
          have lz1206 := h6.lt
          have lz1207 := hz1202.lt
          have naz1212 := ho.away_new
          refine wp_new (some 16) rfl (al__3_impl_Form rfl) (fun Wz1208 nnz1209 => ?_)
          have bz1210 := nnz1209.below (Below.refl _ _) (Nat.le_refl _)
          replace hB := below_after hB bz1210
          replace h3 := h3.after bz1210
          replace h6 := h6.after bz1210
          replace ho := ho.below bz1210
          replace hz1202 := hz1202.after bz1210
          have hz1211 : At Wz1208 Wz1199.heap.size (.cells (u8s (List.replicate 27 0)) 71 (0, 0)) := nnz1209.at_
          refine hK' _ _ ⟨hB, ho⟩ (fun _ => trivial) ?_
          clear hK' K' nnz1209 bz1210
          go_frame
          refine y_oper 12 (by kernel_rfl) rfl rfl (fun K' hK' => ?_)
          refine wp_store_bytes 71 _ _ rfl rfl Wz1199.heap.size rfl (Q) rfl _ _ hz1211 27 (by kernel_rfl) HQ.out.len (by simp) (fun Wz1213 pz1214 => ?_)
          replace hB := pz1214.below hB (by omega)
          replace h3 := pz1214.other h3 (by omega)
          replace h6 := pz1214.other h6 (by omega)
          replace ho := ho.put pz1214 naz1212
          replace hz1202 := pz1214.other hz1202 (by omega)
          replace hz1211 : At Wz1213 Wz1199.heap.size (.cells (u8s (Q)) 71 (0, 0)) := pz1214.at_
          refine hK' _ _ ⟨hB, ho⟩ (fun _ => trivial) ?_
          clear hK' K' pz1214
          refine y_oper 13 (by kernel_rfl) rfl rfl (fun K' hK' => ?_)
          refine wp_store_bytes 71 _ _ rfl rfl Wz1170.heap.size rfl (R) rfl _ _ hz1202 27 (by kernel_rfl) HRb.out.len (by simp) (fun Wz1215 pz1216 => ?_)
          replace hB := pz1216.below hB (by omega)
          replace h3 := pz1216.other h3 (by omega)
          replace h6 := pz1216.other h6 (by omega)
          replace ho := ho.put pz1216 naz1203
          replace hz1211 := pz1216.other hz1211 (by omega)
          replace hz1202 : At Wz1215 Wz1170.heap.size (.cells (u8s (R)) 71 (0, 0)) := pz1216.at_
          refine hK' _ _ ⟨hB, ho⟩ (fun _ => trivial) ?_
          clear hK' K' pz1216
          refine y_done (by kernel_rfl) ?_ _
          go_wp2_with fail
          go_meet
          exact ⟨_, _, rfl, rfl, by omega, ⟨by omega, by omega, by omega, by omega⟩, hB, h3, h6, hz1211, hz1202, ho⟩
        ·have lz1217 := hB.size
         have lz1218 := h3.lt
         have lz1219 := h6.lt
         have naz1224 := ho.away_new
         refine wp_new (some 16) rfl (al__3_impl_Form rfl) (fun Wz1220 nnz1221 => ?_)
         have bz1222 := nnz1221.below (Below.refl _ _) (Nat.le_refl _)
         replace hB := below_after hB bz1222
         replace h3 := h3.after bz1222
         replace h6 := h6.after bz1222
         replace ho := ho.below bz1222
         have hz1223 : At Wz1220 Wz1165.heap.size (.cells (u8s (List.replicate 27 0)) 71 (0, 0)) := nnz1221.at_
         refine hK' _ _ ⟨hB, ho⟩ (fun _ => trivial) ?_
         clear hK' K' nnz1221 bz1222
         go_frame
         refine y_two 9 11 (by kernel_rfl) rfl rfl rfl rfl (fun K' hK' => ?_) (fun K' hK' => ?_)
         ·have lz1227 := hB.size
          have lz1228 := h3.lt
          have lz1229 := h6.lt
          have lz1230 := hz1223.lt
          refine wp_call1 (some 77) rfl 45 _ _ rfl (fun args w => by kernel_rfl) _ rfl _ (l10Forms_c R HRb.out _) (fun e Wz1225 h => ?_)
          obtain ⟨rfl, bz1226⟩ := h
          replace hB := below_after hB bz1226
          replace h3 := h3.after bz1226
          replace h6 := h6.after bz1226
          replace ho := ho.below bz1226
          replace hz1223 := hz1223.after bz1226
          clear bz1226
          refine ⟨_, rfl, ?_⟩
          refine hK' _ _ ⟨hB, ho⟩ (fun _ => trivial) ?_
          clear hK' K'
          go_frame
          refine y_oper 11 (by kernel_rfl) rfl rfl (fun K' hK' => ?_)
          have lz1231 := hB.size
          have lz1232 := h3.lt
          have lz1233 := h6.lt
          have lz1234 := hz1223.lt
          have naz1239 := ho.away_new
          refine wp_new (some 17) rfl (al__3_impl_Form rfl) (fun Wz1235 nnz1236 => ?_)
          have bz1237 := nnz1236.below (Below.refl _ _) (Nat.le_refl _)
          replace hB := below_after hB bz1237
          replace h3 := h3.after bz1237
          replace h6 := h6.after bz1237
          replace ho := ho.below bz1237
          replace hz1223 := hz1223.after bz1237
          have hz1238 : At Wz1235 Wz1225.heap.size (.cells (u8s (List.replicate 27 0)) 71 (0, 0)) := nnz1236.at_
          refine hK' _ _ ⟨hB, ho⟩ (fun _ => trivial) ?_
          clear hK' K' nnz1236 bz1237
          go_frame
          refine y_oper 12 (by kernel_rfl) rfl rfl (fun K' hK' => ?_)
          refine wp_store_bytes 71 _ _ rfl rfl Wz1165.heap.size rfl (Q) rfl _ _ hz1223 27 (by kernel_rfl) HQ.out.len (by simp) (fun Wz1240 pz1241 => ?_)
          replace hB := pz1241.below hB (by omega)
          replace h3 := pz1241.other h3 (by omega)
          replace h6 := pz1241.other h6 (by omega)
          replace ho := ho.put pz1241 naz1224
          replace hz1238 := pz1241.other hz1238 (by omega)
          replace hz1223 : At Wz1240 Wz1165.heap.size (.cells (u8s (Q)) 71 (0, 0)) := pz1241.at_
          refine hK' _ _ ⟨hB, ho⟩ (fun _ => trivial) ?_
          clear hK' K' pz1241
          refine y_oper 13 (by kernel_rfl) rfl rfl (fun K' hK' => ?_)
          refine wp_store_bytes 71 _ _ rfl rfl Wz1225.heap.size rfl (R) rfl _ _ hz1238 27 (by kernel_rfl) HRb.out.len (by simp) (fun Wz1242 pz1243 => ?_)
          replace hB := pz1243.below hB (by omega)
          replace h3 := pz1243.other h3 (by omega)
          replace h6 := pz1243.other h6 (by omega)
          replace ho := ho.put pz1243 naz1239
          replace hz1223 := pz1243.other hz1223 (by omega)
          replace hz1238 : At Wz1242 Wz1225.heap.size (.cells (u8s (R)) 71 (0, 0)) := pz1243.at_
          refine hK' _ _ ⟨hB, ho⟩ (fun _ => trivial) ?_
          clear hK' K' pz1243
          refine y_done (by kernel_rfl) ?_ _
          go_wp2_with fail
          go_meet
          exact ⟨_, _, rfl, rfl, by omega, ⟨by omega, by omega, by omega, by omega⟩, hB, h3, h6, hz1223, hz1238, ho⟩
         ·have lz1244 := hB.size
          have lz1245 := h3.lt
          have lz1246 := h6.lt
          have lz1247 := hz1223.lt
          have naz1252 := ho.away_new
          refine wp_new (some 17) rfl (al__3_impl_Form rfl) (fun Wz1248 nnz1249 => ?_)
          have bz1250 := nnz1249.below (Below.refl _ _) (Nat.le_refl _)
          replace hB := below_after hB bz1250
          replace h3 := h3.after bz1250
          replace h6 := h6.after bz1250
          replace ho := ho.below bz1250
          replace hz1223 := hz1223.after bz1250
          have hz1251 : At Wz1248 Wz1220.heap.size (.cells (u8s (List.replicate 27 0)) 71 (0, 0)) := nnz1249.at_
          refine hK' _ _ ⟨hB, ho⟩ (fun _ => trivial) ?_
          clear hK' K' nnz1249 bz1250
          go_frame
          refine y_oper 9 (by kernel_rfl) rfl rfl (fun K' hK' => ?_)
          have lz1255 := hB.size
          have lz1256 := h3.lt
          have lz1257 := h6.lt
          have lz1258 := hz1223.lt
          have lz1259 := hz1251.lt
          refine wp_call1 (some 77) rfl 45 _ _ rfl (fun args w => by kernel_rfl) _ rfl _ (l10Forms_c R HRb.out _) (fun e Wz1253 h => ?_)
          obtain ⟨rfl, bz1254⟩ := h
          replace hB := below_after hB bz1254
          replace h3 := h3.after bz1254
          replace h6 := h6.after bz1254
          replace ho := ho.below bz1254
          replace hz1223 := hz1223.after bz1254
          replace hz1251 := hz1251.after bz1254
          clear bz1254
          refine ⟨_, rfl, ?_⟩
          refine hK' _ _ ⟨hB, ho⟩ (fun _ => trivial) ?_
          clear hK' K'
          go_frame
          refine y_oper 12 (by kernel_rfl) rfl rfl (fun K' hK' => ?_)
          refine wp_store_bytes 71 _ _ rfl rfl Wz1165.heap.size rfl (Q) rfl _ _ hz1223 27 (by kernel_rfl) HQ.out.len (by simp) (fun Wz1260 pz1261 => ?_)
          replace hB := pz1261.below hB (by omega)
          replace h3 := pz1261.other h3 (by omega)
          replace h6 := pz1261.other h6 (by omega)
          replace ho := ho.put pz1261 naz1224
          replace hz1251 := pz1261.other hz1251 (by omega)
          replace hz1223 : At Wz1260 Wz1165.heap.size (.cells (u8s (Q)) 71 (0, 0)) := pz1261.at_
          refine hK' _ _ ⟨hB, ho⟩ (fun _ => trivial) ?_
          clear hK' K' pz1261
          refine y_oper 13 (by kernel_rfl) rfl rfl (fun K' hK' => ?_)
          refine wp_store_bytes 71 _ _ rfl rfl Wz1220.heap.size rfl (R) rfl _ _ hz1251 27 (by kernel_rfl) HRb.out.len (by simp) (fun Wz1262 pz1263 => ?_)
          replace hB := pz1263.below hB (by omega)
          replace h3 := pz1263.other h3 (by omega)
          replace h6 := pz1263.other h6 (by omega)
          replace ho := ho.put pz1263 naz1252
          replace hz1223 := pz1263.other hz1223 (by omega)
          replace hz1251 : At Wz1262 Wz1220.heap.size (.cells (u8s (R)) 71 (0, 0)) := pz1263.at_
          refine hK' _ _ ⟨hB, ho⟩ (fun _ => trivial) ?_
          clear hK' K' pz1263
          refine y_done (by kernel_rfl) ?_ _
          go_wp2_with fail
          go_meet
          exact ⟨_, _, rfl, rfl, by omega, ⟨by omega, by omega, by omega, by omega⟩, hB, h3, h6, hz1223, hz1251, ho⟩
        ·have lz1264 := hB.size
         have lz1265 := h3.lt
         have lz1266 := h6.lt
         have naz1271 := ho.away_new
         refine wp_new (some 17) rfl (al__3_impl_Form rfl) (fun Wz1267 nnz1268 => ?_)
         have bz1269 := nnz1268.below (Below.refl _ _) (Nat.le_refl _)
         replace hB := below_after hB bz1269
         replace h3 := h3.after bz1269
         replace h6 := h6.after bz1269
         replace ho := ho.below bz1269
         have hz1270 : At Wz1267 Wz1165.heap.size (.cells (u8s (List.replicate 27 0)) 71 (0, 0)) := nnz1268.at_
         refine hK' _ _ ⟨hB, ho⟩ (fun _ => trivial) ?_
         clear hK' K' nnz1268 bz1269
         go_frame
         refine y_two 9 10 (by kernel_rfl) rfl rfl rfl rfl (fun K' hK' => ?_) (fun K' hK' => ?_)
         ·have lz1274 := hB.size
          have lz1275 := h3.lt
          have lz1276 := h6.lt
          have lz1277 := hz1270.lt
          refine wp_call1 (some 77) rfl 45 _ _ rfl (fun args w => by kernel_rfl) _ rfl _ (l10Forms_c R HRb.out _) (fun e Wz1272 h => ?_)
          obtain ⟨rfl, bz1273⟩ := h
          replace hB := below_after hB bz1273
          replace h3 := h3.after bz1273
          replace h6 := h6.after bz1273
          replace ho := ho.below bz1273
          replace hz1270 := hz1270.after bz1273
          clear bz1273
          refine ⟨_, rfl, ?_⟩
          refine hK' _ _ ⟨hB, ho⟩ (fun _ => trivial) ?_
          clear hK' K'
          go_frame
          refine y_oper 10 (by kernel_rfl) rfl rfl (fun K' hK' => ?_)
          have lz1278 := hB.size
          have lz1279 := h3.lt
          have lz1280 := h6.lt
          have lz1281 := hz1270.lt
          have naz1286 := ho.away_new
          refine wp_new (some 16) rfl (al__3_impl_Form rfl) (fun Wz1282 nnz1283 => ?_)
          have bz1284 := nnz1283.below (Below.refl _ _) (Nat.le_refl _)
          replace hB := below_after hB bz1284
          replace h3 := h3.after bz1284
          replace h6 := h6.after bz1284
          replace ho := ho.below bz1284
          replace hz1270 := hz1270.after bz1284
          have hz1285 : At Wz1282 Wz1272.heap.size (.cells (u8s (List.replicate 27 0)) 71 (0, 0)) := nnz1283.at_
          refine hK' _ _ ⟨hB, ho⟩ (fun _ => trivial) ?_
          clear hK' K' nnz1283 bz1284
          go_frame
          refine y_oper 12 (by kernel_rfl) rfl rfl (fun K' hK' => ?_)
          refine wp_store_bytes 71 _ _ rfl rfl Wz1272.heap.size rfl (Q) rfl _ _ hz1285 27 (by kernel_rfl) HQ.out.len (by simp) (fun Wz1287 pz1288 => ?_)
          replace hB := pz1288.below hB (by omega)
          replace h3 := pz1288.other h3 (by omega)
          replace h6 := pz1288.other h6 (by omega)
          replace ho := ho.put pz1288 naz1286
          replace hz1270 := pz1288.other hz1270 (by omega)
          replace hz1285 : At Wz1287 Wz1272.heap.size (.cells (u8s (Q)) 71 (0, 0)) := pz1288.at_
          refine hK' _ _ ⟨hB, ho⟩ (fun _ => trivial) ?_
          clear hK' K' pz1288
          refine y_oper 13 (by kernel_rfl) rfl rfl (fun K' hK' => ?_)
          refine wp_store_bytes 71 _ _ rfl rfl Wz1165.heap.size rfl (R) rfl _ _ hz1270 27 (by kernel_rfl) HRb.out.len (by simp) (fun Wz1289 pz1290 => ?_)
          replace hB := pz1290.below hB (by omega)
          replace h3 := pz1290.other h3 (by omega)
          replace h6 := pz1290.other h6 (by omega)
          replace ho := ho.put pz1290 naz1271
          replace hz1285 := pz1290.other hz1285 (by omega)
          replace hz1270 : At Wz1289 Wz1165.heap.size (.cells (u8s (R)) 71 (0, 0)) := pz1290.at_
          refine hK' _ _ ⟨hB, ho⟩ (fun _ => trivial) ?_
          clear hK' K' pz1290
          refine y_done (by kernel_rfl) ?_ _
          go_wp2_with fail
          go_meet
          exact ⟨_, _, rfl, rfl, by omega, ⟨by omega, by omega, by omega, by omega⟩, hB, h3, h6, hz1285, hz1270, ho⟩
         ·have lz1291 := hB.size
          have lz1292 := h3.lt
          have lz1293 := h6.lt
          have lz1294 := hz1270.lt
          have naz1299 := ho.away_new
          refine wp_new (some 16) rfl (al__3_impl_Form rfl) (fun Wz1295 nnz1296 => ?_)
          have bz1297 := nnz1296.below (Below.refl _ _) (Nat.le_refl _)
          replace hB := below_after hB bz1297
          replace h3 := h3.after bz1297
          replace h6 := h6.after bz1297
          replace ho := ho.below bz1297
          replace hz1270 := hz1270.after bz1297
          have hz1298 : At Wz1295 Wz1267.heap.size (.cells (u8s (List.replicate 27 0)) 71 (0, 0)) := nnz1296.at_
          refine hK' _ _ ⟨hB, ho⟩ (fun _ => trivial) ?_
          clear hK' K' nnz1296 bz1297
          go_frame
          refine y_oper 9 (by kernel_rfl) rfl rfl (fun K' hK' => ?_)
          have lz1302 := hB.size
          have lz1303 := h3.lt
          have lz1304 := h6.lt
          have lz1305 := hz1270.lt
          have lz1306 := hz1298.lt
          refine wp_call1 (some 77) rfl 45 _ _ rfl (fun args w => by kernel_rfl) _ rfl _ (l10Forms_c R HRb.out _) (fun e Wz1300 h => ?_)
          obtain ⟨rfl, bz1301⟩ := h
          replace hB := below_after hB bz1301
          replace h3 := h3.after bz1301
          replace h6 := h6.after bz1301
          replace ho := ho.below bz1301
          replace hz1270 := hz1270.after bz1301
          replace hz1298 := hz1298.after bz1301
          clear bz1301
          refine ⟨_, rfl, ?_⟩
          refine hK' _ _ ⟨hB, ho⟩ (fun _ => trivial) ?_
          clear hK' K'
          go_frame
          refine y_oper 12 (by kernel_rfl) rfl rfl (fun K' hK' => ?_)
          refine wp_store_bytes 71 _ _ rfl rfl Wz1267.heap.size rfl (Q) rfl _ _ hz1298 27 (by kernel_rfl) HQ.out.len (by simp) (fun Wz1307 pz1308 => ?_)
          replace hB := pz1308.below hB (by omega)
          replace h3 := pz1308.other h3 (by omega)
          replace h6 := pz1308.other h6 (by omega)
          replace ho := ho.put pz1308 naz1299
          replace hz1270 := pz1308.other hz1270 (by omega)
          replace hz1298 : At Wz1307 Wz1267.heap.size (.cells (u8s (Q)) 71 (0, 0)) := pz1308.at_
          refine hK' _ _ ⟨hB, ho⟩ (fun _ => trivial) ?_
          clear hK' K' pz1308
          refine y_oper 13 (by kernel_rfl) rfl rfl (fun K' hK' => ?_)
          refine wp_store_bytes 71 _ _ rfl rfl Wz1165.heap.size rfl (R) rfl _ _ hz1270 27 (by kernel_rfl) HRb.out.len (by simp) (fun Wz1309 pz1310 => ?_)
          replace hB := pz1310.below hB (by omega)
          replace h3 := pz1310.other h3 (by omega)
          replace h6 := pz1310.other h6 (by omega)
          replace ho := ho.put pz1310 naz1271
          replace hz1298 := pz1310.other hz1298 (by omega)
          replace hz1270 : At Wz1309 Wz1165.heap.size (.cells (u8s (R)) 71 (0, 0)) := pz1310.at_
          refine hK' _ _ ⟨hB, ho⟩ (fun _ => trivial) ?_
          clear hK' K' pz1310
          refine y_done (by kernel_rfl) ?_ _
          go_wp2_with fail
          go_meet
          exact ⟨_, _, rfl, rfl, by omega, ⟨by omega, by omega, by omega, by omega⟩, hB, h3, h6, hz1298, hz1270, ho⟩
       ·have lz1311 := hB.size
        have lz1312 := h3.lt
        have lz1313 := h6.lt
        have naz1318 := ho.away_new
        refine wp_new (some 16) rfl (al__3_impl_Form rfl) (fun Wz1314 nnz1315 => ?_)
        have bz1316 := nnz1315.below (Below.refl _ _) (Nat.le_refl _)
        replace hB := below_after hB bz1316
        replace h3 := h3.after bz1316
        replace h6 := h6.after bz1316
        replace ho := ho.below bz1316
        have hz1317 : At Wz1314 wdz1164.heap.size (.cells (u8s (List.replicate 27 0)) 71 (0, 0)) := nnz1315.at_
        refine hK' _ _ ⟨hB, ho⟩ (fun _ => trivial) ?_
        clear hK' K' nnz1315 bz1316
        go_frame
        refine y_two 4 11 (by kernel_rfl) rfl rfl rfl rfl (fun K' hK' => ?_) (fun K' hK' => ?_)
        ·have lz1321 := hB.size
         have lz1322 := h3.lt
         have lz1323 := h6.lt
         have lz1324 := hz1317.lt
         refine wp_call1 (some 72) rfl 45 _ _ rfl (fun args w => by kernel_rfl) _ rfl _ (l10Forms_c Q HQ.out _) (fun e Wz1319 h => ?_)
         obtain ⟨rfl, bz1320⟩ := h
         replace hB := below_after hB bz1320
         replace h3 := h3.after bz1320
         replace h6 := h6.after bz1320
         replace ho := ho.below bz1320
         replace hz1317 := hz1317.after bz1320
         clear bz1320
         refine ⟨_, rfl, ?_⟩
         refine hK' _ _ ⟨hB, ho⟩ (fun _ => trivial) ?_
         clear hK' K'
         go_frame
         refine y_two 9 11 (by kernel_rfl) rfl rfl rfl rfl (fun K' hK' => ?_) (fun K' hK' => ?_)
         ·have lz1327 := hB.size
          have lz1328 := h3.lt
          have lz1329 := h6.lt
          have lz1330 := hz1317.lt
          refine wp_call1 (some 77) rfl 45 _ _ rfl (fun args w => by kernel_rfl) _ rfl _ (l10Forms_c R HRb.out _) (fun e Wz1325 h => ?_)
          obtain ⟨rfl, bz1326⟩ := h
          replace hB := below_after hB bz1326
          replace h3 := h3.after bz1326
          replace h6 := h6.after bz1326
          replace ho := ho.below bz1326
          replace hz1317 := hz1317.after bz1326
          clear bz1326
          refine ⟨_, rfl, ?_⟩
          refine hK' _ _ ⟨hB, ho⟩ (fun _ => trivial) ?_
          clear hK' K'
          go_frame
          refine y_oper 11 (by kernel_rfl) rfl rfl (fun K' hK' => ?_)
          have lz1331 := hB.size
          have lz1332 := h3.lt
          have lz1333 := h6.lt
          have lz1334 := hz1317.lt
          have naz1339 := ho.away_new
          refine wp_new (some 17) rfl (al__3_impl_Form rfl) (fun Wz1335 nnz1336 => ?_)
          have bz1337 := nnz1336.below (Below.refl _ _) (Nat.le_refl _)
          replace hB := below_after hB bz1337
          replace h3 := h3.after bz1337
          replace h6 := h6.after bz1337
          replace ho := ho.below bz1337
          replace hz1317 := hz1317.after bz1337
          have hz1338 : At Wz1335 Wz1325.heap.size (.cells (u8s (List.replicate 27 0)) 71 (0, 0)) := nnz1336.at_
          refine hK' _ _ ⟨hB, ho⟩ (fun _ => trivial) ?_
          clear hK' K' nnz1336 bz1337
          go_frame
          refine y_oper 12 (by kernel_rfl) rfl rfl (fun K' hK' => ?_)
          refine wp_store_bytes 71 _ _ rfl rfl wdz1164.heap.size rfl (Q) rfl _ _ hz1317 27 (by kernel_rfl) HQ.out.len (by simp) (fun Wz1340 pz1341 => ?_)
          replace hB := pz1341.below hB (by omega)
          replace h3 := pz1341.other h3 (by omega)
          replace h6 := pz1341.other h6 (by omega)
          replace ho := ho.put pz1341 naz1318
          replace hz1338 := pz1341.other hz1338 (by omega)
          replace hz1317 : At Wz1340 wdz1164.heap.size (.cells (u8s (Q)) 71 (0, 0)) := pz1341.at_
          refine hK' _ _ ⟨hB, ho⟩ (fun _ => trivial) ?_
          clear hK' K' pz1341
          refine y_oper 13 (by kernel_rfl) rfl rfl (fun K' hK' => ?_)
          refine wp_store_bytes 71 _ _ rfl rfl Wz1325.heap.size rfl (R) rfl _ _ hz1338 27 (by kernel_rfl) HRb.out.len (by simp) (fun Wz1342 pz1343 => ?_)
          replace hB := pz1343.below hB (by omega)
          replace h3 := pz1343.other h3 (by omega)
          replace h6 := pz1343.other h6 (by omega)
          replace ho := ho.put pz1343 naz1339
          replace hz1317 := pz1343.other hz1317 (by omega)
          replace hz1338 : At Wz1342 Wz1325.heap.size (.cells (u8s (R)) 71 (0, 0)) := pz1343.at_
          refine hK' _ _ ⟨hB, ho⟩ (fun _ => trivial) ?_
          clear hK' K' pz1343
          refine y_done (by kernel_rfl) ?_ _
          go_wp2_with fail
          go_meet
          exact ⟨_, _, rfl, rfl, by omega, ⟨by omega, by omega, by omega, by omega⟩, hB, h3, h6, hz1317, hz1338, ho⟩
         ·have lz1344 := hB.size
          have lz1345 := h3.lt
          have lz1346 := h6.lt
          have lz1347 := hz1317.lt
          have naz1352 := ho.away_new
          refine wp_new (some 17) rfl (al__3_impl_Form rfl) (fun Wz1348 nnz1349 => ?_)
          have bz1350 := nnz1349.below (Below.refl _ _) (Nat.le_refl _)
          replace hB := below_after hB bz1350
          replace h3 := h3.after bz1350
          replace h6 := h6.after bz1350
          replace ho := ho.below bz1350
          replace hz1317 := hz1317.after bz1350
          have hz1351 : At Wz1348 Wz1319.heap.size (.cells (u8s (List.replicate 27 0)) 71 (0, 0)) := nnz1349.at_
          refine hK' _ _ ⟨hB, ho⟩ (fun _ => trivial) ?_
          clear hK' K' nnz1349 bz1350
          go_frame
          refine y_oper 9 (by kernel_rfl) rfl rfl (fun K' hK' => ?_)
          have lz1355 := hB.size
          have lz1356 := h3.lt
          have lz1357 := h6.lt
          have lz1358 := hz1317.lt
          have lz1359 := hz1351.lt
          refine wp_call1 (some 77) rfl 45 _ _ rfl (fun args w => by kernel_rfl) _ rfl _ (l10Forms_c R HRb.out _) (fun e Wz1353 h => ?_)
          obtain ⟨rfl, bz1354⟩ := h
          replace hB := below_after hB bz1354
          replace h3 := h3.after bz1354
          replace h6 := h6.after bz1354
          replace ho := ho.below bz1354
          replace hz1317 := hz1317.after bz1354
          replace hz1351 := hz1351.after bz1354
          clear bz1354
          refine ⟨_, rfl, ?_⟩
          refine hK' _ _ ⟨hB, ho⟩ (fun _ => trivial) ?_
          clear hK' K'
          go_frame
          refine y_oper 12 (by kernel_rfl) rfl rfl (fun K' hK' => ?_)
          refine wp_store_bytes 71 _ _ rfl rfl wdz1164.heap.size rfl (Q) rfl _ _ hz1317 27 (by kernel_rfl) HQ.out.len (by simp) (fun Wz1360 pz1361 => ?_)
          replace hB := pz1361.below hB (by omega)
          replace h3 := pz1361.other h3 (by omega)
          replace h6 := pz1361.other h6 (by omega)
          replace ho := ho.put pz1361 naz1318
          replace hz1351 := pz1361.other hz1351 (by omega)
          replace hz1317 : At Wz1360 wdz1164.heap.size (.cells (u8s (Q)) 71 (0, 0)) := pz1361.at_
          refine hK' _ _ ⟨hB, ho⟩ (fun _ => trivial) ?_
          clear hK' K' pz1361
          refine y_oper 13 (by kernel_rfl) rfl rfl (fun K' hK' => ?_)
          refine wp_store_bytes 71 _ _ rfl rfl Wz1319.heap.size rfl (R) rfl _ _ hz1351 27 (by kernel_rfl) HRb.out.len (by simp) (fun Wz1362 pz1363 => ?_)
          replace hB := pz1363.below hB (by omega)
          replace h3 := pz1363.other h3 (by omega)
          replace h6 := pz1363.other h6 (by omega)
          replace ho := ho.put pz1363 naz1352
          replace hz1317 := pz1363.other hz1317 (by omega)
          replace hz1351 : At Wz1362 Wz1319.heap.size (.cells (u8s (R)) 71 (0, 0)) := pz1363.at_
          refine hK' _ _ ⟨hB, ho⟩ (fun _ => trivial) ?_
          clear hK' K' pz1363
          refine y_done (by kernel_rfl) ?_ _
          go_wp2_with fail
          go_meet
          exact ⟨_, _, rfl, rfl, by omega, ⟨by omega, by omega, by omega, by omega⟩, hB, h3, h6, hz1317, hz1351, ho⟩
        ·have lz1364 := hB.size
         have lz1365 := h3.lt
         have lz1366 := h6.lt
         have lz1367 := hz1317.lt
         have naz1372 := ho.away_new
         refine wp_new (some 17) rfl (al__3_impl_Form rfl) (fun Wz1368 nnz1369 => ?_)
         have bz1370 := nnz1369.below (Below.refl _ _) (Nat.le_refl _)
         replace hB := below_after hB bz1370
         replace h3 := h3.after bz1370
         replace h6 := h6.after bz1370
         replace ho := ho.below bz1370
         replace hz1317 := hz1317.after bz1370
         have hz1371 : At Wz1368 Wz1314.heap.size (.cells (u8s (List.replicate 27 0)) 71 (0, 0)) := nnz1369.at_
         refine hK' _ _ ⟨hB, ho⟩ (fun _ => trivial) ?_
         clear hK' K' nnz1369 bz1370
         go_frame
         refine y_oper 4 (by kernel_rfl) rfl rfl (fun K' hK' => ?_)
         have lz1375 := hB.size
         have lz1376 := h3.lt
         have lz1377 := h6.lt
         have lz1378 := hz1317.lt
         have lz1379 := hz1371.lt
         refine wp_call1 (some 72) rfl 45 _ _ rfl (fun args w => by kernel_rfl) _ rfl _ (l10Forms_c Q HQ.out _) (fun e Wz1373 h => ?_)
         obtain ⟨rfl, bz1374⟩ := h
         replace hB := below_after hB bz1374
         replace h3 := h3.after bz1374
         replace h6 := h6.after bz1374
         replace ho := ho.below bz1374
         replace hz1317 := hz1317.after bz1374
         replace hz1371 := hz1371.after bz1374
         clear bz1374
         refine ⟨_, rfl, ?_⟩
         refine hK' _ _ ⟨hB, ho⟩ (fun _ => trivial) ?_
         clear hK' K'
         go_frame
         refine y_oper 9 (by kernel_rfl) rfl rfl (fun K' hK' => ?_)
         have lz1382 := hB.size
         have lz1383 := h3.lt
         have lz1384 := h6.lt
         have lz1385 := hz1317.lt
         have lz1386 := hz1371.lt
         refine wp_call1 (some 77) rfl 45 _ _ rfl (fun args w => by kernel_rfl) _ rfl _ (l10Forms_c R HRb.out _) (fun e Wz1380 h => ?_)
         obtain ⟨rfl, bz1381⟩ := h
         replace hB := below_after hB bz1381
         replace h3 := h3.after bz1381
         replace h6 := h6.after bz1381
         replace ho := ho.below bz1381
         replace hz1317 := hz1317.after bz1381
         replace hz1371 := hz1371.after bz1381
         clear bz1381
         refine ⟨_, rfl, ?_⟩
         refine hK' _ _ ⟨hB, ho⟩ (fun _ => trivial) ?_
         clear hK' K'
         go_frame
         refine y_oper 12 (by kernel_rfl) rfl rfl (fun K' hK' => ?_)
         refine wp_store_bytes 71 _ _ rfl rfl wdz1164.heap.size rfl (Q) rfl _ _ hz1317 27 (by kernel_rfl) HQ.out.len (by simp) (fun Wz1387 pz1388 => ?_)
         replace hB := pz1388.below hB (by omega)
         replace h3 := pz1388.other h3 (by omega)
         replace h6 := pz1388.other h6 (by omega)
         replace ho := ho.put pz1388 naz1318
         replace hz1371 := pz1388.other hz1371 (by omega)
         replace hz1317 : At Wz1387 wdz1164.heap.size (.cells (u8s (Q)) 71 (0, 0)) := pz1388.at_
         refine hK' _ _ ⟨hB, ho⟩ (fun _ => trivial) ?_
         clear hK' K' pz1388
         refine y_oper 13 (by kernel_rfl) rfl rfl (fun K' hK' => ?_)
         refine wp_store_bytes 71 _ _ rfl rfl Wz1314.heap.size rfl (R) rfl _ _ hz1371 27 (by kernel_rfl) HRb.out.len (by simp) (fun Wz1389 pz1390 => ?_)
         replace hB := pz1390.below hB (by omega)
         replace h3 := pz1390.other h3 (by omega)
         replace h6 := pz1390.other h6 (by omega)
         replace ho := ho.put pz1390 naz1372
         replace hz1317 := pz1390.other hz1317 (by omega)
         replace hz1371 : At Wz1389 Wz1314.heap.size (.cells (u8s (R)) 71 (0, 0)) := pz1390.at_
         refine hK' _ _ ⟨hB, ho⟩ (fun _ => trivial) ?_
         clear hK' K' pz1390
         refine y_done (by kernel_rfl) ?_ _
         go_wp2_with fail
         go_meet
         exact ⟨_, _, rfl, rfl, by omega, ⟨by omega, by omega, by omega, by omega⟩, hB, h3, h6, hz1317, hz1371, ho⟩
       ·have lz1391 := hB.size
        have lz1392 := h3.lt
        have lz1393 := h6.lt
        have naz1398 := ho.away_new
        refine wp_new (some 17) rfl (al__3_impl_Form rfl) (fun Wz1394 nnz1395 => ?_)
        have bz1396 := nnz1395.below (Below.refl _ _) (Nat.le_refl _)
        replace hB := below_after hB bz1396
        replace h3 := h3.after bz1396
        replace h6 := h6.after bz1396
        replace ho := ho.below bz1396
        have hz1397 : At Wz1394 wdz1164.heap.size (.cells (u8s (List.replicate 27 0)) 71 (0, 0)) := nnz1395.at_
        refine hK' _ _ ⟨hB, ho⟩ (fun _ => trivial) ?_
        clear hK' K' nnz1395 bz1396
        go_frame
        refine y_two 4 10 (by kernel_rfl) rfl rfl rfl rfl (fun K' hK' => ?_) (fun K' hK' => ?_)
        ·have lz1401 := hB.size
         have lz1402 := h3.lt
         have lz1403 := h6.lt
         have lz1404 := hz1397.lt
         refine wp_call1 (some 72) rfl 45 _ _ rfl (fun args w => by kernel_rfl) _ rfl _ (l10Forms_c Q HQ.out _) (fun e Wz1399 h => ?_)
         obtain ⟨rfl, bz1400⟩ := h
         replace hB := below_after hB bz1400
         replace h3 := h3.after bz1400
         replace h6 := h6.after bz1400
         replace ho := ho.below bz1400
         replace hz1397 := hz1397.after bz1400
         clear bz1400
         refine ⟨_, rfl, ?_⟩
         refine hK' _ _ ⟨hB, ho⟩ (fun _ => trivial) ?_
         clear hK' K'
         go_frame
         refine y_two 9 10 (by kernel_rfl) rfl rfl rfl rfl (fun K' hK' => ?_) (fun K' hK' => ?_)
         ·have lz1407 := hB.size
          have lz1408 := h3.lt
          have lz1409 := h6.lt
          have lz1410 := hz1397.lt
          refine wp_call1 (some 77) rfl 45 _ _ rfl (fun args w => by kernel_rfl) _ rfl _ (l10Forms_c R HRb.out _) (fun e Wz1405 h => ?_)
          obtain ⟨rfl, bz1406⟩ := h
          replace hB := below_after hB bz1406
          replace h3 := h3.after bz1406
          replace h6 := h6.after bz1406
          replace ho := ho.below bz1406
          replace hz1397 := hz1397.after bz1406
          clear bz1406
          refine ⟨_, rfl, ?_⟩
          refine hK' _ _ ⟨hB, ho⟩ (fun _ => trivial) ?_
          clear hK' K'
          go_frame
          refine y_oper 10 (by kernel_rfl) rfl rfl (fun K' hK' => ?_)
          have lz1411 := hB.size
          have lz1412 := h3.lt
          have lz1413 := h6.lt
          have lz1414 := hz1397.lt
          have naz1419 := ho.away_new
          refine wp_new (some 16) rfl (al__3_impl_Form rfl) (fun Wz1415 nnz1416 => ?_)
          have bz1417 := nnz1416.below (Below.refl _ _) (Nat.le_refl _)
          replace hB := below_after hB bz1417
          replace h3 := h3.after bz1417
          replace h6 := h6.after bz1417
          replace ho := ho.below bz1417
          replace hz1397 := hz1397.after bz1417
          have hz1418 : At Wz1415 Wz1405.heap.size (.cells (u8s (List.replicate 27 0)) 71 (0, 0)) := nnz1416.at_
          refine hK' _ _ ⟨hB, ho⟩ (fun _ => trivial) ?_
          clear hK' K' nnz1416 bz1417
          go_frame
          refine y_oper 12 (by kernel_rfl) rfl rfl (fun K' hK' => ?_)
          refine wp_store_bytes 71 _ _ rfl rfl Wz1405.heap.size rfl (Q) rfl _ _ hz1418 27 (by kernel_rfl) HQ.out.len (by simp) (fun Wz1420 pz1421 => ?_)
          replace hB := pz1421.below hB (by omega)
          replace h3 := pz1421.other h3 (by omega)
          replace h6 := pz1421.other h6 (by omega)
          replace ho := ho.put pz1421 naz1419
          replace hz1397 := pz1421.other hz1397 (by omega)
          replace hz1418 : At Wz1420 Wz1405.heap.size (.cells (u8s (Q)) 71 (0, 0)) := pz1421.at_
          refine hK' _ _ ⟨hB, ho⟩ (fun _ => trivial) ?_
          clear hK' K' pz1421
          refine y_oper 13 (by kernel_rfl) rfl rfl (fun K' hK' => ?_)
          refine wp_store_bytes 71 _ _ rfl rfl wdz1164.heap.size rfl (R) rfl _ _ hz1397 27 (by kernel_rfl) HRb.out.len (by simp) (fun Wz1422 pz1423 => ?_)
          replace hB := pz1423.below hB (by omega)
          replace h3 := pz1423.other h3 (by omega)
          replace h6 := pz1423.other h6 (by omega)
          replace ho := ho.put pz1423 naz1398
          replace hz1418 := pz1423.other hz1418 (by omega)
          replace hz1397 : At Wz1422 wdz1164.heap.size (.cells (u8s (R)) 71 (0, 0)) := pz1423.at_
          refine hK' _ _ ⟨hB, ho⟩ (fun _ => trivial) ?_
          clear hK' K' pz1423
          refine y_done (by kernel_rfl) ?_ _
          go_wp2_with fail
          go_meet
          exact ⟨_, _, rfl, rfl, by omega, ⟨by omega, by omega, by omega, by omega⟩, hB, h3, h6, hz1418, hz1397, ho⟩
         ·have lz1424 := hB.size
          have lz1425 := h3.lt
          have lz1426 := h6.lt
          have lz1427 := hz1397.lt
          have naz1432 := ho.away_new
          refine wp_new (some 16) rfl (al__3_impl_Form rfl) (fun Wz1428 nnz1429 => ?_)
          have bz1430 := nnz1429.below (Below.refl _ _) (Nat.le_refl _)
          replace hB := below_after hB bz1430
          replace h3 := h3.after bz1430
          replace h6 := h6.after bz1430
          replace ho := ho.below bz1430
          replace hz1397 := hz1397.after bz1430
          have hz1431 : At Wz1428 Wz1399.heap.size (.cells (u8s (List.replicate 27 0)) 71 (0, 0)) := nnz1429.at_
          refine hK' _ _ ⟨hB, ho⟩ (fun _ => trivial) ?_
          clear hK' K' nnz1429 bz1430
          go_frame
          refine y_oper 9 (by kernel_rfl) rfl rfl (fun K' hK' => ?_)
          have lz1435 := hB.size
          have lz1436 := h3.lt
          have lz1437 := h6.lt
          have lz1438 := hz1397.lt
          have lz1439 := hz1431.lt
          refine wp_call1 (some 77) rfl 45 _ _ rfl (fun args w => by kernel_rfl) _ rfl _ (l10Forms_c R HRb.out _) (fun e Wz1433 h => ?_)
          obtain ⟨rfl, bz1434⟩ := h
          replace hB := below_after hB bz1434
          replace h3 := h3.after bz1434
          replace h6 := h6.after bz1434
          replace ho := ho.below bz1434
          replace hz1397 := hz1397.after bz1434
          replace hz1431 := hz1431.after bz1434
          clear bz1434
          refine ⟨_, rfl, ?_⟩
          refine hK' _ _ ⟨hB, ho⟩ (fun _ => trivial) ?_
          clear hK' K'
          go_frame
          refine y_oper 12 (by kernel_rfl) rfl rfl (fun K' hK' => ?_)
          refine wp_store_bytes 71 _ _ rfl rfl Wz1399.heap.size rfl (Q) rfl _ _ hz1431 27 (by kernel_rfl) HQ.out.len (by simp) (fun Wz1440 pz1441 => ?_)
          replace hB := pz1441.below hB (by omega)
          replace h3 := pz1441.other h3 (by omega)
          replace h6 := pz1441.other h6 (by omega)
          replace ho := ho.put pz1441 naz1432
          replace hz1397 := pz1441.other hz1397 (by omega)
          replace hz1431 : At Wz1440 Wz1399.heap.size (.cells (u8s (Q)) 71 (0, 0)) := pz1441.at_
          refine hK' _ _ ⟨hB, ho⟩ (fun _ => trivial) ?_
          clear hK' K' pz1441
          refine y_oper 13 (by kernel_rfl) rfl rfl (fun K' hK' => ?_)
          refine wp_store_bytes 71 _ _ rfl rfl wdz1164.heap.size rfl (R) rfl _ _ hz1397 27 (by kernel_rfl) HRb.out.len (by simp) (fun Wz1442 pz1443 => ?_)
          replace hB := pz1443.below hB (by omega)
          replace h3 := pz1443.other h3 (by omega)
          replace h6 := pz1443.other h6 (by omega)
          replace ho := ho.put pz1443 naz1398
          replace hz1431 := pz1443.other hz1431 (by omega)
          replace hz1397 : At Wz1442 wdz1164.heap.size (.cells (u8s (R)) 71 (0, 0)) := pz1443.at_
          refine hK' _ _ ⟨hB, ho⟩ (fun _ => trivial) ?_
          clear hK' K' pz1443
          refine y_done (by kernel_rfl) ?_ _
          go_wp2_with fail
          go_meet
          exact ⟨_, _, rfl, rfl, by omega, ⟨by omega, by omega, by omega, by omega⟩, hB, h3, h6, hz1431, hz1397, ho⟩
        ·have lz1444 := hB.size
         have lz1445 := h3.lt
         have lz1446 := h6.lt
         have lz1447 := hz1397.lt
         have naz1452 := ho.away_new
         refine wp_new (some 16) rfl (al__3_impl_Form rfl) (fun Wz1448 nnz1449 => ?_)
         have bz1450 := nnz1449.below (Below.refl _ _) (Nat.le_refl _)
         replace hB := below_after hB bz1450
         replace h3 := h3.after bz1450
         replace h6 := h6.after bz1450
         replace ho := ho.below bz1450
         replace hz1397 := hz1397.after bz1450
         have hz1451 : At Wz1448 Wz1394.heap.size (.cells (u8s (List.replicate 27 0)) 71 (0, 0)) := nnz1449.at_
         refine hK' _ _ ⟨hB, ho⟩ (fun _ => trivial) ?_
         clear hK' K' nnz1449 bz1450
         go_frame
         refine y_oper 4 (by kernel_rfl) rfl rfl (fun K' hK' => ?_)
         have lz1455 := hB.size
         have lz1456 := h3.lt
         have lz1457 := h6.lt
         have lz1458 := hz1397.lt
         have lz1459 := hz1451.lt
         refine wp_call1 (some 72) rfl 45 _ _ rfl (fun args w => by kernel_rfl) _ rfl _ (l10Forms_c Q HQ.out _) (fun e Wz1453 h => ?_)
         obtain ⟨rfl, bz1454⟩ := h
         replace hB := below_after hB bz1454
         replace h3 := h3.after bz1454
         replace h6 := h6.after bz1454
         replace ho := ho.below bz1454
         replace hz1397 := hz1397.after bz1454
         replace hz1451 := hz1451.after bz1454
         clear bz1454
         refine ⟨_, rfl, ?_⟩
         refine hK' _ _ ⟨hB, ho⟩ (fun _ => trivial) ?_
         clear hK' K'
         go_frame
         refine y_oper 9 (by kernel_rfl) rfl rfl (fun K' hK' => ?_)
         have lz1462 := hB.size
         have lz1463 := h3.lt
         have lz1464 := h6.lt
         have lz1465 := hz1397.lt
         have lz1466 := hz1451.lt
         refine wp_call1 (some 77) rfl 45 _ _ rfl (fun args w => by kernel_rfl) _ rfl _ (l10Forms_c R HRb.out _) (fun e Wz1460 h => ?_)
         obtain ⟨rfl, bz1461⟩ := h
         replace hB := below_after hB bz1461
         replace h3 := h3.after bz1461
         replace h6 := h6.after bz1461
         replace ho := ho.below bz1461
         replace hz1397 := hz1397.after bz1461
         replace hz1451 := hz1451.after bz1461
         clear bz1461
         refine ⟨_, rfl, ?_⟩
         refine hK' _ _ ⟨hB, ho⟩ (fun _ => trivial) ?_
         clear hK' K'
         go_frame
         refine y_oper 12 (by kernel_rfl) rfl rfl (fun K' hK' => ?_)
         refine wp_store_bytes 71 _ _ rfl rfl Wz1394.heap.size rfl (Q) rfl _ _ hz1451 27 (by kernel_rfl) HQ.out.len (by simp) (fun Wz1467 pz1468 => ?_)
         replace hB := pz1468.below hB (by omega)
         replace h3 := pz1468.other h3 (by omega)
         replace h6 := pz1468.other h6 (by omega)
         replace ho := ho.put pz1468 naz1452
         replace hz1397 := pz1468.other hz1397 (by omega)
         replace hz1451 : At Wz1467 Wz1394.heap.size (.cells (u8s (Q)) 71 (0, 0)) := pz1468.at_
         refine hK' _ _ ⟨hB, ho⟩ (fun _ => trivial) ?_
         clear hK' K' pz1468
         refine y_oper 13 (by kernel_rfl) rfl rfl (fun K' hK' => ?_)
         refine wp_store_bytes 71 _ _ rfl rfl wdz1164.heap.size rfl (R) rfl _ _ hz1397 27 (by kernel_rfl) HRb.out.len (by simp) (fun Wz1469 pz1470 => ?_)
         replace hB := pz1470.below hB (by omega)
         replace h3 := pz1470.other h3 (by omega)
         replace h6 := pz1470.other h6 (by omega)
         replace ho := ho.put pz1470 naz1398
         replace hz1451 := pz1470.other hz1451 (by omega)
         replace hz1397 : At Wz1469 wdz1164.heap.size (.cells (u8s (R)) 71 (0, 0)) := pz1470.at_
         refine hK' _ _ ⟨hB, ho⟩ (fun _ => trivial) ?_
         clear hK' K' pz1470
         refine y_done (by kernel_rfl) ?_ _
         go_wp2_with fail
         go_meet
         exact ⟨_, _, rfl, rfl, by omega, ⟨by omega, by omega, by omega, by omega⟩, hB, h3, h6, hz1451, hz1397, ho⟩
      case rest =>
      clear hB h3 h6 ho
      obtain ⟨b16, b17, rfl, rfl, hne9, ⟨l1, l2, l3, l4⟩, hB, h3, h6, h16, h17, ho⟩ := hcut
      obtain ⟨wc, rfl⟩ := cut_worldF hB
      go_upto_region 16 with (fail)
      refine wp_region_y (zs := []) (S := fun w' => Below w.heap.size w w' ∧ At w' b16 (.cells (u8s (Q)) 71 (0, 0)) ∧ At w' b17 (.cells (u8s (R)) 71 (0, 0))) (S2 := fun w' => True) (by kernel_rfl) ?_
      change wpAnyY _ _ _ _ _ _ _ _ _ _ (World.drew _)
      generalize hwdz1471 : World.drew _ = wdz1471
      replace hB : Below w.heap.size w wdz1471 := by rw [← hwdz1471]; exact hB.drew
      replace h3 : At wdz1471 w.heap.size (.cells #[.int .i64 p, .int .i64 n, .int .i64 m, .int .i64 k, .slice (some ⟨a0, 0, none⟩) qs.length c] 31 (0, 0)) := by rw [← hwdz1471]; exact h3
      replace h6 : At wdz1471 Wz2.heap.size (.cells #[.int .i64 0, .int .i64 0, .int .i64 0, .int .i64 0, .slice none 0 0] 31 (0, 0)) := by rw [← hwdz1471]; exact h6
      replace h16 : At wdz1471 b16 (.cells (u8s (Q)) 71 (0, 0)) := by rw [← hwdz1471]; exact h16
      replace h17 : At wdz1471 b17 (.cells (u8s (R)) 71 (0, 0)) := by rw [← hwdz1471]; exact h17
      replace ho : Own wdz1471 w.heap.size (.slice (some ⟨g, 0, none⟩) L.length c9) (L) := by rw [← hwdz1471]; exact ho.drew
      clear hwdz1471
      refine y_yield 0 (some 78) (.int .i64 I) rfl (by kernel_rfl) (by kernel_rfl) (by kernel_rfl) (fun _ _ _ h => h) rfl rfl ⟨hB, h16, h17⟩ (fun w' h' => exec_move _ rfl (.int .i64 I) rfl) ?_
      go_frame
      refine y_yield 1 (some 79) (.int .i64 J) rfl (by kernel_rfl) (by kernel_rfl) (by kernel_rfl) (fun _ _ _ h => h) rfl rfl ⟨hB, h16, h17⟩ (fun w' h' => exec_move _ rfl (.int .i64 J) rfl) ?_
      go_frame
      refine y_yield 2 (some 80) (.bool false) rfl (by kernel_rfl) (by kernel_rfl) (by kernel_rfl) (fun _ _ _ h => h) rfl rfl ⟨hB, h16, h17⟩ (fun w' h' => exec_eql _ _ _ _ rfl I J rfl rfl false (beq_eq_false_iff_ne.2 (by omega))) ?_
      go_frame
      refine y_yield 3 (some 81) (.bool false) rfl (by kernel_rfl) (by kernel_rfl) (by kernel_rfl) (fun _ _ _ h => h) rfl rfl ⟨hB, h16, h17⟩ (fun w' h' => exec_move _ rfl (.bool false) rfl) ?_
      go_frame
      refine y_yield 4 (some 82) (.int .i64 F) rfl (by kernel_rfl) (by kernel_rfl) (by kernel_rfl) (fun _ _ _ h => h) rfl rfl ⟨hB, h16, h17⟩ (fun w' h' => exec_move _ rfl (.int .i64 F) rfl) ?_
      go_frame
      refine y_yield 5 (some 83) (.pointer (some ⟨b16, F * 9, none⟩)) rfl (by kernel_rfl) (by kernel_rfl) (by kernel_rfl) (fun _ _ _ h => h) rfl rfl ⟨hB, h16, h17⟩ (fun w' h' => exec_index_arr0f 71 50 _ _ rfl b16 3 F 9 rfl rfl Try.underlying71 (by kernel_rfl) hF3) ?_
      go_frame
      refine y_yield 6 (some 84) (.agg (u8s (facQ Q F))) rfl (by kernel_rfl) (by kernel_rfl) (by kernel_rfl) (fun _ _ _ h => h) rfl rfl ⟨hB, h16, h17⟩ (fun w' h' => exec_load_seg 50 _ rfl b16 (F * 9) rfl _ (Q) _ 9 h'.2.1 Try.underlying50 rfl (by kernel_rfl) (by rw [HQ.out.len]; omega) (facQ Q F) rfl) ?_
      go_frame
      refine y_yield 7 (some 85) (.int .i64 F) rfl (by kernel_rfl) (by kernel_rfl) (by kernel_rfl) (fun _ _ _ h => h) rfl rfl ⟨hB, h16, h17⟩ (fun w' h' => exec_move _ rfl (.int .i64 F) rfl) ?_
      go_frame
      refine y_yield 8 (some 86) (.pointer (some ⟨b17, F * 9, none⟩)) rfl (by kernel_rfl) (by kernel_rfl) (by kernel_rfl) (fun _ _ _ h => h) rfl rfl ⟨hB, h16, h17⟩ (fun w' h' => exec_index_arr0f 71 50 _ _ rfl b17 3 F 9 rfl rfl Try.underlying71 (by kernel_rfl) hF3) ?_
      go_frame
      refine y_yield 9 (some 87) (.agg (u8s (facQ R F))) rfl (by kernel_rfl) (by kernel_rfl) (by kernel_rfl) (fun _ _ _ h => h) rfl rfl ⟨hB, h16, h17⟩ (fun w' h' => exec_load_seg 50 _ rfl b17 (F * 9) rfl _ (R) _ 9 h'.2.2 Try.underlying50 rfl (by kernel_rfl) (by rw [HRb.out.len]; omega) (facQ R F) rfl) ?_
      go_frame
      refine y_yield 10 (some 88) (.bool true) rfl (by kernel_rfl) (by kernel_rfl) (by kernel_rfl) (fun _ _ _ h => h) rfl rfl ⟨hB, h16, h17⟩ (fun w' h' => exec_neqFc _ _ _ rfl (facQ Q F) (facQ R F) rfl rfl (facQ_bytes HQ.out hF3).len (facQ_bytes HRb.out hF3).len true HNE.out) ?_
      go_frame
      refine y_yield 11 (some 89) (.bool true) rfl (by kernel_rfl) (by kernel_rfl) (by kernel_rfl) (fun _ _ _ h => h) rfl rfl ⟨hB, h16, h17⟩ (fun w' h' => exec_pick _ _ _ rfl false rfl (.bool true) rfl) ?_
      go_frame
      refine y_done (by kernel_rfl) ?_ _
      go_upto_region 7 with (fail)
      refine wp_region_lit ?_
      refine ls_ex (some 44) (.int .i64 D0) rfl rfl (exec_move _ rfl (.int .i64 D0) rfl) ?_
      go_frame
      refine ls_ex (some 45) (.int .i64 D) rfl rfl (exec_sub _ _ _ _ rfl D0 1 D rfl rfl HD.out) ?_
      go_frame
      refine ls_ex (some 2) (.int .i64 D) rfl rfl (exec_assign _ rfl (.int .i64 D) rfl) ?_
      go_frame
      refine wpList_nil ?_
      go_wp2_with fail
      go_roundw
      case rel => exact ⟨t + 1, _, _, _, by omega, by rw [← hD], rfl, rfl, HS, hYb, hB, h3, h6, ho⟩
      case measure => simp [intOf]; omega
  ·obtain ⟨D0, hD0⟩ : ∃ z9, T - t = z9 := ⟨_, rfl⟩
   rw [hD0]
   obtain ⟨A9, c9, rfl⟩ := Own.rdN2 ho (n := L.length) rfl
   have HFL : Hid ((wst p qs S T).1 = L) := Lib.hid (by rw [show T = t by omega, HW.out])
   go_upto_region 6 with (fail)
   refine wp_region_lit ?_
   refine ls_ex (some 42) (.int .i64 D0) rfl rfl (exec_move _ rfl (.int .i64 D0) rfl) ?_
   go_frame
   refine ls_ex (some 43) (.bool false) rfl rfl (exec_gtr _ _ _ _ rfl D0 0 rfl rfl false (decide_eq_false (by omega))) ?_
   go_frame
   refine wpList_nil ?_
   go_upto_region 24 with (fail)
   refine wp_region_lit ?_
   refine ls_ex (some 132) (.agg #[.int .i64 p, .int .i64 n, .int .i64 m, .int .i64 k, .slice (some ⟨a0, 0, none⟩) qs.length c]) rfl rfl (exec_load_all 31 _ rfl w.heap.size rfl _ _ _ h3 Try.underlying31 rfl 5 (by kernel_rfl) rfl) ?_
   go_frame
   refine ls_op rfl (fun K' hK' => ?_)
   have lz1474 := hB.size
   have lz1475 := h3.lt
   have lz1476 := h6.lt
   refine wp_call1 (some 133) rfl 37 _ _ rfl (fun args w => by kernel_rfl) _ rfl _ (l01Empty_c p n m k _ _) (fun e Wz1472 h => ?_)
   obtain ⟨v5, rfl, ho5, bz1473⟩ := h
   replace hB := below_after hB bz1473
   replace h3 := h3.after bz1473
   replace h6 := h6.after bz1473
   replace ho := ho.below bz1473
   obtain ⟨A5, c5, rfl⟩ := Own.rdN2 ho5 (n := 0) rfl
   clear ho5
   clear bz1473
   refine ⟨_, rfl, ?_⟩
   refine hK' _ _ ?_
   clear hK' K'
   go_frame
   refine ls_op rfl (fun K' hK' => ?_)
   have lz1477 := hB.size
   have lz1478 := h3.lt
   have lz1479 := h6.lt
   have naz1484 := ho.away_new
   refine wp_new (some 22) rfl (al_impl_Scheme rfl) (fun Wz1480 nnz1481 => ?_)
   have bz1482 := nnz1481.below (Below.refl _ _) (Nat.le_refl _)
   replace hB := below_after hB bz1482
   replace h3 := h3.after bz1482
   replace h6 := h6.after bz1482
   replace ho := ho.below bz1482
   have hz1483 : At Wz1480 Wz1472.heap.size (.cells #[.int .i64 0, .int .i64 0, .int .i64 0, .int .i64 0, .slice none 0 0] 31 (0, 0)) := nnz1481.at_
   refine hK' _ _ ?_
   clear hK' K' nnz1481 bz1482
   go_frame
   refine ls_op rfl (fun K' hK' => ?_)
   refine wp_store_all 31 _ _ rfl rfl Wz1472.heap.size rfl #[.int .i64 p, .int .i64 n, .int .i64 m, .int .i64 k, .slice A5 0 c5] rfl _ _ hz1483 5 (by kernel_rfl) rfl rfl (one5 _ _ _ _ _ _ _) (fun Wz1485 pz1486 => ?_)
   replace hB := pz1486.below hB (by omega)
   replace h3 := pz1486.other h3 (by omega)
   replace h6 := pz1486.other h6 (by omega)
   replace ho := ho.put pz1486 naz1484
   replace hz1483 : At Wz1485 Wz1472.heap.size (.cells #[.int .i64 p, .int .i64 n, .int .i64 m, .int .i64 k, .slice A5 0 c5] 31 (0, 0)) := pz1486.at_
   refine hK' _ _ ?_
   clear hK' K' pz1486
   refine wpList_nil ?_
   go_upto_region 25 with (fail)
   refine wp_region_lit ?_
   refine ls_ex (some 134) (.slice A9 L.length c9) rfl rfl (exec_move _ rfl (.slice A9 L.length c9) rfl) ?_
   go_frame
   refine ls_ex (some 135) (.pointer (some ⟨Wz1472.heap.size, 4, none⟩)) rfl rfl (exec_fieldAddr 31 _ 4 rfl _ (by kernel_rfl)) ?_
   go_frame
   refine ls_op rfl (fun K' hK' => ?_)
   refine wp_store_one 29 _ _ rfl rfl Wz1472.heap.size 4 rfl (.slice A9 L.length c9) rfl rfl rfl _ _ hz1483 (by kernel_rfl) (by simp) (fun Wz1487 pz1488 => ?_)
   replace hB := pz1488.below hB (by omega)
   replace h3 := pz1488.other h3 (by omega)
   replace h6 := pz1488.other h6 (by omega)
   replace ho := ho.put pz1488 naz1484
   replace hz1483 : At Wz1487 Wz1472.heap.size (.cells #[.int .i64 p, .int .i64 n, .int .i64 m, .int .i64 k, .slice A9 L.length c9] 31 (0, 0)) := pz1488.at_
   refine hK' _ _ ?_
   clear hK' K' pz1488
   refine wpList_nil ?_
   go_upto_region 26 with (fail)
   refine wp_region_lit ?_
   refine ls_ex (some 136) (.agg #[.int .i64 p, .int .i64 n, .int .i64 m, .int .i64 k, .slice A9 L.length c9]) rfl rfl (exec_load_all 31 _ rfl Wz1472.heap.size rfl _ _ _ hz1483 Try.underlying31 rfl 5 (by kernel_rfl) rfl) ?_
   go_frame
   refine ls_op rfl (fun K' hK' => ?_)
   refine wp_store_all 31 _ _ rfl rfl Wz2.heap.size rfl #[.int .i64 p, .int .i64 n, .int .i64 m, .int .i64 k, .slice A9 L.length c9] rfl _ _ h6 5 (by kernel_rfl) rfl rfl (one5 _ _ _ _ _ _ _) (fun Wz1489 pz1490 => ?_)
   replace hB := pz1490.below hB (by omega)
   replace h3 := pz1490.other h3 (by omega)
   replace ho := ho.put pz1490 (ho.off h6 (by decide))
   replace hz1483 := pz1490.other hz1483 (by omega)
   replace h6 : At Wz1489 Wz2.heap.size (.cells #[.int .i64 p, .int .i64 n, .int .i64 m, .int .i64 k, .slice A9 L.length c9] 31 (0, 0)) := pz1490.at_
   refine hK' _ _ ?_
   clear hK' K' pz1490
   refine ls_ex (some 7) (.int .i64 0) rfl rfl (exec_assign _ rfl (.int .i64 0) rfl) ?_
   go_frame
   refine wpList_nil ?_
   go_wp2_with fail
   refine bodyPost_ret (results_at2 rfl _ _ Wz2.heap.size _ _ _ rfl _ rfl h6 Try.underlying31 rfl 5 (by kernel_rfl) rfl) rfl ?_
   unfold ResS wsZ wsL
   rw [HC.out]
   exact ⟨_, rfl, by rw [if_pos rfl, Int.toNat_natCast, Int.toNat_natCast, HFL.out]; exact ho.mono (by omega), hB⟩
theorem specWalkScheme_c (p n m k : Int) (a0 c : Nat) (qs : List (List Nat)) (sd st : Int) (w : World) (hR : Rd w (some ⟨a0, 0, none⟩) qs) (hlen : qs.length ≤ 1048576) : Calls Try.prog 21 #[.agg #[.int .i64 p, .int .i64 n, .int .i64 m, .int .i64 k, .slice (some ⟨a0, 0, none⟩) qs.length c], .int .i64 sd, .int .i64 st] w (ResS w (wsZ (wsCode p n m k qs sd st) p) (wsZ (wsCode p n m k qs sd st) n) (wsZ (wsCode p n m k qs sd st) m) (wsZ (wsCode p n m k qs sd st) k) (wsL (wsCode p n m k qs sd st) (wst p qs sd.toNat st.toNat).1) (wsCode p n m k qs sd st)) := by
  rcases Bool.eq_false_or_eq_true (schemeB p n m k qs) with hs | hs
  · rcases Bool.eq_false_or_eq_true (decide (1 ≤ sd) && decide (sd ≤ 2147483646)) with h1 | h1
    · rcases Bool.eq_false_or_eq_true (decide (0 ≤ st) && decide (st ≤ 200)) with h2 | h2
      · exact specWalk_y p n m k a0 c qs sd st w hR hlen hs h1 h2
      · exact specWalk_d p n m k a0 c qs sd st w hR hlen hs h1 h2
    · exact specWalk_b p n m k a0 c qs sd st w hR hlen hs h1
  · exact specWalk_a p n m k a0 c qs sd st w hR hlen hs
theorem implWalkScheme_c (p n m k : Int) (a0 c : Nat) (qs : List (List Nat)) (sd st : Int) (w : World) (hR : Rd w (some ⟨a0, 0, none⟩) qs) (hlen : qs.length ≤ 1048576) : Calls Try.prog 22 #[.agg #[.int .i64 p, .int .i64 n, .int .i64 m, .int .i64 k, .slice (some ⟨a0, 0, none⟩) qs.length c], .int .i64 sd, .int .i64 st] w (ResS w (wsZ (wsCode p n m k qs sd st) p) (wsZ (wsCode p n m k qs sd st) n) (wsZ (wsCode p n m k qs sd st) m) (wsZ (wsCode p n m k qs sd st) k) (wsL (wsCode p n m k qs sd st) (wst p qs sd.toNat st.toNat).1) (wsCode p n m k qs sd st)) := by
  rcases Bool.eq_false_or_eq_true (schemeB p n m k qs) with hs | hs
  · rcases Bool.eq_false_or_eq_true (decide (1 ≤ sd) && decide (sd ≤ 2147483646)) with h1 | h1
    · rcases Bool.eq_false_or_eq_true (decide (0 ≤ st) && decide (st ≤ 200)) with h2 | h2
      · exact implWalk_y p n m k a0 c qs sd st w hR hlen hs h1 h2
      · exact implWalk_d p n m k a0 c qs sd st w hR hlen hs h1 h2
    · exact implWalk_b p n m k a0 c qs sd st w hR hlen hs h1
  · exact implWalk_a p n m k a0 c qs sd st w hR hlen hs
end Go.Proofs.Ytkboenfloaagiaa
