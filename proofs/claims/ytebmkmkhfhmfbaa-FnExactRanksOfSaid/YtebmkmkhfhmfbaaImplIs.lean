/-
  impl.IsScheme answers as spec.IsScheme does. (Made by mkimplis.py.)
-/
import Derived.Test.YtebmkmkhfhmfbaaIs
import Derived.Test.YtebmkmkhfhmfbaaAre
namespace Go.Proofs.Ytebmkmkhfhmfbaa
open Go.RowKit
set_option maxRecDepth 100000
theorem schemeB_are {p n m k : Int} {qs : List (List Nat)} (hs : sizesB p n m k = true) : schemeB p n m k qs = areB p (shR n m) (shC m k) qs := by
  unfold schemeB areB
  rw [hs, Bool.true_and, show prodB p n m k = prodG p (shR n m) (shC m k) from funext (prodB_G p n m k)]
theorem areScheme_c (p n m k : Int) (A : Option Addr) (c : Nat) (qs : List (List Nat)) (w : World) (hR : Rd w A qs) (hlen : qs.length ≤ 1048576) (hs : sizesB p n m k = true) :
    Calls Try.prog 50 #[.int .i64 p, .agg #[.int .i64 n, .int .i64 m, .int .i64 m, .int .i64 k, .int .i64 n, .int .i64 k], .slice A qs.length c] w fun e w' => e = .returned (.bool (areB p (shR n m) (shC m k) qs)) ∧ Below w.heap.size w w' :=
  areProducts_c p (shR n m) (shC m k) A c qs w hR hlen (primeB_pos (sizesB_parts hs).1) (ShOk.of_sizes (sizesB_parts hs).2.1 (sizesB_parts hs).2.2.1 (sizesB_parts hs).2.2.2)
attribute [local irreducible] wpList
set_option maxHeartbeats 4000000 in
theorem areAllowed_0 (n m k : Int) (w : World) (hn : sizeB n = false) :
    Calls Try.prog 49 #[.agg #[.int .i64 n, .int .i64 m, .int .i64 k]] w (fun e w' => e = .returned (.bool (sizeB n && sizeB m && sizeB k)) ∧ Below w.heap.size w w') := by
  have hB := Below.refl w.heap.size w
  have HV : Hid ((sizeB n && sizeB m && sizeB k) = false) := Lib.hid (by rw [hn]; simp)
  have Hn := Lib.hid hn
  clear hn
  go_enter Try.func49, Try.ntmps49
  go_upto_region 0 with (fail)
  refine wp_region_lit ?_
  refine ls_op rfl (fun K' hK' => ?_)
  have lz1 := hB.size
  refine wp_new (some 1) rfl (exec_box 82 _ rfl (#[.int .i64 n, .int .i64 m, .int .i64 k]) rfl) (fun Wz2 nnz3 => ?_)
  have bz4 := nnz3.below (Below.refl _ _) (Nat.le_refl _)
  replace hB := below_after hB bz4
  have hz5 : At Wz2 w.heap.size (.cells #[.int .i64 n, .int .i64 m, .int .i64 k] 82 (0, 0)) := nnz3.at_
  refine hK' _ _ ?_
  clear hK' K' nnz3 bz4
  go_frame
  refine ls_ex (some 2) (.bool false) rfl rfl (exec_assign _ rfl (.bool false) rfl) ?_
  go_frame
  refine wpList_nil ?_
  go_upto_region 1 with (fail)
  refine wp_region_lit ?_
  refine ls_ex (some 3) (.pointer (some ⟨w.heap.size, 0, none⟩)) rfl rfl (exec_index_arr _ 2 _ _ rfl w.heap.size 0 3 0 1 rfl rfl Try.underlying82 (by kernel_rfl) (by omega)) ?_
  go_frame
  refine ls_ex (some 4) (.int .i64 n) rfl rfl (exec_load_one 2 _ rfl w.heap.size 0 rfl (.int .i64 n) _ Try.underlying2 rfl (hz5.at_ 0)) ?_
  go_frame
  refine ls_op rfl (fun K' hK' => ?_)
  have lz8 := hB.size
  have lz9 := hz5.lt
  refine wp_call1 (some 5) rfl 68 _ _ rfl (fun args w => by kernel_rfl) _ rfl _ (isSize_c n _) (fun e Wz6 h => ?_)
  obtain ⟨rfl, rfl⟩ := h
  rw [Hn.out]
  refine ⟨_, rfl, ?_⟩
  refine hK' _ _ ?_
  clear hK' K'
  go_frame
  refine ls_ex (some 6) (.bool false) rfl rfl (exec_move _ rfl (.bool false) rfl) ?_
  go_frame
  refine ls_skip_g (some 7) rfl rfl ?_
  go_frame
  refine ls_skip_g (some 8) rfl rfl ?_
  go_frame
  refine ls_skip_g (some 9) rfl rfl ?_
  go_frame
  refine ls_ex (some 10) (.bool false) rfl rfl (exec_pick _ _ _ rfl false rfl (.bool false) rfl) ?_
  go_frame
  refine ls_ex (some 11) (.bool false) rfl rfl (exec_move _ rfl (.bool false) rfl) ?_
  go_frame
  refine ls_skip_g (some 12) rfl rfl ?_
  go_frame
  refine ls_skip_g (some 13) rfl rfl ?_
  go_frame
  refine ls_skip_g (some 14) rfl rfl ?_
  go_frame
  refine ls_ex (some 15) (.bool false) rfl rfl (exec_pick _ _ _ rfl false rfl (.bool false) rfl) ?_
  go_frame
  refine ls_ex (some 2) (.bool false) rfl rfl (exec_assign _ rfl (.bool false) rfl) ?_
  go_frame
  refine wpList_nil ?_
  go_wp2_with fail
  go_ret
  exact ⟨by rw [HV.out]; rfl, hB⟩
set_option maxHeartbeats 4000000 in
theorem areAllowed_1 (n m k : Int) (w : World) (hn : sizeB n = true) (hm : sizeB m = false) :
    Calls Try.prog 49 #[.agg #[.int .i64 n, .int .i64 m, .int .i64 k]] w (fun e w' => e = .returned (.bool (sizeB n && sizeB m && sizeB k)) ∧ Below w.heap.size w w') := by
  have hB := Below.refl w.heap.size w
  have HV : Hid ((sizeB n && sizeB m && sizeB k) = false) := Lib.hid (by rw [hn, hm]; simp)
  have Hn := Lib.hid hn
  have Hm := Lib.hid hm
  clear hn hm
  go_enter Try.func49, Try.ntmps49
  go_upto_region 0 with (fail)
  refine wp_region_lit ?_
  refine ls_op rfl (fun K' hK' => ?_)
  have lz1 := hB.size
  refine wp_new (some 1) rfl (exec_box 82 _ rfl (#[.int .i64 n, .int .i64 m, .int .i64 k]) rfl) (fun Wz2 nnz3 => ?_)
  have bz4 := nnz3.below (Below.refl _ _) (Nat.le_refl _)
  replace hB := below_after hB bz4
  have hz5 : At Wz2 w.heap.size (.cells #[.int .i64 n, .int .i64 m, .int .i64 k] 82 (0, 0)) := nnz3.at_
  refine hK' _ _ ?_
  clear hK' K' nnz3 bz4
  go_frame
  refine ls_ex (some 2) (.bool false) rfl rfl (exec_assign _ rfl (.bool false) rfl) ?_
  go_frame
  refine wpList_nil ?_
  go_upto_region 1 with (fail)
  refine wp_region_lit ?_
  refine ls_ex (some 3) (.pointer (some ⟨w.heap.size, 0, none⟩)) rfl rfl (exec_index_arr _ 2 _ _ rfl w.heap.size 0 3 0 1 rfl rfl Try.underlying82 (by kernel_rfl) (by omega)) ?_
  go_frame
  refine ls_ex (some 4) (.int .i64 n) rfl rfl (exec_load_one 2 _ rfl w.heap.size 0 rfl (.int .i64 n) _ Try.underlying2 rfl (hz5.at_ 0)) ?_
  go_frame
  refine ls_op rfl (fun K' hK' => ?_)
  have lz8 := hB.size
  have lz9 := hz5.lt
  refine wp_call1 (some 5) rfl 68 _ _ rfl (fun args w => by kernel_rfl) _ rfl _ (isSize_c n _) (fun e Wz6 h => ?_)
  obtain ⟨rfl, rfl⟩ := h
  rw [Hn.out]
  refine ⟨_, rfl, ?_⟩
  refine hK' _ _ ?_
  clear hK' K'
  go_frame
  refine ls_ex (some 6) (.bool true) rfl rfl (exec_move _ rfl (.bool true) rfl) ?_
  go_frame
  refine ls_ex_g (some 7) (.pointer (some ⟨w.heap.size, 1, none⟩)) rfl rfl (exec_index_arr _ 2 _ _ rfl w.heap.size 0 3 1 1 rfl rfl Try.underlying82 (by kernel_rfl) (by omega)) ?_
  go_frame
  refine ls_ex_g (some 8) (.int .i64 m) rfl rfl (exec_load_one 2 _ rfl w.heap.size 1 rfl (.int .i64 m) _ Try.underlying2 rfl (hz5.at_ 1)) ?_
  go_frame
  refine ls_op_g rfl (fun K' hK' => ?_)
  have lz12 := hB.size
  have lz13 := hz5.lt
  refine wp_call1 (some 9) rfl 68 _ _ rfl (fun args w => by kernel_rfl) _ rfl _ (isSize_c m _) (fun e Wz10 h => ?_)
  obtain ⟨rfl, rfl⟩ := h
  rw [Hm.out]
  refine ⟨_, rfl, ?_⟩
  refine hK' _ _ ?_
  clear hK' K'
  go_frame
  refine ls_ex (some 10) (.bool false) rfl rfl (exec_pick _ _ _ rfl true rfl (.bool false) rfl) ?_
  go_frame
  refine ls_ex (some 11) (.bool false) rfl rfl (exec_move _ rfl (.bool false) rfl) ?_
  go_frame
  refine ls_skip_g (some 12) rfl rfl ?_
  go_frame
  refine ls_skip_g (some 13) rfl rfl ?_
  go_frame
  refine ls_skip_g (some 14) rfl rfl ?_
  go_frame
  refine ls_ex (some 15) (.bool false) rfl rfl (exec_pick _ _ _ rfl false rfl (.bool false) rfl) ?_
  go_frame
  refine ls_ex (some 2) (.bool false) rfl rfl (exec_assign _ rfl (.bool false) rfl) ?_
  go_frame
  refine wpList_nil ?_
  go_wp2_with fail
  go_ret
  exact ⟨by rw [HV.out]; rfl, hB⟩
set_option maxHeartbeats 4000000 in
theorem areAllowed_2 (n m k : Int) (w : World) (hn : sizeB n = true) (hm : sizeB m = true) (hk : sizeB k = false) :
    Calls Try.prog 49 #[.agg #[.int .i64 n, .int .i64 m, .int .i64 k]] w (fun e w' => e = .returned (.bool (sizeB n && sizeB m && sizeB k)) ∧ Below w.heap.size w w') := by
  have hB := Below.refl w.heap.size w
  have HV : Hid ((sizeB n && sizeB m && sizeB k) = false) := Lib.hid (by rw [hn, hm, hk]; simp)
  have Hn := Lib.hid hn
  have Hm := Lib.hid hm
  have Hk := Lib.hid hk
  clear hn hm hk
  go_enter Try.func49, Try.ntmps49
  go_upto_region 0 with (fail)
  refine wp_region_lit ?_
  refine ls_op rfl (fun K' hK' => ?_)
  have lz1 := hB.size
  refine wp_new (some 1) rfl (exec_box 82 _ rfl (#[.int .i64 n, .int .i64 m, .int .i64 k]) rfl) (fun Wz2 nnz3 => ?_)
  have bz4 := nnz3.below (Below.refl _ _) (Nat.le_refl _)
  replace hB := below_after hB bz4
  have hz5 : At Wz2 w.heap.size (.cells #[.int .i64 n, .int .i64 m, .int .i64 k] 82 (0, 0)) := nnz3.at_
  refine hK' _ _ ?_
  clear hK' K' nnz3 bz4
  go_frame
  refine ls_ex (some 2) (.bool false) rfl rfl (exec_assign _ rfl (.bool false) rfl) ?_
  go_frame
  refine wpList_nil ?_
  go_upto_region 1 with (fail)
  refine wp_region_lit ?_
  refine ls_ex (some 3) (.pointer (some ⟨w.heap.size, 0, none⟩)) rfl rfl (exec_index_arr _ 2 _ _ rfl w.heap.size 0 3 0 1 rfl rfl Try.underlying82 (by kernel_rfl) (by omega)) ?_
  go_frame
  refine ls_ex (some 4) (.int .i64 n) rfl rfl (exec_load_one 2 _ rfl w.heap.size 0 rfl (.int .i64 n) _ Try.underlying2 rfl (hz5.at_ 0)) ?_
  go_frame
  refine ls_op rfl (fun K' hK' => ?_)
  have lz8 := hB.size
  have lz9 := hz5.lt
  refine wp_call1 (some 5) rfl 68 _ _ rfl (fun args w => by kernel_rfl) _ rfl _ (isSize_c n _) (fun e Wz6 h => ?_)
  obtain ⟨rfl, rfl⟩ := h
  rw [Hn.out]
  refine ⟨_, rfl, ?_⟩
  refine hK' _ _ ?_
  clear hK' K'
  go_frame
  refine ls_ex (some 6) (.bool true) rfl rfl (exec_move _ rfl (.bool true) rfl) ?_
  go_frame
  refine ls_ex_g (some 7) (.pointer (some ⟨w.heap.size, 1, none⟩)) rfl rfl (exec_index_arr _ 2 _ _ rfl w.heap.size 0 3 1 1 rfl rfl Try.underlying82 (by kernel_rfl) (by omega)) ?_
  go_frame
  refine ls_ex_g (some 8) (.int .i64 m) rfl rfl (exec_load_one 2 _ rfl w.heap.size 1 rfl (.int .i64 m) _ Try.underlying2 rfl (hz5.at_ 1)) ?_
  go_frame
  refine ls_op_g rfl (fun K' hK' => ?_)
  have lz12 := hB.size
  have lz13 := hz5.lt
  refine wp_call1 (some 9) rfl 68 _ _ rfl (fun args w => by kernel_rfl) _ rfl _ (isSize_c m _) (fun e Wz10 h => ?_)
  obtain ⟨rfl, rfl⟩ := h
  rw [Hm.out]
  refine ⟨_, rfl, ?_⟩
  refine hK' _ _ ?_
  clear hK' K'
  go_frame
  refine ls_ex (some 10) (.bool true) rfl rfl (exec_pick _ _ _ rfl true rfl (.bool true) rfl) ?_
  go_frame
  refine ls_ex (some 11) (.bool true) rfl rfl (exec_move _ rfl (.bool true) rfl) ?_
  go_frame
  refine ls_ex_g (some 12) (.pointer (some ⟨w.heap.size, 2, none⟩)) rfl rfl (exec_index_arr _ 2 _ _ rfl w.heap.size 0 3 2 1 rfl rfl Try.underlying82 (by kernel_rfl) (by omega)) ?_
  go_frame
  refine ls_ex_g (some 13) (.int .i64 k) rfl rfl (exec_load_one 2 _ rfl w.heap.size 2 rfl (.int .i64 k) _ Try.underlying2 rfl (hz5.at_ 2)) ?_
  go_frame
  refine ls_op_g rfl (fun K' hK' => ?_)
  have lz16 := hB.size
  have lz17 := hz5.lt
  refine wp_call1 (some 14) rfl 68 _ _ rfl (fun args w => by kernel_rfl) _ rfl _ (isSize_c k _) (fun e Wz14 h => ?_)
  obtain ⟨rfl, rfl⟩ := h
  rw [Hk.out]
  refine ⟨_, rfl, ?_⟩
  refine hK' _ _ ?_
  clear hK' K'
  go_frame
  refine ls_ex (some 15) (.bool false) rfl rfl (exec_pick _ _ _ rfl true rfl (.bool false) rfl) ?_
  go_frame
  refine ls_ex (some 2) (.bool false) rfl rfl (exec_assign _ rfl (.bool false) rfl) ?_
  go_frame
  refine wpList_nil ?_
  go_wp2_with fail
  go_ret
  exact ⟨by rw [HV.out]; rfl, hB⟩
set_option maxHeartbeats 4000000 in
theorem areAllowed_3 (n m k : Int) (w : World) (hn : sizeB n = true) (hm : sizeB m = true) (hk : sizeB k = true) :
    Calls Try.prog 49 #[.agg #[.int .i64 n, .int .i64 m, .int .i64 k]] w (fun e w' => e = .returned (.bool (sizeB n && sizeB m && sizeB k)) ∧ Below w.heap.size w w') := by
  have hB := Below.refl w.heap.size w
  have HV : Hid ((sizeB n && sizeB m && sizeB k) = true) := Lib.hid (by rw [hn, hm, hk]; simp)
  have Hn := Lib.hid hn
  have Hm := Lib.hid hm
  have Hk := Lib.hid hk
  clear hn hm hk
  go_enter Try.func49, Try.ntmps49
  go_upto_region 0 with (fail)
  refine wp_region_lit ?_
  refine ls_op rfl (fun K' hK' => ?_)
  have lz1 := hB.size
  refine wp_new (some 1) rfl (exec_box 82 _ rfl (#[.int .i64 n, .int .i64 m, .int .i64 k]) rfl) (fun Wz2 nnz3 => ?_)
  have bz4 := nnz3.below (Below.refl _ _) (Nat.le_refl _)
  replace hB := below_after hB bz4
  have hz5 : At Wz2 w.heap.size (.cells #[.int .i64 n, .int .i64 m, .int .i64 k] 82 (0, 0)) := nnz3.at_
  refine hK' _ _ ?_
  clear hK' K' nnz3 bz4
  go_frame
  refine ls_ex (some 2) (.bool false) rfl rfl (exec_assign _ rfl (.bool false) rfl) ?_
  go_frame
  refine wpList_nil ?_
  go_upto_region 1 with (fail)
  refine wp_region_lit ?_
  refine ls_ex (some 3) (.pointer (some ⟨w.heap.size, 0, none⟩)) rfl rfl (exec_index_arr _ 2 _ _ rfl w.heap.size 0 3 0 1 rfl rfl Try.underlying82 (by kernel_rfl) (by omega)) ?_
  go_frame
  refine ls_ex (some 4) (.int .i64 n) rfl rfl (exec_load_one 2 _ rfl w.heap.size 0 rfl (.int .i64 n) _ Try.underlying2 rfl (hz5.at_ 0)) ?_
  go_frame
  refine ls_op rfl (fun K' hK' => ?_)
  have lz8 := hB.size
  have lz9 := hz5.lt
  refine wp_call1 (some 5) rfl 68 _ _ rfl (fun args w => by kernel_rfl) _ rfl _ (isSize_c n _) (fun e Wz6 h => ?_)
  obtain ⟨rfl, rfl⟩ := h
  rw [Hn.out]
  refine ⟨_, rfl, ?_⟩
  refine hK' _ _ ?_
  clear hK' K'
  go_frame
  refine ls_ex (some 6) (.bool true) rfl rfl (exec_move _ rfl (.bool true) rfl) ?_
  go_frame
  refine ls_ex_g (some 7) (.pointer (some ⟨w.heap.size, 1, none⟩)) rfl rfl (exec_index_arr _ 2 _ _ rfl w.heap.size 0 3 1 1 rfl rfl Try.underlying82 (by kernel_rfl) (by omega)) ?_
  go_frame
  refine ls_ex_g (some 8) (.int .i64 m) rfl rfl (exec_load_one 2 _ rfl w.heap.size 1 rfl (.int .i64 m) _ Try.underlying2 rfl (hz5.at_ 1)) ?_
  go_frame
  refine ls_op_g rfl (fun K' hK' => ?_)
  have lz12 := hB.size
  have lz13 := hz5.lt
  refine wp_call1 (some 9) rfl 68 _ _ rfl (fun args w => by kernel_rfl) _ rfl _ (isSize_c m _) (fun e Wz10 h => ?_)
  obtain ⟨rfl, rfl⟩ := h
  rw [Hm.out]
  refine ⟨_, rfl, ?_⟩
  refine hK' _ _ ?_
  clear hK' K'
  go_frame
  refine ls_ex (some 10) (.bool true) rfl rfl (exec_pick _ _ _ rfl true rfl (.bool true) rfl) ?_
  go_frame
  refine ls_ex (some 11) (.bool true) rfl rfl (exec_move _ rfl (.bool true) rfl) ?_
  go_frame
  refine ls_ex_g (some 12) (.pointer (some ⟨w.heap.size, 2, none⟩)) rfl rfl (exec_index_arr _ 2 _ _ rfl w.heap.size 0 3 2 1 rfl rfl Try.underlying82 (by kernel_rfl) (by omega)) ?_
  go_frame
  refine ls_ex_g (some 13) (.int .i64 k) rfl rfl (exec_load_one 2 _ rfl w.heap.size 2 rfl (.int .i64 k) _ Try.underlying2 rfl (hz5.at_ 2)) ?_
  go_frame
  refine ls_op_g rfl (fun K' hK' => ?_)
  have lz16 := hB.size
  have lz17 := hz5.lt
  refine wp_call1 (some 14) rfl 68 _ _ rfl (fun args w => by kernel_rfl) _ rfl _ (isSize_c k _) (fun e Wz14 h => ?_)
  obtain ⟨rfl, rfl⟩ := h
  rw [Hk.out]
  refine ⟨_, rfl, ?_⟩
  refine hK' _ _ ?_
  clear hK' K'
  go_frame
  refine ls_ex (some 15) (.bool true) rfl rfl (exec_pick _ _ _ rfl true rfl (.bool true) rfl) ?_
  go_frame
  refine ls_ex (some 2) (.bool true) rfl rfl (exec_assign _ rfl (.bool true) rfl) ?_
  go_frame
  refine wpList_nil ?_
  go_wp2_with fail
  go_ret
  exact ⟨by rw [HV.out]; rfl, hB⟩
theorem areAllowed_c (n m k : Int) (w : World) :
    Calls Try.prog 49 #[.agg #[.int .i64 n, .int .i64 m, .int .i64 k]] w (fun e w' => e = .returned (.bool (sizeB n && sizeB m && sizeB k)) ∧ Below w.heap.size w w') := by
  rcases Bool.eq_false_or_eq_true (sizeB n) with hn | hn
  · rcases Bool.eq_false_or_eq_true (sizeB m) with hm | hm
    · rcases Bool.eq_false_or_eq_true (sizeB k) with hk | hk
      · exact areAllowed_3 n m k w hn hm hk
      · exact areAllowed_2 n m k w hn hm hk
    · exact areAllowed_1 n m k w hn hm
  · exact areAllowed_0 n m k w hn
theorem sizesB_allowed {p n m k : Int} (h : sizesB p n m k = true) : (sizeB n && sizeB m && sizeB k) = true := by
  obtain ⟨_, h1, h2, h3⟩ := sizesB_parts h
  rw [h1, h2, h3]
  rfl
set_option maxHeartbeats 4000000 in
theorem implIsScheme_no0 (p n m k : Int) (A : Option Addr) (c : Nat) (qs : List (List Nat)) (w : World) (hp : primeB p = false) (hv : schemeB p n m k qs = false) :
    Calls Try.prog 22 #[.agg #[.int .i64 p, .int .i64 n, .int .i64 m, .int .i64 k, .slice A qs.length c]] w (fun e w' => e = .returned (.bool (schemeB p n m k qs)) ∧ Below w.heap.size w w') := by
  have hB := Below.refl w.heap.size w
  have HV := Lib.hid hv
  have HP := Lib.hid hp
  clear hv hp
  go_enter Try.func22, Try.ntmps22
  go_upto_region 0 with (fail)
  refine wp_region_lit ?_
  refine ls_op rfl (fun K' hK' => ?_)
  have lz1 := hB.size
  refine wp_new (some 1) rfl (exec_box 31 _ rfl (#[.int .i64 p, .int .i64 n, .int .i64 m, .int .i64 k, .slice A qs.length c]) rfl) (fun Wz2 nnz3 => ?_)
  have bz4 := nnz3.below (Below.refl _ _) (Nat.le_refl _)
  replace hB := below_after hB bz4
  have hz5 : At Wz2 w.heap.size (.cells #[.int .i64 p, .int .i64 n, .int .i64 m, .int .i64 k, .slice A qs.length c] 31 (0, 0)) := nnz3.at_
  refine hK' _ _ ?_
  clear hK' K' nnz3 bz4
  go_frame
  refine ls_ex (some 2) (.bool false) rfl rfl (exec_assign _ rfl (.bool false) rfl) ?_
  go_frame
  refine wpList_nil ?_
  go_upto_region 1 with (fail)
  refine wp_region_lit ?_
  refine ls_ex (some 3) (.pointer (some ⟨w.heap.size, 0, none⟩)) rfl rfl (exec_fieldAddr 31 _ 0 rfl _ (by kernel_rfl)) ?_
  go_frame
  refine ls_ex (some 4) (.int .i64 p) rfl rfl (exec_load_one 2 _ rfl w.heap.size 0 rfl (.int .i64 p) _ Try.underlying2 rfl (hz5.at_ 0)) ?_
  go_frame
  refine ls_op rfl (fun K' hK' => ?_)
  have lz8 := hB.size
  have lz9 := hz5.lt
  refine wp_call1 (some 5) rfl 38 _ _ rfl (fun args w => by kernel_rfl) _ rfl _ (isPrime_c p _) (fun e Wz6 h => ?_)
  obtain ⟨rfl, rfl⟩ := h
  rw [HP.out]
  refine ⟨_, rfl, ?_⟩
  refine hK' _ _ ?_
  clear hK' K'
  go_frame
  refine ls_ex (some 6) (.bool true) rfl rfl (exec_not _ _ rfl false rfl) ?_
  go_frame
  refine ls_ex (some 7) (.bool true) rfl rfl (exec_move _ rfl (.bool true) rfl) ?_
  go_frame
  refine ls_skip_g (some 8) rfl rfl ?_
  go_frame
  refine ls_skip_g (some 9) rfl rfl ?_
  go_frame
  refine ls_skip_g (some 10) rfl rfl ?_
  go_frame
  refine ls_skip_g (some 11) rfl rfl ?_
  go_frame
  refine ls_ex (some 12) (.bool true) rfl rfl (exec_pick _ _ _ rfl true rfl (.bool true) rfl) ?_
  go_frame
  refine wpList_nil ?_
  go_upto_region 2 with (fail)
  refine wp_region_lit ?_
  refine ls_ex (some 2) (.bool false) rfl rfl (exec_assign _ rfl (.bool false) rfl) ?_
  go_frame
  refine wpList_nil ?_
  go_wp2_with fail
  go_ret
  exact ⟨by rw [HV.out]; rfl, hB⟩
set_option maxHeartbeats 4000000 in
theorem implIsScheme_no1 (p n m k : Int) (A : Option Addr) (c : Nat) (qs : List (List Nat)) (w : World) (hp : primeB p = true) (ha : (sizeB n && sizeB m && sizeB k) = false) (hv : schemeB p n m k qs = false) :
    Calls Try.prog 22 #[.agg #[.int .i64 p, .int .i64 n, .int .i64 m, .int .i64 k, .slice A qs.length c]] w (fun e w' => e = .returned (.bool (schemeB p n m k qs)) ∧ Below w.heap.size w w') := by
  have hB := Below.refl w.heap.size w
  have HV := Lib.hid hv
  have HP := Lib.hid hp
  have HA := Lib.hid ha
  clear hv hp ha
  go_enter Try.func22, Try.ntmps22
  go_upto_region 0 with (fail)
  refine wp_region_lit ?_
  refine ls_op rfl (fun K' hK' => ?_)
  have lz1 := hB.size
  refine wp_new (some 1) rfl (exec_box 31 _ rfl (#[.int .i64 p, .int .i64 n, .int .i64 m, .int .i64 k, .slice A qs.length c]) rfl) (fun Wz2 nnz3 => ?_)
  have bz4 := nnz3.below (Below.refl _ _) (Nat.le_refl _)
  replace hB := below_after hB bz4
  have hz5 : At Wz2 w.heap.size (.cells #[.int .i64 p, .int .i64 n, .int .i64 m, .int .i64 k, .slice A qs.length c] 31 (0, 0)) := nnz3.at_
  refine hK' _ _ ?_
  clear hK' K' nnz3 bz4
  go_frame
  refine ls_ex (some 2) (.bool false) rfl rfl (exec_assign _ rfl (.bool false) rfl) ?_
  go_frame
  refine wpList_nil ?_
  go_upto_region 1 with (fail)
  refine wp_region_lit ?_
  refine ls_ex (some 3) (.pointer (some ⟨w.heap.size, 0, none⟩)) rfl rfl (exec_fieldAddr 31 _ 0 rfl _ (by kernel_rfl)) ?_
  go_frame
  refine ls_ex (some 4) (.int .i64 p) rfl rfl (exec_load_one 2 _ rfl w.heap.size 0 rfl (.int .i64 p) _ Try.underlying2 rfl (hz5.at_ 0)) ?_
  go_frame
  refine ls_op rfl (fun K' hK' => ?_)
  have lz8 := hB.size
  have lz9 := hz5.lt
  refine wp_call1 (some 5) rfl 38 _ _ rfl (fun args w => by kernel_rfl) _ rfl _ (isPrime_c p _) (fun e Wz6 h => ?_)
  obtain ⟨rfl, rfl⟩ := h
  rw [HP.out]
  refine ⟨_, rfl, ?_⟩
  refine hK' _ _ ?_
  clear hK' K'
  go_frame
  refine ls_ex (some 6) (.bool false) rfl rfl (exec_not _ _ rfl true rfl) ?_
  go_frame
  refine ls_ex (some 7) (.bool false) rfl rfl (exec_move _ rfl (.bool false) rfl) ?_
  go_frame
  refine ls_ex_g (some 8) (.agg #[.int .i64 p, .int .i64 n, .int .i64 m, .int .i64 k, .slice A qs.length c]) rfl rfl (exec_load_all 31 _ rfl w.heap.size rfl _ _ _ hz5 Try.underlying31 rfl 5 (by kernel_rfl) rfl) ?_
  go_frame
  refine ls_op_g rfl (fun K' hK' => ?_)
  have lz12 := hB.size
  have lz13 := hz5.lt
  refine wp_call1 (some 9) rfl 48 _ _ rfl (fun args w => by kernel_rfl) _ rfl _ (sizesOf_c p n m k (.slice A qs.length c) _) (fun e Wz10 h => ?_)
  obtain ⟨rfl, bz11⟩ := h
  replace hB := below_after hB bz11
  replace hz5 := hz5.after bz11
  clear bz11
  refine ⟨_, rfl, ?_⟩
  refine hK' _ _ ?_
  clear hK' K'
  go_frame
  refine ls_op_g rfl (fun K' hK' => ?_)
  have lz16 := hB.size
  have lz17 := hz5.lt
  refine wp_call1 (some 10) rfl 49 _ _ rfl (fun args w => by kernel_rfl) _ rfl _ (areAllowed_c n m k _) (fun e Wz14 h => ?_)
  obtain ⟨rfl, bz15⟩ := h
  replace hB := below_after hB bz15
  replace hz5 := hz5.after bz15
  rw [HA.out]
  clear bz15
  refine ⟨_, rfl, ?_⟩
  refine hK' _ _ ?_
  clear hK' K'
  go_frame
  refine ls_ex_g (some 11) (.bool true) rfl rfl (exec_not _ _ rfl false rfl) ?_
  go_frame
  refine ls_ex (some 12) (.bool true) rfl rfl (exec_pick _ _ _ rfl false rfl (.bool true) rfl) ?_
  go_frame
  refine wpList_nil ?_
  go_upto_region 2 with (fail)
  refine wp_region_lit ?_
  refine ls_ex (some 2) (.bool false) rfl rfl (exec_assign _ rfl (.bool false) rfl) ?_
  go_frame
  refine wpList_nil ?_
  go_wp2_with fail
  go_ret
  exact ⟨by rw [HV.out]; rfl, hB⟩
theorem implIsScheme_no (p n m k : Int) (A : Option Addr) (c : Nat) (qs : List (List Nat)) (w : World) (hno : sizesB p n m k = false) :
    Calls Try.prog 22 #[.agg #[.int .i64 p, .int .i64 n, .int .i64 m, .int .i64 k, .slice A qs.length c]] w fun e w' => e = .returned (.bool (schemeB p n m k qs)) ∧ Below w.heap.size w w' := by
  have hv : schemeB p n m k qs = false := by simp [schemeB, hno]
  rcases Bool.eq_false_or_eq_true (primeB p) with hp | hp
  · refine implIsScheme_no1 p n m k A c qs w hp ?_ hv
    unfold sizesB at hno
    rw [hp, Bool.true_and] at hno
    simpa using hno
  · exact implIsScheme_no0 p n m k A c qs w hp hv
set_option maxHeartbeats 4000000 in
theorem implIsScheme_yes (p n m k : Int) (A : Option Addr) (c : Nat) (qs : List (List Nat)) (w : World) (hR : Rd w A qs) (hlen : qs.length ≤ 1048576) (hs : sizesB p n m k = true) :
    Calls Try.prog 22 #[.agg #[.int .i64 p, .int .i64 n, .int .i64 m, .int .i64 k, .slice A qs.length c]] w (fun e w' => e = .returned (.bool (schemeB p n m k qs)) ∧ Below w.heap.size w w') := by
  have hB := Below.refl w.heap.size w
  have HV : Hid (schemeB p n m k qs = areB p (shR n m) (shC m k) qs) := Lib.hid (schemeB_are hs)
  have HS := Lib.hid hs
  clear hs
  go_enter Try.func22, Try.ntmps22
  go_upto_region 0 with (fail)
  refine wp_region_lit ?_
  refine ls_op rfl (fun K' hK' => ?_)
  have lz1 := hB.size
  refine wp_new (some 1) rfl (exec_box 31 _ rfl (#[.int .i64 p, .int .i64 n, .int .i64 m, .int .i64 k, .slice A qs.length c]) rfl) (fun Wz2 nnz3 => ?_)
  have bz4 := nnz3.below (Below.refl _ _) (Nat.le_refl _)
  replace hB := below_after hB bz4
  have hz5 : At Wz2 w.heap.size (.cells #[.int .i64 p, .int .i64 n, .int .i64 m, .int .i64 k, .slice A qs.length c] 31 (0, 0)) := nnz3.at_
  refine hK' _ _ ?_
  clear hK' K' nnz3 bz4
  go_frame
  refine ls_ex (some 2) (.bool false) rfl rfl (exec_assign _ rfl (.bool false) rfl) ?_
  go_frame
  refine wpList_nil ?_
  go_upto_region 1 with (fail)
  refine wp_region_lit ?_
  refine ls_ex (some 3) (.pointer (some ⟨w.heap.size, 0, none⟩)) rfl rfl (exec_fieldAddr 31 _ 0 rfl _ (by kernel_rfl)) ?_
  go_frame
  refine ls_ex (some 4) (.int .i64 p) rfl rfl (exec_load_one 2 _ rfl w.heap.size 0 rfl (.int .i64 p) _ Try.underlying2 rfl (hz5.at_ 0)) ?_
  go_frame
  refine ls_op rfl (fun K' hK' => ?_)
  have lz8 := hB.size
  have lz9 := hz5.lt
  refine wp_call1 (some 5) rfl 38 _ _ rfl (fun args w => by kernel_rfl) _ rfl _ (isPrime_c p _) (fun e Wz6 h => ?_)
  obtain ⟨rfl, rfl⟩ := h
  rw [(sizesB_parts HS.out).1]
  refine ⟨_, rfl, ?_⟩
  refine hK' _ _ ?_
  clear hK' K'
  go_frame
  refine ls_ex (some 6) (.bool false) rfl rfl (exec_not _ _ rfl true rfl) ?_
  go_frame
  refine ls_ex (some 7) (.bool false) rfl rfl (exec_move _ rfl (.bool false) rfl) ?_
  go_frame
  refine ls_ex_g (some 8) (.agg #[.int .i64 p, .int .i64 n, .int .i64 m, .int .i64 k, .slice A qs.length c]) rfl rfl (exec_load_all 31 _ rfl w.heap.size rfl _ _ _ hz5 Try.underlying31 rfl 5 (by kernel_rfl) rfl) ?_
  go_frame
  refine ls_op_g rfl (fun K' hK' => ?_)
  have lz12 := hB.size
  have lz13 := hz5.lt
  refine wp_call1 (some 9) rfl 48 _ _ rfl (fun args w => by kernel_rfl) _ rfl _ (sizesOf_c p n m k (.slice A qs.length c) _) (fun e Wz10 h => ?_)
  obtain ⟨rfl, bz11⟩ := h
  replace hB := below_after hB bz11
  replace hz5 := hz5.after bz11
  clear bz11
  refine ⟨_, rfl, ?_⟩
  refine hK' _ _ ?_
  clear hK' K'
  go_frame
  refine ls_op_g rfl (fun K' hK' => ?_)
  have lz16 := hB.size
  have lz17 := hz5.lt
  refine wp_call1 (some 10) rfl 49 _ _ rfl (fun args w => by kernel_rfl) _ rfl _ (areAllowed_c n m k _) (fun e Wz14 h => ?_)
  obtain ⟨rfl, bz15⟩ := h
  replace hB := below_after hB bz15
  replace hz5 := hz5.after bz15
  rw [sizesB_allowed HS.out]
  clear bz15
  refine ⟨_, rfl, ?_⟩
  refine hK' _ _ ?_
  clear hK' K'
  go_frame
  refine ls_ex_g (some 11) (.bool false) rfl rfl (exec_not _ _ rfl true rfl) ?_
  go_frame
  refine ls_ex (some 12) (.bool false) rfl rfl (exec_pick _ _ _ rfl false rfl (.bool false) rfl) ?_
  go_frame
  refine wpList_nil ?_
  go_upto_region 3 with (fail)
  refine wp_region_y (zs := []) (S := fun w' => Below w.heap.size w w' ∧ At w' w.heap.size (.cells #[.int .i64 p, .int .i64 n, .int .i64 m, .int .i64 k, .slice A qs.length c] 31 (0, 0))) (S2 := fun w' => True) (by kernel_rfl) ?_
  change wpAnyY _ _ _ _ _ _ _ _ _ _ (World.drew _)
  generalize hwdz18 : World.drew _ = wdz18
  replace hB : Below w.heap.size w wdz18 := by rw [← hwdz18]; exact hB.drew
  replace hz5 : At wdz18 w.heap.size (.cells #[.int .i64 p, .int .i64 n, .int .i64 m, .int .i64 k, .slice A qs.length c] 31 (0, 0)) := by rw [← hwdz18]; exact hz5
  clear hwdz18
  refine y_yield 0 (some 13) (.pointer (some ⟨w.heap.size, 0, none⟩)) rfl (by kernel_rfl) (by kernel_rfl) (by kernel_rfl) (fun _ _ _ h => h) rfl rfl ⟨hB, hz5⟩ (fun w' h' => exec_fieldAddr 31 _ 0 rfl _ (by kernel_rfl)) ?_
  go_frame
  refine y_yield 1 (some 14) (.int .i64 p) rfl (by kernel_rfl) (by kernel_rfl) (by kernel_rfl) (fun _ _ _ h => h) rfl rfl ⟨hB, hz5⟩ (fun w' h' => exec_load_one 2 _ rfl w.heap.size 0 rfl (.int .i64 p) _ Try.underlying2 rfl (h'.2.at_ 0)) ?_
  go_frame
  refine y_yield 2 (some 15) (.agg #[.int .i64 p, .int .i64 n, .int .i64 m, .int .i64 k, .slice A qs.length c]) rfl (by kernel_rfl) (by kernel_rfl) (by kernel_rfl) (fun _ _ _ h => h) rfl rfl ⟨hB, hz5⟩ (fun w' h' => exec_load_all 31 _ rfl w.heap.size rfl _ _ _ h'.2 Try.underlying31 rfl 5 (by kernel_rfl) rfl) ?_
  go_frame
  refine y_yield 4 (some 17) (.pointer (some ⟨w.heap.size, 4, none⟩)) rfl (by kernel_rfl) (by kernel_rfl) (by kernel_rfl) (fun _ _ _ h => h) rfl rfl ⟨hB, hz5⟩ (fun w' h' => exec_fieldAddr 31 _ 4 rfl _ (by kernel_rfl)) ?_
  go_frame
  refine y_yield 5 (some 18) (.slice A qs.length c) rfl (by kernel_rfl) (by kernel_rfl) (by kernel_rfl) (fun _ _ _ h => h) rfl rfl ⟨hB, hz5⟩ (fun w' h' => exec_load_one 29 _ rfl w.heap.size 4 rfl (.slice A qs.length c) _ Try.underlying29 rfl (h'.2.at_ 4)) ?_
  go_frame
  refine y_oper 3 (by kernel_rfl) rfl rfl (fun K' hK' => ?_)
  have lz21 := hB.size
  have lz22 := hz5.lt
  refine wp_call1 (some 16) rfl 23 _ _ rfl (fun args w => by kernel_rfl) _ rfl _ (shapesOf_c p n m k (.slice A qs.length c) _) (fun e Wz19 h => ?_)
  obtain ⟨rfl, bz20⟩ := h
  replace hB := below_after hB bz20
  replace hz5 := hz5.after bz20
  clear bz20
  refine ⟨_, rfl, ?_⟩
  refine hK' _ _ ⟨hB, hz5⟩ (fun _ => trivial) ?_
  clear hK' K'
  go_frame
  refine y_oper 6 (by kernel_rfl) rfl rfl (fun K' hK' => ?_)
  have lz25 := hB.size
  have lz26 := hz5.lt
  refine wp_call3 (some 19) rfl 50 _ _ _ _ rfl (fun args w => by kernel_rfl) _ _ _ rfl rfl rfl _ (areScheme_c p n m k A c qs _ (hR.keep hB) hlen HS.out) (fun e Wz23 h => ?_)
  obtain ⟨rfl, bz24⟩ := h
  replace hB := below_after hB bz24
  replace hz5 := hz5.after bz24
  clear bz24
  refine ⟨_, rfl, ?_⟩
  refine hK' _ _ ⟨hB, hz5⟩ (fun _ => trivial) ?_
  clear hK' K'
  go_frame
  refine y_oper 7 (by kernel_rfl) rfl rfl (fun K' hK' => ?_)
  refine wp_exec (some 2) rfl (.bool (areB p (shR n m) (shC m k) qs)) (exec_assign _ rfl (.bool (areB p (shR n m) (shC m k) qs)) rfl) ?_
  refine hK' _ _ ⟨hB, hz5⟩ (fun _ => trivial) ?_
  clear hK' K'
  go_frame
  refine y_done (by kernel_rfl) ?_ _
  go_wp2_with fail
  go_ret
  exact ⟨by rw [HV.out]; rfl, hB⟩
theorem implIsScheme_c (p n m k : Int) (A : Option Addr) (c : Nat) (qs : List (List Nat)) (w : World) (hr : Rd w A qs) (hlen : qs.length ≤ 1048576) :
    Calls Try.prog 22 #[.agg #[.int .i64 p, .int .i64 n, .int .i64 m, .int .i64 k, .slice A qs.length c]] w fun e w' => e = .returned (.bool (schemeB p n m k qs)) ∧ Below w.heap.size w w' := by
  cases hs : sizesB p n m k with
  | false => exact implIsScheme_no p n m k A c qs w hs
  | true => exact implIsScheme_yes p n m k A c qs w hr hlen hs
theorem schemeB_len {p n m k : Int} {qs : List (List Nat)} (h : schemeB p n m k qs = true) : qs.length ≤ 30 := by
  simp only [schemeB, Bool.and_eq_true, decide_eq_true_eq] at h
  exact h.1.2
theorem schemeB_sizes {p n m k : Int} {qs : List (List Nat)} (h : schemeB p n m k qs = true) : sizesB p n m k = true := by
  simp only [schemeB, Bool.and_eq_true] at h
  exact h.1.1
end Go.Proofs.Ytebmkmkhfhmfbaa

