/-
  ValueOfBorder of both sides. (Made by mktwd.py.)
-/
import Derived.Test.YtnlidegmllcdhaaTwC
import Derived.Test.YtnlidegmllcdhaaRight1
import Derived.Test.YtnlidegmllcdhaaHeldT
namespace Go.Proofs.Ytnlidegmllcdhaa
open Go.RowKit
set_option maxRecDepth 100000
def outZ (code x : Int) : Int := if code = 0 then x else 0
def outL (code : Int) (l : List (List Nat)) : List (List Nat) := if code = 0 then l else []
theorem outL_len2 {code : Int} {l : List (List Nat)} {N : Nat} (h : code = 0 → l.length ≤ N) : (outL code l).length ≤ N := by
  unfold outL
  split
  · exact h (by assumption)
  · simp
theorem outL_bytes2 {code : Int} {l : List (List Nat)} {N : Nat} (h : code = 0 → ∀ r ∈ l, Bytes N r) : ∀ r ∈ outL code l, Bytes N r := by
  unfold outL
  split
  · exact h (by assumption)
  · simp
theorem map_take_step2 {α β : Type} {f : α → β} {xs : List α} {i : Nat} (hi : i < xs.length) : (xs.take i).map f ++ [f xs[i]] = (xs.take (i + 1)).map f := by
  rw [List.take_add_one, List.getElem?_eq_getElem hi, List.map_append]
  rfl
theorem map_take_len2 {α β : Type} {f : α → β} {xs : List α} {i : Nat} (hi : i ≤ xs.length) : ((xs.take i).map f).length = i := by simp; omega
attribute [local irreducible] wpList
theorem al_impl_Twig {o : Oper} {a : Act} {w : World} (ho : o.op = .alloc 52) : (execOp a.eval o).run Try.prog w = .ok (.value (.pointer (some ⟨w.heap.size, 0, none⟩))) (w.alloc (.cells (u8s (List.replicate 108 0)) 52 (0, 0))) := by
  unfold execOp
  rw [ho]
  kernel_rfl
set_option maxHeartbeats 4000000 in
theorem powerOf0_c (x : Int) (e : Nat) (h0 : 0 ≤ x) (h4 : x ≤ 4) (he : e ≤ 3) (w : World) :
    Calls Try.prog 57 #[.int .i64 x, .int .i64 (e : Int)] w (fun e' w' => e' = .returned (.int .i64 (powI x e)) ∧ Below w.heap.size w w') := by
  have hB := Below.refl w.heap.size w
  skip
  go_enter Try.func57, Try.ntmps57
  go_upto_region 0 with (fail)
  refine wp_region_lit ?_
  refine ls_ex (some 4) (.int .i64 0) rfl rfl (exec_assign _ rfl (.int .i64 0) rfl) ?_
  go_frame
  refine wpList_nil ?_
  go_upto_region 1 with (fail)
  refine wp_region_lit ?_
  refine ls_ex (some 5) (.int .i64 1) rfl rfl (exec_assign _ rfl (.int .i64 1) rfl) ?_
  go_frame
  refine wpList_nil ?_
  go_upto_region 2 with (fail)
  refine wp_region_lit ?_
  refine ls_ex (some 6) (.int .i64 e) rfl rfl (exec_move _ rfl (.int .i64 e) rfl) ?_
  go_frame
  refine ls_ex (some 7) (.int .i64 0) rfl rfl (exec_move _ rfl (.int .i64 0) rfl) ?_
  go_frame
  refine wpList_nil ?_
  go_wp2_with fail
  go_loopw [5, 7] (fun s5 s7 wr => ∃ j : Nat, j ≤ e ∧ s7 = .int .i64 j ∧ s5 = .int .i64 (powI x j) ∧ Below w.heap.size w wr) (fun _ s7 _ => e - (intOf s7).toNat)
  case atStart => exact ⟨0, by omega, rfl, rfl, hB⟩
  case round =>
    clear hB
    obtain ⟨j, hj, rfl, rfl, hB⟩ := hrel
    by_cases hlt : j < e
    · have hb := powI_b0 h0 h4 (show j ≤ 4 by omega)
      have hm0 : 0 ≤ powI x j * x := Int.mul_nonneg hb.1 h0
      have hm1 : powI x j * x ≤ 256 * 4 := Int.mul_le_mul hb.2 h4 h0 (by omega)
      go_upto_region 3 with (fail)
      refine wp_region_lit ?_
      refine ls_ex (some 8) (.bool true) rfl rfl (exec_lss _ _ _ _ rfl j e rfl rfl true (decide_eq_true (by omega))) ?_
      go_frame
      refine wpList_nil ?_
      go_upto_region 4 with (fail)
      refine wp_region_lit ?_
      refine ls_ex (some 9) (.int .i64 (powI x j)) rfl rfl (exec_move _ rfl (.int .i64 (powI x j)) rfl) ?_
      go_frame
      refine ls_ex (some 10) (.int .i64 x) rfl rfl (exec_move _ rfl (.int .i64 x) rfl) ?_
      go_frame
      refine ls_ex (some 11) (.int .i64 (powI x (j + 1))) rfl rfl (exec_mul _ _ _ _ rfl (powI x j) x (powI x (j + 1)) rfl rfl (by rw [IntWalk.i64_in _ (by omega)]; rfl)) ?_
      go_frame
      refine ls_ex (some 5) (.int .i64 (powI x (j + 1))) rfl rfl (exec_assign _ rfl (.int .i64 (powI x (j + 1))) rfl) ?_
      go_frame
      refine wpList_nil ?_
      go_upto_region 5 with (fail)
      refine wp_region_lit ?_
      refine ls_ex (some 12) (.int .i64 (j + 1)) rfl rfl (exec_add _ _ _ _ rfl j 1 (j + 1) rfl rfl (IntWalk.i64_in _ (by omega))) ?_
      go_frame
      refine ls_ex (some 7) (.int .i64 (j + 1)) rfl rfl (exec_move _ rfl (.int .i64 (j + 1)) rfl) ?_
      go_frame
      refine wpList_nil ?_
      go_wp2_with fail
      go_roundw
      case rel => exact ⟨j + 1, by omega, by go_num, rfl, hB⟩
      case measure => simp [intOf]; omega
    · have HJ : Hid (powI x j = powI x e) := Lib.hid (by rw [show j = e by omega])
      go_upto_region 3 with (fail)
      refine wp_region_lit ?_
      refine ls_ex (some 8) (.bool false) rfl rfl (exec_lss _ _ _ _ rfl j e rfl rfl false (decide_eq_false (by omega))) ?_
      go_frame
      refine wpList_nil ?_
      go_upto_region 6 with (fail)
      refine wp_region_lit ?_
      refine ls_ex (some 13) (.int .i64 (powI x j)) rfl rfl (exec_move _ rfl (.int .i64 (powI x j)) rfl) ?_
      go_frame
      refine ls_ex (some 4) (.int .i64 (powI x j)) rfl rfl (exec_assign _ rfl (.int .i64 (powI x j)) rfl) ?_
      go_frame
      refine wpList_nil ?_
      go_wp2_with fail
      go_ret
      exact ⟨by rw [← HJ.out]; rfl, hB⟩
set_option maxHeartbeats 12800000 in
theorem l08Value_c (p x : Int) (f : List Nat) (hf : Bytes 36 f) (hp5 : 2 ≤ p ∧ p ≤ 5) (hx : 0 ≤ x ∧ x ≤ p - 1) (w : World) :
    Calls Try.prog 27 #[.int .i64 p, .agg (u8s f), .int .i64 x] w (fun e w' => e = .returned (.agg (u8s (valF p x f))) ∧ Below w.heap.size w w') := by
  have hB := Below.refl w.heap.size w
  have HF := Lib.hid hf.len
  have HFb := Lib.hid hf
  go_enter Try.func27, Try.ntmps27
  go_upto_region 0 with (fail)
  refine wp_region_lit ?_
  refine ls_op rfl (fun K' hK' => ?_)
  have lz1 := hB.size
  refine wp_new (some 4) rfl (exec_box 50 _ rfl (u8s (f)) rfl) (fun Wz2 nnz3 => ?_)
  have bz4 := nnz3.below (Below.refl _ _) (Nat.le_refl _)
  replace hB := below_after hB bz4
  have hz5 : At Wz2 w.heap.size (.cells (u8s (f)) 50 (0, 0)) := nnz3.at_
  refine hK' _ _ ?_
  clear hK' K' nnz3 bz4
  go_frame
  refine ls_op rfl (fun K' hK' => ?_)
  have lz6 := hB.size
  have lz7 := hz5.lt
  refine wp_new (some 6) rfl (al_impl_Form rfl) (fun Wz8 nnz9 => ?_)
  have bz10 := nnz9.below (Below.refl _ _) (Nat.le_refl _)
  replace hB := below_after hB bz10
  replace hz5 := hz5.after bz10
  have hz11 : At Wz8 Wz2.heap.size (.cells (u8s (List.replicate 9 0)) 55 (0, 0)) := nnz9.at_
  refine hK' _ _ ?_
  clear hK' K' nnz9 bz10
  go_frame
  refine wpList_nil ?_
  go_upto_region 1 with (fail)
  refine wp_region_lit ?_
  refine ls_ex (some 11) (.agg (u8s (List.replicate 9 0))) rfl rfl (exec_build_nil 55 rfl _ (by kernel_rfl)) ?_
  go_frame
  refine ls_op rfl (fun K' hK' => ?_)
  have lz12 := hB.size
  have lz13 := hz5.lt
  have lz14 := hz11.lt
  refine wp_new (some 7) rfl (al_impl_Form rfl) (fun Wz15 nnz16 => ?_)
  have bz17 := nnz16.below (Below.refl _ _) (Nat.le_refl _)
  replace hB := below_after hB bz17
  replace hz5 := hz5.after bz17
  replace hz11 := hz11.after bz17
  have hz18 : At Wz15 Wz8.heap.size (.cells (u8s (List.replicate 9 0)) 55 (0, 0)) := nnz16.at_
  refine hK' _ _ ?_
  clear hK' K' nnz16 bz17
  go_frame
  refine ls_op rfl (fun K' hK' => ?_)
  refine wp_store_bytes 55 _ _ rfl rfl Wz8.heap.size rfl (List.replicate 9 0) rfl _ _ hz18 9 (by kernel_rfl) (by simp) (by simp) (fun Wz19 pz20 => ?_)
  replace hB := pz20.below hB (by omega)
  replace hz5 := pz20.other hz5 (by omega)
  replace hz11 := pz20.other hz11 (by omega)
  replace hz18 : At Wz19 Wz8.heap.size (.cells (u8s (List.replicate 9 0)) 55 (0, 0)) := pz20.at_
  refine hK' _ _ ?_
  clear hK' K' pz20
  refine wpList_nil ?_
  go_upto_region 2 with (fail)
  refine wp_region_lit ?_
  refine ls_ex (some 8) (.int .i64 0) rfl rfl (exec_assign _ rfl (.int .i64 0) rfl) ?_
  go_frame
  refine wpList_nil ?_
  go_wp2_with fail
  go_loopw [8] (fun s8 wr => ∃ c : Nat, c ≤ 9 ∧ s8 = .int .i64 c ∧ Below w.heap.size w wr ∧ At wr w.heap.size (.cells (u8s (f)) 50 (0, 0)) ∧ At wr Wz8.heap.size (.cells (u8s ((valF p x f).take c ++ List.replicate (9 - c) 0)) 55 (0, 0)) ∧ At wr Wz2.heap.size (.cells (u8s (List.replicate 9 0)) 55 (0, 0))) (fun s8 _ => 9 - (intOf s8).toNat)
  case atStart => exact ⟨0, by omega, rfl, hB, hz5, by rw [List.take_zero]; exact hz18, hz11⟩
  case round =>
    clear hB hz5 hz11 hz18
    obtain ⟨c, hc, rfl, hB, h0, h1, h2⟩ := hrel
    by_cases hc9 : c < 9
    · go_upto_region 3 with (fail)
      refine wp_region_lit ?_
      refine ls_ex (some 12) (.int .i64 c) rfl rfl (exec_move _ rfl (.int .i64 c) rfl) ?_
      go_frame
      refine ls_ex (some 13) (.bool true) rfl rfl (exec_lss _ _ _ _ rfl c 9 rfl rfl true (decide_eq_true (by omega))) ?_
      go_frame
      refine wpList_nil ?_
      go_upto_region 5 with (fail)
      refine wp_region_lit ?_
      refine ls_ex (some 9) (.int .i64 0) rfl rfl (exec_assign _ rfl (.int .i64 0) rfl) ?_
      go_frame
      refine wpList_nil ?_
      go_upto_region 6 with (fail)
      refine wp_region_lit ?_
      refine ls_ex (some 10) (.int .i64 3) rfl rfl (exec_assign _ rfl (.int .i64 3) rfl) ?_
      go_frame
      refine wpList_nil ?_
      go_wp2_with fail
      obtain ⟨we, rfl⟩ : ∃ x : World, x = wr := ⟨_, rfl⟩
      go_loopw [9, 10] (fun s9 s10 wr => ∃ k : Nat, k ≤ 4 ∧ s10 = .int .i64 (3 - (k : Int)) ∧ s9 = .int .i64 (hkS p x f c k) ∧ Below w.heap.size w wr ∧ At wr w.heap.size (.cells (u8s (f)) 50 (0, 0)) ∧ At wr Wz8.heap.size (.cells (u8s ((valF p x f).take c ++ List.replicate (9 - c) 0)) 55 (0, 0)) ∧ At wr Wz2.heap.size (.cells (u8s (List.replicate 9 0)) 55 (0, 0))) (fun _ s10 _ => (intOf s10 + 1).toNat)
      case atStart => exact ⟨0, by omega, rfl, rfl, hB, h0, h1, h2⟩
      case round =>
        clear hB h0 h1 h2
        obtain ⟨k, hk, rfl, rfl, hB, h0, h1, h2⟩ := hrel
        by_cases hk4 : k < 4
        · obtain ⟨y, hy⟩ : ∃ y, f[c * 4 + (3 - k)]?.getD 0 = y := ⟨_, rfl⟩
          have hcx := cellY h0 (by rw [HF.out]; omega) hy
          have hy256 : y < 256 := by rw [← hy]; exact HFb.out.lt _
          have hb := hkS_b x f c hp5 k
          have hm0 : 0 ≤ hkS p x f c k * x := Int.mul_nonneg hb.1 hx.1
          have hm1 : hkS p x f c k * x ≤ 4 * 4 := Int.mul_le_mul hb.2 (by omega) hx.1 (by omega)
          have HN : Hid ((hkS p x f c k * x + (y : Int)).tmod p = hkS p x f c (k + 1)) := Lib.hid (by rw [Int.tmod_eq_emod_of_nonneg (by omega), ← hy]; rfl)
          clear hy
          go_upto_region 7 with (fail)
          refine wp_region_lit ?_
          refine ls_ex (some 16) (.int .i64 (3 - (k : Int))) rfl rfl (exec_move _ rfl (.int .i64 (3 - (k : Int))) rfl) ?_
          go_frame
          refine ls_ex (some 17) (.bool true) rfl rfl (exec_geq _ _ _ _ rfl ((3 - (k : Int))) 0 rfl rfl true (decide_eq_true (by omega))) ?_
          go_frame
          refine wpList_nil ?_
          go_upto_region 9 with (fail)
          refine wp_region_lit ?_
          refine ls_ex (some 20) (.int .i64 (hkS p x f c k)) rfl rfl (exec_move _ rfl (.int .i64 (hkS p x f c k)) rfl) ?_
          go_frame
          refine ls_ex (some 21) (.int .i64 x) rfl rfl (exec_move _ rfl (.int .i64 x) rfl) ?_
          go_frame
          refine ls_ex (some 22) (.int .i64 (hkS p x f c k * x)) rfl rfl (exec_mul _ _ _ _ rfl (hkS p x f c k) x (hkS p x f c k * x) rfl rfl (IntWalk.i64_in _ (by omega))) ?_
          go_frame
          refine ls_ex (some 23) (.int .i64 c) rfl rfl (exec_move _ rfl (.int .i64 c) rfl) ?_
          go_frame
          refine ls_ex (some 24) (.int .i64 (3 - (k : Int))) rfl rfl (exec_move _ rfl (.int .i64 (3 - (k : Int))) rfl) ?_
          go_frame
          refine ls_ex (some 25) (.pointer (some ⟨w.heap.size, c * 4, none⟩)) rfl rfl (exec_index_arr0 50 48 _ _ rfl w.heap.size 9 c 4 rfl rfl Try.underlying50 (by kernel_rfl) hc9) ?_
          go_frame
          refine ls_ex (some 26) (.pointer (some ⟨w.heap.size, c * 4 + (3 - k), none⟩)) rfl rfl (exec_index_arrZ 48 5 _ _ rfl w.heap.size (c * 4) 4 (3 - k) (3 - (k : Int)) rfl rfl (by omega) Try.underlying48 (by kernel_rfl) (by omega)) ?_
          go_frame
          refine ls_ex (some 27) (.int .u8 (y : Nat)) rfl rfl (exec_load_one 5 _ rfl w.heap.size (c * 4 + (3 - k)) rfl (.int .u8 (y : Nat)) _ Try.underlying5 rfl hcx) ?_
          go_frame
          refine ls_ex (some 28) (.int .i64 (y : Int)) rfl rfl (exec_conv _ rfl y rfl hy256) ?_
          go_frame
          refine ls_ex (some 29) (.int .i64 (hkS p x f c k * x + (y : Int))) rfl rfl (exec_add _ _ _ _ rfl (hkS p x f c k * x) (y : Int) (hkS p x f c k * x + (y : Int)) rfl rfl (IntWalk.i64_in _ (by omega))) ?_
          go_frame
          refine ls_ex (some 30) (.int .i64 p) rfl rfl (exec_move _ rfl (.int .i64 p) rfl) ?_
          go_frame
          refine ls_ex (some 31) (.int .i64 (hkS p x f c (k + 1))) rfl rfl (exec_rem _ _ _ _ rfl (hkS p x f c k * x + (y : Int)) p (hkS p x f c (k + 1)) rfl rfl (by omega) HN.out) ?_
          go_frame
          refine ls_ex (some 9) (.int .i64 (hkS p x f c (k + 1))) rfl rfl (exec_assign _ rfl (.int .i64 (hkS p x f c (k + 1))) rfl) ?_
          go_frame
          refine wpList_nil ?_
          go_upto_region 8 with (fail)
          refine wp_region_lit ?_
          refine ls_ex (some 18) (.int .i64 (3 - (k : Int))) rfl rfl (exec_move _ rfl (.int .i64 (3 - (k : Int))) rfl) ?_
          go_frame
          refine ls_ex (some 19) (.int .i64 ((3 - (k : Int)) - 1)) rfl rfl (exec_sub _ _ _ _ rfl ((3 - (k : Int))) 1 ((3 - (k : Int)) - 1) rfl rfl (IntWalk.i64_in _ (by omega))) ?_
          go_frame
          refine ls_ex (some 10) (.int .i64 ((3 - (k : Int)) - 1)) rfl rfl (exec_assign _ rfl (.int .i64 ((3 - (k : Int)) - 1)) rfl) ?_
          go_frame
          refine wpList_nil ?_
          go_wp2_with fail
          go_roundw
          case rel => exact ⟨k + 1, by omega, by go_num, rfl, hB, h0, h1, h2⟩
          case measure => simp [intOf]; omega
        · have hb := hkS_b x f c hp5 4
          have HK : Hid (hkS p x f c k = (((hkS p x f c 4).toNat : Nat) : Int)) := Lib.hid (by rw [show k = 4 by omega]; omega)
          have HP : Hid (((valF p x f).take c ++ List.replicate (9 - c) 0).set c (hkS p x f c 4).toNat = (valF p x f).take (c + 1) ++ List.replicate (9 - (c + 1)) 0) := Lib.hid (by rw [← valF_get p x f hc9]; exact fill_step (valF_len p x f) hc9)
          have hml : ((valF p x f).take c ++ List.replicate (9 - c) 0).length = 9 := by rw [List.length_append, List.length_take, valF_len, List.length_replicate]; omega
          have Hml := Lib.hid hml
          clear hml
          skip
          go_upto_region 7 with (fail)
          refine wp_region_lit ?_
          refine ls_ex (some 16) (.int .i64 (3 - (k : Int))) rfl rfl (exec_move _ rfl (.int .i64 (3 - (k : Int))) rfl) ?_
          go_frame
          refine ls_ex (some 17) (.bool false) rfl rfl (exec_geq _ _ _ _ rfl ((3 - (k : Int))) 0 rfl rfl false (decide_eq_false (by omega))) ?_
          go_frame
          refine wpList_nil ?_
          go_upto_region 10 with (fail)
          refine wp_region_lit ?_
          refine ls_ex (some 32) (.int .i64 c) rfl rfl (exec_move _ rfl (.int .i64 c) rfl) ?_
          go_frame
          refine ls_ex (some 33) (.int .i64 (hkS p x f c k)) rfl rfl (exec_move _ rfl (.int .i64 (hkS p x f c k)) rfl) ?_
          go_frame
          refine ls_ex (some 34) (.int .u8 ((hkS p x f c 4).toNat : Nat)) rfl rfl (exec_conv8z _ rfl (hkS p x f c k) (hkS p x f c 4).toNat rfl (by omega) HK.out) ?_
          go_frame
          refine ls_ex (some 35) (.pointer (some ⟨Wz8.heap.size, 0 + c, none⟩)) rfl rfl (exec_index_arr1 55 5 _ _ rfl Wz8.heap.size 0 9 c rfl rfl Try.underlying55 (by kernel_rfl) hc9) ?_
          go_frame
          refine ls_op rfl (fun K' hK' => ?_)
          refine wp_store_b1 5 _ _ rfl rfl Wz8.heap.size (0 + c) rfl ((hkS p x f c 4).toNat) rfl _ _ h1 (by kernel_rfl) (by rw [Hml.out]; omega) (fun Wz21 pz22 => ?_)
          replace hB := pz22.below hB (by omega)
          replace h0 := pz22.other h0 (by omega)
          replace h2 := pz22.other h2 (by omega)
          replace h1 : At Wz21 Wz8.heap.size (.cells (u8s ((valF p x f).take (c + 1) ++ List.replicate (9 - (c + 1)) 0)) 55 (0, 0)) := by have h9 := pz22.at_; rwa [Nat.zero_add, HP.out] at h9
          refine hK' _ _ ?_
          clear hK' K' pz22
          refine wpList_nil ?_
          go_upto_region 4 with (fail)
          refine wp_region_lit ?_
          refine ls_ex (some 14) (.int .i64 c) rfl rfl (exec_move _ rfl (.int .i64 c) rfl) ?_
          go_frame
          refine ls_ex (some 15) (.int .i64 (c + 1)) rfl rfl (exec_add _ _ _ _ rfl c 1 (c + 1) rfl rfl (IntWalk.i64_in _ (by omega))) ?_
          go_frame
          refine ls_ex (some 8) (.int .i64 (c + 1)) rfl rfl (exec_assign _ rfl (.int .i64 (c + 1)) rfl) ?_
          go_frame
          refine wpList_nil ?_
          go_wp2_with fail
          go_roundw
          case rel => exact ⟨c + 1, by omega, by go_num, hB, h0, h1, h2⟩
          case measure => simp [intOf]; omega
    · have HR : Hid ((valF p x f).take c ++ List.replicate (9 - c) 0 = valF p x f) := Lib.hid (by rw [show c = 9 by omega]; exact fill_end (valF_len p x f))
      rw [HR.out] at h1
      go_upto_region 3 with (fail)
      refine wp_region_lit ?_
      refine ls_ex (some 12) (.int .i64 c) rfl rfl (exec_move _ rfl (.int .i64 c) rfl) ?_
      go_frame
      refine ls_ex (some 13) (.bool false) rfl rfl (exec_lss _ _ _ _ rfl c 9 rfl rfl false (decide_eq_false (by omega))) ?_
      go_frame
      refine wpList_nil ?_
      go_upto_region 11 with (fail)
      refine wp_region_lit ?_
      refine ls_ex (some 36) (.agg (u8s (valF p x f))) rfl rfl (exec_load_all 55 _ rfl Wz8.heap.size rfl _ _ _ h1 Try.underlying55 rfl 9 (by kernel_rfl) ((u8s_size _).trans (valF_len p x f))) ?_
      go_frame
      refine ls_op rfl (fun K' hK' => ?_)
      refine wp_store_bytes 55 _ _ rfl rfl Wz2.heap.size rfl (valF p x f) rfl _ _ h2 9 (by kernel_rfl) (valF_len p x f) (by simp) (fun Wz23 pz24 => ?_)
      replace hB := pz24.below hB (by omega)
      replace h0 := pz24.other h0 (by omega)
      replace h1 := pz24.other h1 (by omega)
      replace h2 : At Wz23 Wz2.heap.size (.cells (u8s (valF p x f)) 55 (0, 0)) := pz24.at_
      refine hK' _ _ ?_
      clear hK' K' pz24
      refine wpList_nil ?_
      go_wp2_with fail
      refine bodyPost_ret (results_at rfl _ _ Wz2.heap.size _ _ _ rfl h2 Try.underlying55 rfl 9 (by kernel_rfl) ((u8s_size _).trans (valF_len p x f))) rfl ?_
      exact ⟨rfl, hB⟩
set_option maxHeartbeats 12800000 in
theorem valueAt_c (p x : Int) (s : List Nat) (hs : Bytes 36 s) (hp5 : 2 ≤ p ∧ p ≤ 5) (hx : 0 ≤ x ∧ x ≤ p - 1) (w : World) :
    Calls Try.prog 32 #[.agg (u8s (partsL s)), .int .i64 p, .int .i64 x] w (fun e w' => e = .returned (.agg (u8s (valF p x s))) ∧ Below w.heap.size w w') := by
  have hB := Below.refl w.heap.size w
  have hx4 : x ≤ 4 := by omega
  go_enter Try.func32, Try.ntmps32
  go_upto_region 0 with (fail)
  refine wp_region_lit ?_
  refine ls_op rfl (fun K' hK' => ?_)
  have lz1 := hB.size
  refine wp_new (some 3) rfl (exec_box 62 _ rfl (u8s (partsL s)) rfl) (fun Wz2 nnz3 => ?_)
  have bz4 := nnz3.below (Below.refl _ _) (Nat.le_refl _)
  replace hB := below_after hB bz4
  have hz5 : At Wz2 w.heap.size (.cells (u8s (partsL s)) 62 (0, 0)) := nnz3.at_
  refine hK' _ _ ?_
  clear hK' K' nnz3 bz4
  go_frame
  refine ls_op rfl (fun K' hK' => ?_)
  have lz6 := hB.size
  have lz7 := hz5.lt
  refine wp_new (some 6) rfl (al_impl_Form rfl) (fun Wz8 nnz9 => ?_)
  have bz10 := nnz9.below (Below.refl _ _) (Nat.le_refl _)
  replace hB := below_after hB bz10
  replace hz5 := hz5.after bz10
  have hz11 : At Wz8 Wz2.heap.size (.cells (u8s (List.replicate 9 0)) 55 (0, 0)) := nnz9.at_
  refine hK' _ _ ?_
  clear hK' K' nnz9 bz10
  go_frame
  refine wpList_nil ?_
  go_upto_region 1 with (fail)
  refine wp_region_lit ?_
  refine ls_op rfl (fun K' hK' => ?_)
  have lz12 := hB.size
  have lz13 := hz5.lt
  have lz14 := hz11.lt
  refine wp_new (some 7) rfl (al_impl_Form rfl) (fun Wz15 nnz16 => ?_)
  have bz17 := nnz16.below (Below.refl _ _) (Nat.le_refl _)
  replace hB := below_after hB bz17
  replace hz5 := hz5.after bz17
  replace hz11 := hz11.after bz17
  have hz18 : At Wz15 Wz8.heap.size (.cells (u8s (List.replicate 9 0)) 55 (0, 0)) := nnz16.at_
  refine hK' _ _ ?_
  clear hK' K' nnz16 bz17
  go_frame
  refine wpList_nil ?_
  go_upto_region 2 with (fail)
  refine wp_region_lit ?_
  refine ls_ex (some 10) (.agg (u8s (partsL s))) rfl rfl (exec_load_all 62 _ rfl w.heap.size rfl _ _ _ hz5 Try.underlying62 rfl 36 (by kernel_rfl) ((u8s_size _).trans (partsL_len s))) ?_
  go_frame
  refine ls_ex (some 11) (.int .i64 0) rfl rfl (exec_move _ rfl (.int .i64 0) rfl) ?_
  go_frame
  refine wpList_nil ?_
  go_wp2_with fail
  go_loopw [11] (fun s11 wr => ∃ i : Nat, i ≤ 4 ∧ s11 = .int .i64 i ∧ Below w.heap.size w wr ∧ At wr Wz8.heap.size (.cells (u8s (vIL p x s i)) 55 (0, 0)) ∧ At wr Wz2.heap.size (.cells (u8s (List.replicate 9 0)) 55 (0, 0))) (fun s11 _ => 4 - (intOf s11).toNat)
  case atStart => exact ⟨0, by omega, rfl, hB, hz18, hz11⟩
  case round =>
    clear hB hz5 hz11 hz18
    obtain ⟨i, hi, rfl, hB, h1, h2⟩ := hrel
    by_cases hi4 : i < 4
    · have hpb := powI_b0 hx.1 hx4 (show i ≤ 4 by omega)
      go_upto_region 3 with (fail)
      refine wp_region_lit ?_
      refine ls_ex (some 12) (.bool true) rfl rfl (exec_lss _ _ _ _ rfl i 4 rfl rfl true (decide_eq_true (by omega))) ?_
      go_frame
      refine wpList_nil ?_
      go_upto_region 4 with (fail)
      refine wp_region_lit ?_
      refine ls_ex (some 13) (.int .i64 i) rfl rfl (exec_move _ rfl (.int .i64 i) rfl) ?_
      go_frame
      refine ls_ex (some 14) (.agg (u8s (partL s i))) rfl rfl (exec_index_part4 _ _ rfl i s rfl rfl hi4) ?_
      go_frame
      refine ls_op rfl (fun K' hK' => ?_)
      have lz19 := hB.size
      have lz20 := h1.lt
      have lz21 := h2.lt
      refine wp_new (some 9) rfl (al_impl_Form rfl) (fun Wz22 nnz23 => ?_)
      have bz24 := nnz23.below (Below.refl _ _) (Nat.le_refl _)
      replace hB := below_after hB bz24
      replace h1 := h1.after bz24
      replace h2 := h2.after bz24
      have hz25 : At Wz22 wr.heap.size (.cells (u8s (List.replicate 9 0)) 55 (0, 0)) := nnz23.at_
      refine hK' _ _ ?_
      clear hK' K' nnz23 bz24
      go_frame
      refine ls_ex (some 8) (.int .i64 i) rfl rfl (exec_assign _ rfl (.int .i64 i) rfl) ?_
      go_frame
      refine ls_op rfl (fun K' hK' => ?_)
      refine wp_store_bytes 55 _ _ rfl rfl wr.heap.size rfl (partL s i) rfl _ _ hz25 9 (by kernel_rfl) (partL_len s i) (by simp) (fun Wz26 pz27 => ?_)
      replace hB := pz27.below hB (by omega)
      replace h1 := pz27.other h1 (by omega)
      replace h2 := pz27.other h2 (by omega)
      replace hz25 : At Wz26 wr.heap.size (.cells (u8s (partL s i)) 55 (0, 0)) := pz27.at_
      refine hK' _ _ ?_
      clear hK' K' pz27
      refine wpList_nil ?_
      go_upto_region 5 with (fail)
      refine wp_region_y (zs := [7]) (S := fun w' => Below w.heap.size w w' ∧ At w' wr.heap.size (.cells (u8s (partL s i)) 55 (0, 0))) (S2 := fun w' => At w' Wz8.heap.size (.cells (u8s (vIL p x s i)) 55 (0, 0))) (by kernel_rfl) ?_
      change wpAnyY _ _ _ _ _ _ _ _ _ _ (World.drew _)
      generalize hwdz28 : World.drew _ = wdz28
      replace hB : Below w.heap.size w wdz28 := by rw [← hwdz28]; exact hB.drew
      replace h1 : At wdz28 Wz8.heap.size (.cells (u8s (vIL p x s i)) 55 (0, 0)) := by rw [← hwdz28]; exact h1
      replace h2 : At wdz28 Wz2.heap.size (.cells (u8s (List.replicate 9 0)) 55 (0, 0)) := by rw [← hwdz28]; exact h2
      replace hz25 : At wdz28 wr.heap.size (.cells (u8s (partL s i)) 55 (0, 0)) := by rw [← hwdz28]; exact hz25
      clear hwdz28
      refine y_yield 0 (some 15) (.int .i64 p) rfl (by kernel_rfl) (by kernel_rfl) (by kernel_rfl) (fun _ _ _ h => h) rfl rfl ⟨hB, hz25⟩ (fun w' h' => exec_move _ rfl (.int .i64 p) rfl) ?_
      go_frame
      refine y_yield3 1 (some 16) (.agg (u8s (vIL p x s i))) rfl 8 (by kernel_rfl) (by kernel_rfl) (by kernel_rfl) (by kernel_rfl) (by kernel_rfl) (fun _ _ _ h => h) rfl rfl ⟨hB, hz25⟩ h1 (fun w' h' h2' => exec_load_all 55 _ rfl Wz8.heap.size rfl _ _ _ h2' Try.underlying55 rfl 9 (by kernel_rfl) ((u8s_size _).trans (vIL_len p x s i))) ?_
      go_frame
      refine y_yield 2 (some 17) (.int .i64 x) rfl (by kernel_rfl) (by kernel_rfl) (by kernel_rfl) (fun _ _ _ h => h) rfl rfl ⟨hB, hz25⟩ (fun w' h' => exec_move _ rfl (.int .i64 x) rfl) ?_
      go_frame
      refine y_yield 3 (some 18) (.int .i64 i) rfl (by kernel_rfl) (by kernel_rfl) (by kernel_rfl) (fun _ _ _ h => h) rfl rfl ⟨hB, hz25⟩ (fun w' h' => exec_move _ rfl (.int .i64 i) rfl) ?_
      go_frame
      refine y_yield 5 (some 20) (.agg (u8s (partL s i))) rfl (by kernel_rfl) (by kernel_rfl) (by kernel_rfl) (fun _ _ _ h => h) rfl rfl ⟨hB, hz25⟩ (fun w' h' => exec_load_all 55 _ rfl wr.heap.size rfl _ _ _ h'.2 Try.underlying55 rfl 9 (by kernel_rfl) ((u8s_size _).trans (partL_len s i))) ?_
      go_frame
      refine y_oper 4 (by kernel_rfl) rfl rfl (fun K' hK' => ?_)
      have lz31 := hB.size
      have lz32 := h1.lt
      have lz33 := h2.lt
      have lz34 := hz25.lt
      refine wp_call2 (some 19) rfl 57 _ _ _ rfl (fun args w => by kernel_rfl) _ _ rfl rfl _ (powerOf0_c x i hx.1 hx4 (by omega) _) (fun e Wz29 h => ?_)
      obtain ⟨rfl, bz30⟩ := h
      replace hB := below_after hB bz30
      replace h1 := h1.after bz30
      replace h2 := h2.after bz30
      replace hz25 := hz25.after bz30
      clear bz30
      refine ⟨_, rfl, ?_⟩
      refine hK' _ _ ⟨hB, hz25⟩ (fun _ => h1) ?_
      clear hK' K'
      go_frame
      refine y_oper 6 (by kernel_rfl) rfl rfl (fun K' hK' => ?_)
      have lz37 := hB.size
      have lz38 := h1.lt
      have lz39 := h2.lt
      have lz40 := hz25.lt
      refine wp_call4 (some 21) rfl 56 _ _ _ _ _ rfl (fun args w => by kernel_rfl) _ _ _ _ rfl rfl rfl rfl _ (addedForm_c p (powI x i) (vIL p x s i) (partL s i) (vIL_bytes x s hp5 i) (partL_bytes hs i) _ (by omega) hp5.2 hpb.1 (by omega)) (fun e Wz35 h => ?_)
      obtain ⟨rfl, bz36⟩ := h
      replace hB := below_after hB bz36
      replace h1 := h1.after bz36
      replace h2 := h2.after bz36
      replace hz25 := hz25.after bz36
      rw [show adF p (powI x i) (vIL p x s i) (partL s i) = vIL p x s (i + 1) from rfl]
      clear bz36
      refine ⟨_, rfl, ?_⟩
      refine hK' _ _ ⟨hB, hz25⟩ (fun _ => h1) ?_
      clear hK' K'
      go_frame
      refine y_oper 7 (by kernel_rfl) rfl rfl (fun K' hK' => ?_)
      refine wp_store_bytes 55 _ _ rfl rfl Wz8.heap.size rfl (vIL p x s (i + 1)) rfl _ _ h1 9 (by kernel_rfl) (vIL_len p x s (i + 1)) (vIL_len p x s i) (fun Wz41 pz42 => ?_)
      replace hB := pz42.below hB (by omega)
      replace h2 := pz42.other h2 (by omega)
      replace hz25 := pz42.other hz25 (by omega)
      replace h1 : At Wz41 Wz8.heap.size (.cells (u8s (vIL p x s (i + 1))) 55 (0, 0)) := pz42.at_
      refine hK' _ _ ⟨hB, hz25⟩ (fun h => absurd (by decide) h) ?_
      clear hK' K' pz42
      refine y_done (by kernel_rfl) ?_ _
      go_upto_region 6 with (fail)
      refine wp_region_lit ?_
      refine ls_ex (some 22) (.int .i64 (i + 1)) rfl rfl (exec_add _ _ _ _ rfl i 1 (i + 1) rfl rfl (IntWalk.i64_in _ (by omega))) ?_
      go_frame
      refine ls_ex (some 11) (.int .i64 (i + 1)) rfl rfl (exec_move _ rfl (.int .i64 (i + 1)) rfl) ?_
      go_frame
      refine wpList_nil ?_
      go_wp2_with fail
      go_roundw
      case rel => exact ⟨i + 1, by omega, by go_num, hB, h1, h2⟩
      case measure => simp [intOf]; omega
    · have HR : Hid (vIL p x s i = valF p x s) := Lib.hid (by rw [show i = 4 by omega]; exact vIL_val x s hp5)
      rw [HR.out] at h1
      go_upto_region 3 with (fail)
      refine wp_region_lit ?_
      refine ls_ex (some 12) (.bool false) rfl rfl (exec_lss _ _ _ _ rfl i 4 rfl rfl false (decide_eq_false (by omega))) ?_
      go_frame
      refine wpList_nil ?_
      go_upto_region 7 with (fail)
      refine wp_region_lit ?_
      refine ls_ex (some 23) (.agg (u8s (valF p x s))) rfl rfl (exec_load_all 55 _ rfl Wz8.heap.size rfl _ _ _ h1 Try.underlying55 rfl 9 (by kernel_rfl) ((u8s_size _).trans (valF_len p x s))) ?_
      go_frame
      refine ls_op rfl (fun K' hK' => ?_)
      refine wp_store_bytes 55 _ _ rfl rfl Wz2.heap.size rfl (valF p x s) rfl _ _ h2 9 (by kernel_rfl) (valF_len p x s) (by simp) (fun Wz43 pz44 => ?_)
      replace hB := pz44.below hB (by omega)
      replace h1 := pz44.other h1 (by omega)
      replace h2 : At Wz43 Wz2.heap.size (.cells (u8s (valF p x s)) 55 (0, 0)) := pz44.at_
      refine hK' _ _ ?_
      clear hK' K' pz44
      refine wpList_nil ?_
      go_wp2_with fail
      refine bodyPost_ret (results_at rfl _ _ Wz2.heap.size _ _ _ rfl h2 Try.underlying55 rfl 9 (by kernel_rfl) ((u8s_size _).trans (valF_len p x s))) rfl ?_
      exact ⟨rfl, hB⟩
set_option maxHeartbeats 4000000 in
theorem specValue_a (p n m k : Int) (A : Option Addr) (c : Nat) (ts : List (List Nat)) (x : Int) (w : World) (hR : RdT w A ts) (hlen : ts.length ≤ 1048576) (hs : borderB p n m k ts = false) :
    Calls Try.prog 8 #[.agg #[.int .i64 p, .int .i64 n, .int .i64 m, .int .i64 k, .slice A ts.length c], .int .i64 x] w (ResS w (outZ (vobCode p n m k ts x) p) (outZ (vobCode p n m k ts x) n) (outZ (vobCode p n m k ts x) m) (outZ (vobCode p n m k ts x) k) (outL (vobCode p n m k ts x) (vobL p x ts)) (vobCode p n m k ts x)) := by
  have hB := Below.refl w.heap.size w
  have HC : Hid (vobCode p n m k ts x = 1) := Lib.hid (by unfold vobCode; rw [hs]; rfl)
  have Hs := Lib.hid hs
  clear hs
  go_enter Try.func8, Try.ntmps8
  go_upto_region 0 with (fail)
  refine wp_region_lit ?_
  refine ls_op rfl (fun K' hK' => ?_)
  have lz1 := hB.size
  refine wp_new (some 2) rfl (exec_box 33 _ rfl (#[.int .i64 p, .int .i64 n, .int .i64 m, .int .i64 k, .slice A ts.length c]) rfl) (fun Wz2 nnz3 => ?_)
  have bz4 := nnz3.below (Below.refl _ _) (Nat.le_refl _)
  replace hB := below_after hB bz4
  have hz5 : At Wz2 w.heap.size (.cells #[.int .i64 p, .int .i64 n, .int .i64 m, .int .i64 k, .slice A ts.length c] 33 (0, 0)) := nnz3.at_
  refine hK' _ _ ?_
  clear hK' K' nnz3 bz4
  go_frame
  refine ls_op rfl (fun K' hK' => ?_)
  have lz6 := hB.size
  have lz7 := hz5.lt
  refine wp_new (some 4) rfl (al_impl_Scheme rfl) (fun Wz8 nnz9 => ?_)
  have bz10 := nnz9.below (Below.refl _ _) (Nat.le_refl _)
  replace hB := below_after hB bz10
  replace hz5 := hz5.after bz10
  have hz11 : At Wz8 Wz2.heap.size (.cells #[.int .i64 0, .int .i64 0, .int .i64 0, .int .i64 0, .slice none 0 0] 28 (0, 0)) := nnz9.at_
  refine hK' _ _ ?_
  clear hK' K' nnz9 bz10
  go_frame
  refine ls_ex (some 5) (.int .i64 0) rfl rfl (exec_assign _ rfl (.int .i64 0) rfl) ?_
  go_frame
  refine wpList_nil ?_
  go_upto_region 1 with (fail)
  refine wp_region_lit ?_
  refine ls_ex (some 11) (.agg #[.int .i64 p, .int .i64 n, .int .i64 m, .int .i64 k, .slice A ts.length c]) rfl rfl (exec_load_all 33 _ rfl w.heap.size rfl _ _ _ hz5 Try.underlying33 rfl 5 (by kernel_rfl) rfl) ?_
  go_frame
  refine ls_op rfl (fun K' hK' => ?_)
  have lz14 := hB.size
  have lz15 := hz5.lt
  have lz16 := hz11.lt
  refine wp_call1 (some 12) rfl 23 _ _ rfl (fun args w => by kernel_rfl) _ rfl _ (l08Is_c p n m k A c ts _ (hR.keep hB) hlen) (fun e Wz12 h => ?_)
  obtain ⟨rfl, bz13⟩ := h
  replace hB := below_after hB bz13
  replace hz5 := hz5.after bz13
  replace hz11 := hz11.after bz13
  rw [Hs.out]
  clear bz13
  refine ⟨_, rfl, ?_⟩
  refine hK' _ _ ?_
  clear hK' K'
  go_frame
  refine ls_ex (some 13) (.bool true) rfl rfl (exec_not _ _ rfl false rfl) ?_
  go_frame
  refine ls_ex (some 10) (.bool true) rfl rfl (exec_assign _ rfl (.bool true) rfl) ?_
  go_frame
  refine wpList_nil ?_
  go_upto_region 2 with (fail)
  refine wp_region_lit ?_
  refine ls_ex (some 14) (.agg #[.int .i64 0, .int .i64 0, .int .i64 0, .int .i64 0, .slice none 0 0]) rfl rfl (exec_build_nil 28 rfl _ (by kernel_rfl)) ?_
  go_frame
  refine ls_op rfl (fun K' hK' => ?_)
  refine wp_store_all 28 _ _ rfl rfl Wz2.heap.size rfl #[.int .i64 0, .int .i64 0, .int .i64 0, .int .i64 0, .slice none 0 0] rfl _ _ hz11 5 (by kernel_rfl) rfl rfl (one5 _ _ _ _ _ _ _) (fun Wz17 pz18 => ?_)
  replace hB := pz18.below hB (by omega)
  replace hz5 := pz18.other hz5 (by omega)
  replace hz11 : At Wz17 Wz2.heap.size (.cells #[.int .i64 0, .int .i64 0, .int .i64 0, .int .i64 0, .slice none 0 0] 28 (0, 0)) := pz18.at_
  refine hK' _ _ ?_
  clear hK' K' pz18
  refine ls_ex (some 5) (.int .i64 1) rfl rfl (exec_assign _ rfl (.int .i64 1) rfl) ?_
  go_frame
  refine wpList_nil ?_
  go_wp2_with fail
  refine bodyPost_ret (results_at2 rfl _ _ Wz2.heap.size _ _ _ rfl _ rfl hz11 Try.underlying28 rfl 5 (by kernel_rfl) rfl) rfl ?_
  unfold ResS outZ outL
  rw [HC.out]
  exact ⟨_, rfl, Own.nil _ _, hB⟩
set_option maxHeartbeats 4000000 in
theorem specValue_b (p n m k : Int) (A : Option Addr) (c : Nat) (ts : List (List Nat)) (x : Int) (w : World) (hR : RdT w A ts) (hlen : ts.length ≤ 1048576) (hs : borderB p n m k ts = true) (hin : (decide (0 ≤ x) && decide (x ≤ p - 1)) = false) :
    Calls Try.prog 8 #[.agg #[.int .i64 p, .int .i64 n, .int .i64 m, .int .i64 k, .slice A ts.length c], .int .i64 x] w (ResS w (outZ (vobCode p n m k ts x) p) (outZ (vobCode p n m k ts x) n) (outZ (vobCode p n m k ts x) m) (outZ (vobCode p n m k ts x) k) (outL (vobCode p n m k ts x) (vobL p x ts)) (vobCode p n m k ts x)) := by
  have hB := Below.refl w.heap.size w
  have hp5 := primeB_b2 (sizesB_parts (borderB_all hs).1).1
  have HC : Hid (vobCode p n m k ts x = 2) := Lib.hid (by unfold vobCode; rw [hs, hin]; rfl)
  have Hs := Lib.hid hs
  have Hin := Lib.hid hin
  have Hin3 : Hid (inB x p = false) := Lib.hid (by rw [← hin]; unfold inB; rw [show decide (x < p) = decide (x ≤ p - 1) from decide_eq_decide.2 (by omega)])
  clear hs hin
  go_enter Try.func8, Try.ntmps8
  go_upto_region 0 with (fail)
  refine wp_region_lit ?_
  refine ls_op rfl (fun K' hK' => ?_)
  have lz1 := hB.size
  refine wp_new (some 2) rfl (exec_box 33 _ rfl (#[.int .i64 p, .int .i64 n, .int .i64 m, .int .i64 k, .slice A ts.length c]) rfl) (fun Wz2 nnz3 => ?_)
  have bz4 := nnz3.below (Below.refl _ _) (Nat.le_refl _)
  replace hB := below_after hB bz4
  have hz5 : At Wz2 w.heap.size (.cells #[.int .i64 p, .int .i64 n, .int .i64 m, .int .i64 k, .slice A ts.length c] 33 (0, 0)) := nnz3.at_
  refine hK' _ _ ?_
  clear hK' K' nnz3 bz4
  go_frame
  refine ls_op rfl (fun K' hK' => ?_)
  have lz6 := hB.size
  have lz7 := hz5.lt
  refine wp_new (some 4) rfl (al_impl_Scheme rfl) (fun Wz8 nnz9 => ?_)
  have bz10 := nnz9.below (Below.refl _ _) (Nat.le_refl _)
  replace hB := below_after hB bz10
  replace hz5 := hz5.after bz10
  have hz11 : At Wz8 Wz2.heap.size (.cells #[.int .i64 0, .int .i64 0, .int .i64 0, .int .i64 0, .slice none 0 0] 28 (0, 0)) := nnz9.at_
  refine hK' _ _ ?_
  clear hK' K' nnz9 bz10
  go_frame
  refine ls_ex (some 5) (.int .i64 0) rfl rfl (exec_assign _ rfl (.int .i64 0) rfl) ?_
  go_frame
  refine wpList_nil ?_
  go_upto_region 1 with (fail)
  refine wp_region_lit ?_
  refine ls_ex (some 11) (.agg #[.int .i64 p, .int .i64 n, .int .i64 m, .int .i64 k, .slice A ts.length c]) rfl rfl (exec_load_all 33 _ rfl w.heap.size rfl _ _ _ hz5 Try.underlying33 rfl 5 (by kernel_rfl) rfl) ?_
  go_frame
  refine ls_op rfl (fun K' hK' => ?_)
  have lz14 := hB.size
  have lz15 := hz5.lt
  have lz16 := hz11.lt
  refine wp_call1 (some 12) rfl 23 _ _ rfl (fun args w => by kernel_rfl) _ rfl _ (l08Is_c p n m k A c ts _ (hR.keep hB) hlen) (fun e Wz12 h => ?_)
  obtain ⟨rfl, bz13⟩ := h
  replace hB := below_after hB bz13
  replace hz5 := hz5.after bz13
  replace hz11 := hz11.after bz13
  rw [Hs.out]
  clear bz13
  refine ⟨_, rfl, ?_⟩
  refine hK' _ _ ?_
  clear hK' K'
  go_frame
  refine ls_ex (some 13) (.bool false) rfl rfl (exec_not _ _ rfl true rfl) ?_
  go_frame
  refine ls_ex (some 10) (.bool false) rfl rfl (exec_assign _ rfl (.bool false) rfl) ?_
  go_frame
  refine wpList_nil ?_
  go_upto_region 3 with (fail)
  refine wp_region_lit ?_
  refine ls_ex (some 16) (.int .i64 x) rfl rfl (exec_move _ rfl (.int .i64 x) rfl) ?_
  go_frame
  refine ls_ex (some 17) (.pointer (some ⟨w.heap.size, 0, none⟩)) rfl rfl (exec_fieldAddr 33 _ 0 rfl _ (by kernel_rfl)) ?_
  go_frame
  refine ls_ex (some 18) (.int .i64 p) rfl rfl (exec_load_one 2 _ rfl w.heap.size 0 rfl (.int .i64 p) _ Try.underlying2 rfl (hz5.at_ 0)) ?_
  go_frame
  refine ls_ex (some 19) (.int .i64 (p - 1)) rfl rfl (exec_sub _ _ _ _ rfl p 1 (p - 1) rfl rfl (IntWalk.i64_in _ (by omega))) ?_
  go_frame
  refine ls_op rfl (fun K' hK' => ?_)
  have lz19 := hB.size
  have lz20 := hz5.lt
  have lz21 := hz11.lt
  refine wp_call3 (some 20) rfl 24 _ _ _ _ rfl (fun args w => by kernel_rfl) _ _ _ rfl rfl rfl _ (l01In_c x 0 (p - 1) _) (fun e Wz17 h => ?_)
  obtain ⟨rfl, rfl⟩ := h
  rw [Hin.out]
  refine ⟨_, rfl, ?_⟩
  refine hK' _ _ ?_
  clear hK' K'
  go_frame
  refine ls_ex (some 21) (.bool true) rfl rfl (exec_not _ _ rfl false rfl) ?_
  go_frame
  refine ls_ex (some 15) (.bool true) rfl rfl (exec_assign _ rfl (.bool true) rfl) ?_
  go_frame
  refine wpList_nil ?_
  go_upto_region 4 with (fail)
  refine wp_region_lit ?_
  refine ls_ex (some 22) (.agg #[.int .i64 0, .int .i64 0, .int .i64 0, .int .i64 0, .slice none 0 0]) rfl rfl (exec_build_nil 28 rfl _ (by kernel_rfl)) ?_
  go_frame
  refine ls_op rfl (fun K' hK' => ?_)
  refine wp_store_all 28 _ _ rfl rfl Wz2.heap.size rfl #[.int .i64 0, .int .i64 0, .int .i64 0, .int .i64 0, .slice none 0 0] rfl _ _ hz11 5 (by kernel_rfl) rfl rfl (one5 _ _ _ _ _ _ _) (fun Wz22 pz23 => ?_)
  replace hB := pz23.below hB (by omega)
  replace hz5 := pz23.other hz5 (by omega)
  replace hz11 : At Wz22 Wz2.heap.size (.cells #[.int .i64 0, .int .i64 0, .int .i64 0, .int .i64 0, .slice none 0 0] 28 (0, 0)) := pz23.at_
  refine hK' _ _ ?_
  clear hK' K' pz23
  refine ls_ex (some 5) (.int .i64 2) rfl rfl (exec_assign _ rfl (.int .i64 2) rfl) ?_
  go_frame
  refine wpList_nil ?_
  go_wp2_with fail
  refine bodyPost_ret (results_at2 rfl _ _ Wz2.heap.size _ _ _ rfl _ rfl hz11 Try.underlying28 rfl 5 (by kernel_rfl) rfl) rfl ?_
  unfold ResS outZ outL
  rw [HC.out]
  exact ⟨_, rfl, Own.nil _ _, hB⟩
set_option maxHeartbeats 4000000 in
theorem implValue_a (p n m k : Int) (A : Option Addr) (c : Nat) (ts : List (List Nat)) (x : Int) (w : World) (hR : RdT w A ts) (hlen : ts.length ≤ 1048576) (hs : borderB p n m k ts = false) :
    Calls Try.prog 10 #[.agg #[.int .i64 p, .int .i64 n, .int .i64 m, .int .i64 k, .slice A ts.length c], .int .i64 x] w (ResS w (outZ (vobCode p n m k ts x) p) (outZ (vobCode p n m k ts x) n) (outZ (vobCode p n m k ts x) m) (outZ (vobCode p n m k ts x) k) (outL (vobCode p n m k ts x) (vobL p x ts)) (vobCode p n m k ts x)) := by
  have hB := Below.refl w.heap.size w
  have HC : Hid (vobCode p n m k ts x = 1) := Lib.hid (by unfold vobCode; rw [hs]; rfl)
  have Hs := Lib.hid hs
  clear hs
  go_enter Try.func10, Try.ntmps10
  go_upto_region 0 with (fail)
  refine wp_region_lit ?_
  refine ls_op rfl (fun K' hK' => ?_)
  have lz1 := hB.size
  refine wp_new (some 2) rfl (exec_box 33 _ rfl (#[.int .i64 p, .int .i64 n, .int .i64 m, .int .i64 k, .slice A ts.length c]) rfl) (fun Wz2 nnz3 => ?_)
  have bz4 := nnz3.below (Below.refl _ _) (Nat.le_refl _)
  replace hB := below_after hB bz4
  have hz5 : At Wz2 w.heap.size (.cells #[.int .i64 p, .int .i64 n, .int .i64 m, .int .i64 k, .slice A ts.length c] 33 (0, 0)) := nnz3.at_
  refine hK' _ _ ?_
  clear hK' K' nnz3 bz4
  go_frame
  refine ls_op rfl (fun K' hK' => ?_)
  have lz6 := hB.size
  have lz7 := hz5.lt
  refine wp_new (some 4) rfl (al_impl_Scheme rfl) (fun Wz8 nnz9 => ?_)
  have bz10 := nnz9.below (Below.refl _ _) (Nat.le_refl _)
  replace hB := below_after hB bz10
  replace hz5 := hz5.after bz10
  have hz11 : At Wz8 Wz2.heap.size (.cells #[.int .i64 0, .int .i64 0, .int .i64 0, .int .i64 0, .slice none 0 0] 28 (0, 0)) := nnz9.at_
  refine hK' _ _ ?_
  clear hK' K' nnz9 bz10
  go_frame
  refine ls_ex (some 5) (.int .i64 0) rfl rfl (exec_assign _ rfl (.int .i64 0) rfl) ?_
  go_frame
  refine wpList_nil ?_
  go_upto_region 1 with (fail)
  refine wp_region_lit ?_
  refine ls_ex (some 9) (.agg #[.int .i64 p, .int .i64 n, .int .i64 m, .int .i64 k, .slice A ts.length c]) rfl rfl (exec_load_all 33 _ rfl w.heap.size rfl _ _ _ hz5 Try.underlying33 rfl 5 (by kernel_rfl) rfl) ?_
  go_frame
  refine ls_op rfl (fun K' hK' => ?_)
  have lz14 := hB.size
  have lz15 := hz5.lt
  have lz16 := hz11.lt
  refine wp_call1 (some 10) rfl 29 _ _ rfl (fun args w => by kernel_rfl) _ rfl _ (implIsBorder_c p n m k A c ts _ (hR.keep hB) hlen) (fun e Wz12 h => ?_)
  obtain ⟨rfl, bz13⟩ := h
  replace hB := below_after hB bz13
  replace hz5 := hz5.after bz13
  replace hz11 := hz11.after bz13
  rw [Hs.out]
  clear bz13
  refine ⟨_, rfl, ?_⟩
  refine hK' _ _ ?_
  clear hK' K'
  go_frame
  refine ls_ex (some 11) (.bool true) rfl rfl (exec_not _ _ rfl false rfl) ?_
  go_frame
  refine wpList_nil ?_
  go_upto_region 2 with (fail)
  refine wp_region_lit ?_
  refine ls_ex (some 12) (.agg #[.int .i64 0, .int .i64 0, .int .i64 0, .int .i64 0, .slice none 0 0]) rfl rfl (exec_build_nil 28 rfl _ (by kernel_rfl)) ?_
  go_frame
  refine ls_op rfl (fun K' hK' => ?_)
  refine wp_store_all 28 _ _ rfl rfl Wz2.heap.size rfl #[.int .i64 0, .int .i64 0, .int .i64 0, .int .i64 0, .slice none 0 0] rfl _ _ hz11 5 (by kernel_rfl) rfl rfl (one5 _ _ _ _ _ _ _) (fun Wz17 pz18 => ?_)
  replace hB := pz18.below hB (by omega)
  replace hz5 := pz18.other hz5 (by omega)
  replace hz11 : At Wz17 Wz2.heap.size (.cells #[.int .i64 0, .int .i64 0, .int .i64 0, .int .i64 0, .slice none 0 0] 28 (0, 0)) := pz18.at_
  refine hK' _ _ ?_
  clear hK' K' pz18
  refine ls_ex (some 5) (.int .i64 1) rfl rfl (exec_assign _ rfl (.int .i64 1) rfl) ?_
  go_frame
  refine wpList_nil ?_
  go_wp2_with fail
  refine bodyPost_ret (results_at2 rfl _ _ Wz2.heap.size _ _ _ rfl _ rfl hz11 Try.underlying28 rfl 5 (by kernel_rfl) rfl) rfl ?_
  unfold ResS outZ outL
  rw [HC.out]
  exact ⟨_, rfl, Own.nil _ _, hB⟩
set_option maxHeartbeats 4000000 in
theorem implValue_b (p n m k : Int) (A : Option Addr) (c : Nat) (ts : List (List Nat)) (x : Int) (w : World) (hR : RdT w A ts) (hlen : ts.length ≤ 1048576) (hs : borderB p n m k ts = true) (hin : (decide (0 ≤ x) && decide (x ≤ p - 1)) = false) :
    Calls Try.prog 10 #[.agg #[.int .i64 p, .int .i64 n, .int .i64 m, .int .i64 k, .slice A ts.length c], .int .i64 x] w (ResS w (outZ (vobCode p n m k ts x) p) (outZ (vobCode p n m k ts x) n) (outZ (vobCode p n m k ts x) m) (outZ (vobCode p n m k ts x) k) (outL (vobCode p n m k ts x) (vobL p x ts)) (vobCode p n m k ts x)) := by
  have hB := Below.refl w.heap.size w
  have hp5 := primeB_b2 (sizesB_parts (borderB_all hs).1).1
  have HC : Hid (vobCode p n m k ts x = 2) := Lib.hid (by unfold vobCode; rw [hs, hin]; rfl)
  have Hs := Lib.hid hs
  have Hin := Lib.hid hin
  have Hin3 : Hid (inB x p = false) := Lib.hid (by rw [← hin]; unfold inB; rw [show decide (x < p) = decide (x ≤ p - 1) from decide_eq_decide.2 (by omega)])
  clear hs hin
  go_enter Try.func10, Try.ntmps10
  go_upto_region 0 with (fail)
  refine wp_region_lit ?_
  refine ls_op rfl (fun K' hK' => ?_)
  have lz1 := hB.size
  refine wp_new (some 2) rfl (exec_box 33 _ rfl (#[.int .i64 p, .int .i64 n, .int .i64 m, .int .i64 k, .slice A ts.length c]) rfl) (fun Wz2 nnz3 => ?_)
  have bz4 := nnz3.below (Below.refl _ _) (Nat.le_refl _)
  replace hB := below_after hB bz4
  have hz5 : At Wz2 w.heap.size (.cells #[.int .i64 p, .int .i64 n, .int .i64 m, .int .i64 k, .slice A ts.length c] 33 (0, 0)) := nnz3.at_
  refine hK' _ _ ?_
  clear hK' K' nnz3 bz4
  go_frame
  refine ls_op rfl (fun K' hK' => ?_)
  have lz6 := hB.size
  have lz7 := hz5.lt
  refine wp_new (some 4) rfl (al_impl_Scheme rfl) (fun Wz8 nnz9 => ?_)
  have bz10 := nnz9.below (Below.refl _ _) (Nat.le_refl _)
  replace hB := below_after hB bz10
  replace hz5 := hz5.after bz10
  have hz11 : At Wz8 Wz2.heap.size (.cells #[.int .i64 0, .int .i64 0, .int .i64 0, .int .i64 0, .slice none 0 0] 28 (0, 0)) := nnz9.at_
  refine hK' _ _ ?_
  clear hK' K' nnz9 bz10
  go_frame
  refine ls_ex (some 5) (.int .i64 0) rfl rfl (exec_assign _ rfl (.int .i64 0) rfl) ?_
  go_frame
  refine wpList_nil ?_
  go_upto_region 1 with (fail)
  refine wp_region_lit ?_
  refine ls_ex (some 9) (.agg #[.int .i64 p, .int .i64 n, .int .i64 m, .int .i64 k, .slice A ts.length c]) rfl rfl (exec_load_all 33 _ rfl w.heap.size rfl _ _ _ hz5 Try.underlying33 rfl 5 (by kernel_rfl) rfl) ?_
  go_frame
  refine ls_op rfl (fun K' hK' => ?_)
  have lz14 := hB.size
  have lz15 := hz5.lt
  have lz16 := hz11.lt
  refine wp_call1 (some 10) rfl 29 _ _ rfl (fun args w => by kernel_rfl) _ rfl _ (implIsBorder_c p n m k A c ts _ (hR.keep hB) hlen) (fun e Wz12 h => ?_)
  obtain ⟨rfl, bz13⟩ := h
  replace hB := below_after hB bz13
  replace hz5 := hz5.after bz13
  replace hz11 := hz11.after bz13
  rw [Hs.out]
  clear bz13
  refine ⟨_, rfl, ?_⟩
  refine hK' _ _ ?_
  clear hK' K'
  go_frame
  refine ls_ex (some 11) (.bool false) rfl rfl (exec_not _ _ rfl true rfl) ?_
  go_frame
  refine wpList_nil ?_
  go_upto_region 3 with (fail)
  refine wp_region_lit ?_
  refine ls_ex (some 13) (.int .i64 x) rfl rfl (exec_move _ rfl (.int .i64 x) rfl) ?_
  go_frame
  refine ls_ex (some 14) (.pointer (some ⟨w.heap.size, 0, none⟩)) rfl rfl (exec_fieldAddr 33 _ 0 rfl _ (by kernel_rfl)) ?_
  go_frame
  refine ls_ex (some 15) (.int .i64 p) rfl rfl (exec_load_one 2 _ rfl w.heap.size 0 rfl (.int .i64 p) _ Try.underlying2 rfl (hz5.at_ 0)) ?_
  go_frame
  refine ls_op rfl (fun K' hK' => ?_)
  have lz19 := hB.size
  have lz20 := hz5.lt
  have lz21 := hz11.lt
  refine wp_call2 (some 16) rfl 30 _ _ _ rfl (fun args w => by kernel_rfl) _ _ rfl rfl _ (isIndex_c x p _) (fun e Wz17 h => ?_)
  obtain ⟨rfl, rfl⟩ := h
  rw [Hin3.out]
  refine ⟨_, rfl, ?_⟩
  refine hK' _ _ ?_
  clear hK' K'
  go_frame
  refine ls_ex (some 17) (.bool true) rfl rfl (exec_not _ _ rfl false rfl) ?_
  go_frame
  refine wpList_nil ?_
  go_upto_region 4 with (fail)
  refine wp_region_lit ?_
  refine ls_ex (some 18) (.agg #[.int .i64 0, .int .i64 0, .int .i64 0, .int .i64 0, .slice none 0 0]) rfl rfl (exec_build_nil 28 rfl _ (by kernel_rfl)) ?_
  go_frame
  refine ls_op rfl (fun K' hK' => ?_)
  refine wp_store_all 28 _ _ rfl rfl Wz2.heap.size rfl #[.int .i64 0, .int .i64 0, .int .i64 0, .int .i64 0, .slice none 0 0] rfl _ _ hz11 5 (by kernel_rfl) rfl rfl (one5 _ _ _ _ _ _ _) (fun Wz22 pz23 => ?_)
  replace hB := pz23.below hB (by omega)
  replace hz5 := pz23.other hz5 (by omega)
  replace hz11 : At Wz22 Wz2.heap.size (.cells #[.int .i64 0, .int .i64 0, .int .i64 0, .int .i64 0, .slice none 0 0] 28 (0, 0)) := pz23.at_
  refine hK' _ _ ?_
  clear hK' K' pz23
  refine ls_ex (some 5) (.int .i64 2) rfl rfl (exec_assign _ rfl (.int .i64 2) rfl) ?_
  go_frame
  refine wpList_nil ?_
  go_wp2_with fail
  refine bodyPost_ret (results_at2 rfl _ _ Wz2.heap.size _ _ _ rfl _ rfl hz11 Try.underlying28 rfl 5 (by kernel_rfl) rfl) rfl ?_
  unfold ResS outZ outL
  rw [HC.out]
  exact ⟨_, rfl, Own.nil _ _, hB⟩
set_option maxHeartbeats 12800000 in
theorem specValue_v (p n m k : Int) (A : Option Addr) (c : Nat) (ts : List (List Nat)) (x : Int) (w : World) (hR : RdT w A ts) (hlen : ts.length ≤ 1048576) (hs : borderB p n m k ts = true) (hin : (decide (0 ≤ x) && decide (x ≤ p - 1)) = true) :
    Calls Try.prog 8 #[.agg #[.int .i64 p, .int .i64 n, .int .i64 m, .int .i64 k, .slice A ts.length c], .int .i64 x] w (ResS w (outZ (vobCode p n m k ts x) p) (outZ (vobCode p n m k ts x) n) (outZ (vobCode p n m k ts x) m) (outZ (vobCode p n m k ts x) k) (outL (vobCode p n m k ts x) (vobL p x ts)) (vobCode p n m k ts x)) := by
  have hB := Below.refl w.heap.size w
  have hp5 := primeB_b2 (sizesB_parts (borderB_all hs).1).1
  have hx : 0 ≤ x ∧ x ≤ p - 1 := by simpa only [Bool.and_eq_true, decide_eq_true_eq] using hin
  have HC : Hid (vobCode p n m k ts x = 0) := Lib.hid (by unfold vobCode; rw [hs, hin]; rfl)
  have hl30 := (borderB_all hs).2.1
  have Hs := Lib.hid hs
  have Hin := Lib.hid hin
  have Hin3 : Hid (inB x p = true) := Lib.hid (by rw [← hin]; unfold inB; rw [show decide (x < p) = decide (x ≤ p - 1) from decide_eq_decide.2 (by omega)])
  clear hs hin
  go_enter Try.func8, Try.ntmps8
  go_upto_region 0 with (fail)
  refine wp_region_lit ?_
  refine ls_op rfl (fun K' hK' => ?_)
  have lz1 := hB.size
  refine wp_new (some 2) rfl (exec_box 33 _ rfl (#[.int .i64 p, .int .i64 n, .int .i64 m, .int .i64 k, .slice A ts.length c]) rfl) (fun Wz2 nnz3 => ?_)
  have bz4 := nnz3.below (Below.refl _ _) (Nat.le_refl _)
  replace hB := below_after hB bz4
  have hz5 : At Wz2 w.heap.size (.cells #[.int .i64 p, .int .i64 n, .int .i64 m, .int .i64 k, .slice A ts.length c] 33 (0, 0)) := nnz3.at_
  refine hK' _ _ ?_
  clear hK' K' nnz3 bz4
  go_frame
  refine ls_op rfl (fun K' hK' => ?_)
  have lz6 := hB.size
  have lz7 := hz5.lt
  refine wp_new (some 4) rfl (al_impl_Scheme rfl) (fun Wz8 nnz9 => ?_)
  have bz10 := nnz9.below (Below.refl _ _) (Nat.le_refl _)
  replace hB := below_after hB bz10
  replace hz5 := hz5.after bz10
  have hz11 : At Wz8 Wz2.heap.size (.cells #[.int .i64 0, .int .i64 0, .int .i64 0, .int .i64 0, .slice none 0 0] 28 (0, 0)) := nnz9.at_
  refine hK' _ _ ?_
  clear hK' K' nnz9 bz10
  go_frame
  refine ls_ex (some 5) (.int .i64 0) rfl rfl (exec_assign _ rfl (.int .i64 0) rfl) ?_
  go_frame
  refine wpList_nil ?_
  go_upto_region 1 with (fail)
  refine wp_region_lit ?_
  refine ls_ex (some 11) (.agg #[.int .i64 p, .int .i64 n, .int .i64 m, .int .i64 k, .slice A ts.length c]) rfl rfl (exec_load_all 33 _ rfl w.heap.size rfl _ _ _ hz5 Try.underlying33 rfl 5 (by kernel_rfl) rfl) ?_
  go_frame
  refine ls_op rfl (fun K' hK' => ?_)
  have lz14 := hB.size
  have lz15 := hz5.lt
  have lz16 := hz11.lt
  refine wp_call1 (some 12) rfl 23 _ _ rfl (fun args w => by kernel_rfl) _ rfl _ (l08Is_c p n m k A c ts _ (hR.keep hB) (by omega)) (fun e Wz12 h => ?_)
  obtain ⟨rfl, bz13⟩ := h
  replace hB := below_after hB bz13
  replace hz5 := hz5.after bz13
  replace hz11 := hz11.after bz13
  rw [Hs.out]
  clear bz13
  refine ⟨_, rfl, ?_⟩
  refine hK' _ _ ?_
  clear hK' K'
  go_frame
  refine ls_ex (some 13) (.bool false) rfl rfl (exec_not _ _ rfl true rfl) ?_
  go_frame
  refine ls_ex (some 10) (.bool false) rfl rfl (exec_assign _ rfl (.bool false) rfl) ?_
  go_frame
  refine wpList_nil ?_
  go_upto_region 3 with (fail)
  refine wp_region_lit ?_
  refine ls_ex (some 16) (.int .i64 x) rfl rfl (exec_move _ rfl (.int .i64 x) rfl) ?_
  go_frame
  refine ls_ex (some 17) (.pointer (some ⟨w.heap.size, 0, none⟩)) rfl rfl (exec_fieldAddr 33 _ 0 rfl _ (by kernel_rfl)) ?_
  go_frame
  refine ls_ex (some 18) (.int .i64 p) rfl rfl (exec_load_one 2 _ rfl w.heap.size 0 rfl (.int .i64 p) _ Try.underlying2 rfl (hz5.at_ 0)) ?_
  go_frame
  refine ls_ex (some 19) (.int .i64 (p - 1)) rfl rfl (exec_sub _ _ _ _ rfl p 1 (p - 1) rfl rfl (IntWalk.i64_in _ (by omega))) ?_
  go_frame
  refine ls_op rfl (fun K' hK' => ?_)
  have lz19 := hB.size
  have lz20 := hz5.lt
  have lz21 := hz11.lt
  refine wp_call3 (some 20) rfl 24 _ _ _ _ rfl (fun args w => by kernel_rfl) _ _ _ rfl rfl rfl _ (l01In_c x 0 (p - 1) _) (fun e Wz17 h => ?_)
  obtain ⟨rfl, rfl⟩ := h
  rw [Hin.out]
  refine ⟨_, rfl, ?_⟩
  refine hK' _ _ ?_
  clear hK' K'
  go_frame
  refine ls_ex (some 21) (.bool false) rfl rfl (exec_not _ _ rfl true rfl) ?_
  go_frame
  refine ls_ex (some 15) (.bool false) rfl rfl (exec_assign _ rfl (.bool false) rfl) ?_
  go_frame
  refine wpList_nil ?_
  go_upto_region 5 with (fail)
  go_cut [6, 7] from 23 to 26 (fun s6 s7 wx => ∃ B : Nat, ∃ v : Value, s6 = .pointer (some ⟨B, 0, none⟩) ∧ s7 = .int .i64 p ∧ w.heap.size < B ∧ Wz2.heap.size < B ∧ Below w.heap.size w wx ∧ At wx w.heap.size (.cells #[.int .i64 p, .int .i64 n, .int .i64 m, .int .i64 k, .slice A ts.length c] 33 (0, 0)) ∧ At wx Wz2.heap.size (.cells #[.int .i64 0, .int .i64 0, .int .i64 0, .int .i64 0, .slice none 0 0] 28 (0, 0)) ∧ At wx B (.cells #[.int .i64 p, .int .i64 n, .int .i64 m, .int .i64 k, v] 28 (0, 0)) ∧ Own wx w.heap.size v [])
  case first =>
    refine wp_region_y (zs := []) (S := fun w' => Below w.heap.size w w' ∧ At w' w.heap.size (.cells #[.int .i64 p, .int .i64 n, .int .i64 m, .int .i64 k, .slice A ts.length c] 33 (0, 0))) (S2 := fun w' => True) (by kernel_rfl) ?_
    change wpAnyY _ _ _ _ _ _ _ _ _ _ (World.drew _)
    generalize hwdz22 : World.drew _ = wdz22
    replace hB : Below w.heap.size w wdz22 := by rw [← hwdz22]; exact hB.drew
    replace hz5 : At wdz22 w.heap.size (.cells #[.int .i64 p, .int .i64 n, .int .i64 m, .int .i64 k, .slice A ts.length c] 33 (0, 0)) := by rw [← hwdz22]; exact hz5
    replace hz11 : At wdz22 Wz2.heap.size (.cells #[.int .i64 0, .int .i64 0, .int .i64 0, .int .i64 0, .slice none 0 0] 28 (0, 0)) := by rw [← hwdz22]; exact hz11
    clear hwdz22
    refine y_yield 0 (some 23) (.agg #[.int .i64 p, .int .i64 n, .int .i64 m, .int .i64 k, .slice A ts.length c]) rfl (by kernel_rfl) (by kernel_rfl) (by kernel_rfl) (fun _ _ _ h => h) rfl rfl ⟨hB, hz5⟩ (fun w' h' => exec_load_all 33 _ rfl w.heap.size rfl _ _ _ h'.2 Try.underlying33 rfl 5 (by kernel_rfl) rfl) ?_
    go_frame
    refine y_yield 2 (some 25) (.pointer (some ⟨w.heap.size, 0, none⟩)) rfl (by kernel_rfl) (by kernel_rfl) (by kernel_rfl) (fun _ _ _ h => h) rfl rfl ⟨hB, hz5⟩ (fun w' h' => exec_fieldAddr 33 _ 0 rfl _ (by kernel_rfl)) ?_
    go_frame
    refine y_yield 3 (some 26) (.int .i64 p) rfl (by kernel_rfl) (by kernel_rfl) (by kernel_rfl) (fun _ _ _ h => h) rfl rfl ⟨hB, hz5⟩ (fun w' h' => exec_load_one 2 _ rfl w.heap.size 0 rfl (.int .i64 p) _ Try.underlying2 rfl (h'.2.at_ 0)) ?_
    go_frame
    refine y_two 1 4 (by kernel_rfl) rfl rfl rfl rfl (fun K' hK' => ?_) (fun K' hK' => ?_)
    · have lz25 := hB.size
      have lz26 := hz5.lt
      have lz27 := hz11.lt
      have lo9 := hB.size
      refine wp_call1 (some 24) rfl 25 _ _ rfl (fun args w => by kernel_rfl) _ rfl _ (l08Like_c p n m k A ts.length c _) (fun e Wz23 h => ?_)
      obtain ⟨v7, rfl, ho, bz24⟩ := h
      replace hB := below_after hB bz24
      replace hz5 := hz5.after bz24
      replace hz11 := hz11.after bz24
      obtain ⟨A7, c7, rfl⟩ := Own.rdN2 ho (n := 0) rfl
      clear bz24
      refine ⟨_, rfl, ?_⟩
      refine hK' _ _ ⟨hB, hz5⟩ (fun _ => trivial) ?_
      clear hK' K'
      go_frame
      refine y_oper 4 (by kernel_rfl) rfl rfl (fun K' hK' => ?_)
      have lz28 := hB.size
      have lz29 := hz5.lt
      have lz30 := hz11.lt
      have naz35 := ho.away_new
      refine wp_new (some 6) rfl (al_impl_Scheme rfl) (fun Wz31 nnz32 => ?_)
      have bz33 := nnz32.below (Below.refl _ _) (Nat.le_refl _)
      replace hB := below_after hB bz33
      replace hz5 := hz5.after bz33
      replace hz11 := hz11.after bz33
      replace ho := ho.below bz33
      have hz34 : At Wz31 Wz23.heap.size (.cells #[.int .i64 0, .int .i64 0, .int .i64 0, .int .i64 0, .slice none 0 0] 28 (0, 0)) := nnz32.at_
      refine hK' _ _ ⟨hB, hz5⟩ (fun _ => trivial) ?_
      clear hK' K' nnz32 bz33
      go_frame
      refine y_oper 5 (by kernel_rfl) rfl rfl (fun K' hK' => ?_)
      refine wp_store_all 28 _ _ rfl rfl Wz23.heap.size rfl #[.int .i64 p, .int .i64 n, .int .i64 m, .int .i64 k, .slice A7 0 c7] rfl _ _ hz34 5 (by kernel_rfl) rfl rfl (one5 _ _ _ _ _ _ _) (fun Wz36 pz37 => ?_)
      replace hB := pz37.below hB (by omega)
      replace hz5 := pz37.other hz5 (by omega)
      replace hz11 := pz37.other hz11 (by omega)
      replace ho := ho.put pz37 naz35
      replace hz34 : At Wz36 Wz23.heap.size (.cells #[.int .i64 p, .int .i64 n, .int .i64 m, .int .i64 k, .slice A7 0 c7] 28 (0, 0)) := pz37.at_
      refine hK' _ _ ⟨hB, hz5⟩ (fun _ => trivial) ?_
      clear hK' K' pz37
      refine y_oper 6 (by kernel_rfl) rfl rfl (fun K' hK' => ?_)
      refine wp_exec (some 7) rfl (.int .i64 p) (exec_assign _ rfl (.int .i64 p) rfl) ?_
      refine hK' _ _ ⟨hB, hz5⟩ (fun _ => trivial) ?_
      clear hK' K'
      go_frame
      refine y_done (by kernel_rfl) ?_ _
      go_wp2_with fail
      go_meet
      exact ⟨_, _, rfl, rfl, by omega, by omega, hB, hz5, hz11, hz34, ho.mono (by omega)⟩
    · have lz38 := hB.size
      have lz39 := hz5.lt
      have lz40 := hz11.lt
      refine wp_new (some 6) rfl (al_impl_Scheme rfl) (fun Wz41 nnz42 => ?_)
      have bz43 := nnz42.below (Below.refl _ _) (Nat.le_refl _)
      replace hB := below_after hB bz43
      replace hz5 := hz5.after bz43
      replace hz11 := hz11.after bz43
      have hz44 : At Wz41 wdz22.heap.size (.cells #[.int .i64 0, .int .i64 0, .int .i64 0, .int .i64 0, .slice none 0 0] 28 (0, 0)) := nnz42.at_
      refine hK' _ _ ⟨hB, hz5⟩ (fun _ => trivial) ?_
      clear hK' K' nnz42 bz43
      go_frame
      refine y_oper 1 (by kernel_rfl) rfl rfl (fun K' hK' => ?_)
      have lz47 := hB.size
      have lz48 := hz5.lt
      have lz49 := hz11.lt
      have lz50 := hz44.lt
      have lo9 := hB.size
      refine wp_call1 (some 24) rfl 25 _ _ rfl (fun args w => by kernel_rfl) _ rfl _ (l08Like_c p n m k A ts.length c _) (fun e Wz45 h => ?_)
      obtain ⟨v7, rfl, ho, bz46⟩ := h
      replace hB := below_after hB bz46
      replace hz5 := hz5.after bz46
      replace hz11 := hz11.after bz46
      replace hz44 := hz44.after bz46
      obtain ⟨A7, c7, rfl⟩ := Own.rdN2 ho (n := 0) rfl
      clear bz46
      refine ⟨_, rfl, ?_⟩
      refine hK' _ _ ⟨hB, hz5⟩ (fun _ => trivial) ?_
      clear hK' K'
      go_frame
      refine y_oper 5 (by kernel_rfl) rfl rfl (fun K' hK' => ?_)
      refine wp_store_all 28 _ _ rfl rfl wdz22.heap.size rfl #[.int .i64 p, .int .i64 n, .int .i64 m, .int .i64 k, .slice A7 0 c7] rfl _ _ hz44 5 (by kernel_rfl) rfl rfl (one5 _ _ _ _ _ _ _) (fun Wz51 pz52 => ?_)
      replace hB := pz52.below hB (by omega)
      replace hz5 := pz52.other hz5 (by omega)
      replace hz11 := pz52.other hz11 (by omega)
      replace ho := ho.put pz52 (ho.off hz44 (by decide))
      replace hz44 : At Wz51 wdz22.heap.size (.cells #[.int .i64 p, .int .i64 n, .int .i64 m, .int .i64 k, .slice A7 0 c7] 28 (0, 0)) := pz52.at_
      refine hK' _ _ ⟨hB, hz5⟩ (fun _ => trivial) ?_
      clear hK' K' pz52
      refine y_oper 6 (by kernel_rfl) rfl rfl (fun K' hK' => ?_)
      refine wp_exec (some 7) rfl (.int .i64 p) (exec_assign _ rfl (.int .i64 p) rfl) ?_
      refine hK' _ _ ⟨hB, hz5⟩ (fun _ => trivial) ?_
      clear hK' K'
      go_frame
      refine y_done (by kernel_rfl) ?_ _
      go_wp2_with fail
      go_meet
      exact ⟨_, _, rfl, rfl, by omega, by omega, hB, hz5, hz11, hz44, ho.mono (by omega)⟩
  case rest =>
  clear hB hz5 hz11
  obtain ⟨B, v, rfl, rfl, hB1, hB2, hB, h0, h1, h2, ho⟩ := hcut
  obtain ⟨wc, rfl⟩ := cut_world2 hB
  obtain ⟨A8, c8, rfl⟩ := Own.rdN2 ho (n := 0) rfl
  go_upto_region 6 with (fail)
  refine wp_region_lit ?_
  refine ls_ex (some 8) (.int .i64 0) rfl rfl (exec_assign _ rfl (.int .i64 0) rfl) ?_
  go_frame
  refine wpList_nil ?_
  go_wp2_with fail
  go_loopw [8] (fun s8 wr => ∃ (i : Nat) (v : Value), i ≤ ts.length ∧ s8 = .int .i64 i ∧ Below w.heap.size w wr ∧ At wr w.heap.size (.cells #[.int .i64 p, .int .i64 n, .int .i64 m, .int .i64 k, .slice A ts.length c] 33 (0, 0)) ∧ At wr Wz2.heap.size (.cells #[.int .i64 0, .int .i64 0, .int .i64 0, .int .i64 0, .slice none 0 0] 28 (0, 0)) ∧ At wr B (.cells #[.int .i64 p, .int .i64 n, .int .i64 m, .int .i64 k, v] 28 (0, 0)) ∧ Own wr w.heap.size v (((ts.take i).map (valP p x)).filter nzB)) (fun s8 _ => ts.length - (intOf s8).toNat)
  case atStart => exact ⟨0, _, by omega, rfl, hB, h0, h1, h2, ho⟩
  case round =>
    clear hB h0 h1 h2 ho
    obtain ⟨i, v, hi, rfl, hB, h0, h1, h2, ho⟩ := hrel
    by_cases hlt : i < ts.length
    · obtain ⟨b, off, rfl, hc⟩ := (hR.keep hB).at_ hlt
      clear hc
      have hq := hR.good _ (List.getElem_mem hlt)
      have Hq108 := Lib.hid hq.len
      have hfl := filt_len (f := valP p x) (i := i) hl30
      obtain ⟨N8, hN8⟩ : ∃ N, (((ts.take i).map (valP p x)).filter nzB).length = N := ⟨_, rfl⟩
      obtain ⟨A9, c9, rfl⟩ := Own.rdN2 ho (n := N8) hN8
      have HT : Hid (putL (((ts.take i).map (valP p x)).filter nzB) (valP p x ts[i]) = ((ts.take (i + 1)).map (valP p x)).filter nzB) := Lib.hid (filt_step hlt)
      obtain ⟨N7, hN7⟩ : ∃ N, (((ts.take (i + 1)).map (valP p x)).filter nzB).length = N := ⟨_, rfl⟩
      have HN7 := Lib.hid hN7
      have HN8 : Hid ((((ts.take i).map (valP p x)).filter nzB).length ≤ 1000000) := Lib.hid (by omega)
      clear hN7 hN8 hfl
      go_upto_region 7 with (fail)
      refine wp_region_lit ?_
      refine ls_ex (some 27) (.int .i64 i) rfl rfl (exec_move _ rfl (.int .i64 i) rfl) ?_
      go_frame
      refine ls_ex (some 28) (.pointer (some ⟨w.heap.size, 4, none⟩)) rfl rfl (exec_fieldAddr 33 _ 4 rfl _ (by kernel_rfl)) ?_
      go_frame
      refine ls_ex (some 29) (.slice (some ⟨b, off, none⟩) ts.length c) rfl rfl (exec_load_one 31 _ rfl w.heap.size 4 rfl (.slice (some ⟨b, off, none⟩) ts.length c) _ Try.underlying31 rfl (h0.at_ 4)) ?_
      go_frame
      refine ls_ex (some 30) (.int .i64 ts.length) rfl rfl (exec_len _ 31 52 rfl ((some ⟨b, off, none⟩)) ts.length c rfl Try.underlying31) ?_
      go_frame
      refine ls_ex (some 31) (.bool true) rfl rfl (exec_lss _ _ _ _ rfl i ts.length rfl rfl true (decide_eq_true (by omega))) ?_
      go_frame
      refine wpList_nil ?_
      go_upto_region 9 with (fail)
      refine wp_region_lit ?_
      refine ls_ex (some 34) (.pointer (some ⟨w.heap.size, 4, none⟩)) rfl rfl (exec_fieldAddr 33 _ 4 rfl _ (by kernel_rfl)) ?_
      go_frame
      refine ls_ex (some 35) (.slice (some ⟨b, off, none⟩) ts.length c) rfl rfl (exec_load_one 31 _ rfl w.heap.size 4 rfl (.slice (some ⟨b, off, none⟩) ts.length c) _ Try.underlying31 rfl (h0.at_ 4)) ?_
      go_frame
      refine ls_ex (some 36) (.int .i64 i) rfl rfl (exec_move _ rfl (.int .i64 i) rfl) ?_
      go_frame
      refine ls_ex (some 37) (.pointer (some ⟨b, off + i * 108, none⟩)) rfl rfl (exec_index_slice _ 52 _ _ rfl b off ts.length c i 108 rfl rfl Try.underlying31 (by kernel_rfl) (by omega)) ?_
      go_frame
      refine ls_ex (some 38) (.agg (u8s (ts[i]))) rfl rfl (exec_load_cells 52 _ rfl b (off + i * 108) rfl ts[i] _ 108 (RdT.c108 (hR.keep hB) hlt) Try.underlying52 rfl (by kernel_rfl) Hq108.out) ?_
      go_frame
      refine ls_op rfl (fun K' hK' => ?_)
      have lz53 := hB.size
      have lz54 := h0.lt
      have lz55 := h1.lt
      have lz56 := h2.lt
      have naz61 := ho.away_new
      refine wp_new (some 9) rfl (al_impl_Twig rfl) (fun Wz57 nnz58 => ?_)
      have bz59 := nnz58.below (Below.refl _ _) (Nat.le_refl _)
      replace hB := below_after hB bz59
      replace h0 := h0.after bz59
      replace h1 := h1.after bz59
      replace h2 := h2.after bz59
      replace ho := ho.below bz59
      have hz60 : At Wz57 wr.heap.size (.cells (u8s (List.replicate 108 0)) 52 (0, 0)) := nnz58.at_
      refine hK' _ _ ?_
      clear hK' K' nnz58 bz59
      go_frame
      refine ls_op rfl (fun K' hK' => ?_)
      refine wp_store_bytes 52 _ _ rfl rfl wr.heap.size rfl (ts[i]) rfl _ _ hz60 108 (by kernel_rfl) Hq108.out (by simp) (fun Wz62 pz63 => ?_)
      replace hB := pz63.below hB (by omega)
      replace h0 := pz63.other h0 (by omega)
      replace h1 := pz63.other h1 (by omega)
      replace h2 := pz63.other h2 (by omega)
      replace ho := ho.put pz63 naz61
      replace hz60 : At Wz62 wr.heap.size (.cells (u8s (ts[i])) 52 (0, 0)) := pz63.at_
      refine hK' _ _ ?_
      clear hK' K' pz63
      refine wpList_nil ?_
      go_upto_region 10 with (fail)
      refine wp_region_y (zs := [18]) (S := fun w' => Below w.heap.size w w' ∧ At w' wr.heap.size (.cells (u8s (ts[i])) 52 (0, 0))) (S2 := fun w' => At w' B (.cells #[.int .i64 p, .int .i64 n, .int .i64 m, .int .i64 k, .slice A9 N8 c9] 28 (0, 0))) (by kernel_rfl) ?_
      change wpAnyY _ _ _ _ _ _ _ _ _ _ (World.drew _)
      generalize hwdz64 : World.drew _ = wdz64
      replace hB : Below w.heap.size w wdz64 := by rw [← hwdz64]; exact hB.drew
      replace h0 : At wdz64 w.heap.size (.cells #[.int .i64 p, .int .i64 n, .int .i64 m, .int .i64 k, .slice (some ⟨b, off, none⟩) ts.length c] 33 (0, 0)) := by rw [← hwdz64]; exact h0
      replace h1 : At wdz64 Wz2.heap.size (.cells #[.int .i64 0, .int .i64 0, .int .i64 0, .int .i64 0, .slice none 0 0] 28 (0, 0)) := by rw [← hwdz64]; exact h1
      replace h2 : At wdz64 B (.cells #[.int .i64 p, .int .i64 n, .int .i64 m, .int .i64 k, .slice A9 N8 c9] 28 (0, 0)) := by rw [← hwdz64]; exact h2
      replace ho : Own wdz64 w.heap.size (.slice A9 N8 c9) (((ts.take i).map (valP p x)).filter nzB) := by rw [← hwdz64]; exact ho.drew
      replace hz60 : At wdz64 wr.heap.size (.cells (u8s (ts[i])) 52 (0, 0)) := by rw [← hwdz64]; exact hz60
      clear hwdz64
      refine y_yield3 0 (some 39) (.agg #[.int .i64 p, .int .i64 n, .int .i64 m, .int .i64 k, .slice A9 N8 c9]) rfl 19 (by kernel_rfl) (by kernel_rfl) (by kernel_rfl) (by kernel_rfl) (by kernel_rfl) (fun _ _ _ h => h) rfl rfl ⟨hB, hz60⟩ h2 (fun w' h' h2' => exec_load_all 28 _ rfl B rfl _ _ _ h2' Try.underlying28 rfl 5 (by kernel_rfl) rfl) ?_
      go_frame
      refine y_yield 1 (some 40) (.int .i64 p) rfl (by kernel_rfl) (by kernel_rfl) (by kernel_rfl) (fun _ _ _ h => h) rfl rfl ⟨hB, hz60⟩ (fun w' h' => exec_move _ rfl (.int .i64 p) rfl) ?_
      go_frame
      refine y_yield 2 (some 41) (.pointer (some ⟨wr.heap.size, 0, none⟩)) rfl (by kernel_rfl) (by kernel_rfl) (by kernel_rfl) (fun _ _ _ h => h) rfl rfl ⟨hB, hz60⟩ (fun w' h' => exec_fieldAddr 52 _ 0 rfl _ (by kernel_rfl)) ?_
      go_frame
      refine y_yield 3 (some 42) (.agg (u8s (segm (ts[i]) 0 36))) rfl (by kernel_rfl) (by kernel_rfl) (by kernel_rfl) (fun _ _ _ h => h) rfl rfl ⟨hB, hz60⟩ (fun w' h' => exec_load_seg 50 _ rfl wr.heap.size (0) rfl _ (ts[i]) _ 36 h'.2 Try.underlying50 rfl (by kernel_rfl) (by rw [Hq108.out]; omega) (segm (ts[i]) 0 36) rfl) ?_
      go_frame
      refine y_yield 4 (some 43) (.int .i64 x) rfl (by kernel_rfl) (by kernel_rfl) (by kernel_rfl) (fun _ _ _ h => h) rfl rfl ⟨hB, hz60⟩ (fun w' h' => exec_move _ rfl (.int .i64 x) rfl) ?_
      go_frame
      refine y_yield 6 (some 45) (.int .i64 p) rfl (by kernel_rfl) (by kernel_rfl) (by kernel_rfl) (fun _ _ _ h => h) rfl rfl ⟨hB, hz60⟩ (fun w' h' => exec_move _ rfl (.int .i64 p) rfl) ?_
      go_frame
      refine y_yield 7 (some 46) (.pointer (some ⟨wr.heap.size, 36, none⟩)) rfl (by kernel_rfl) (by kernel_rfl) (by kernel_rfl) (fun _ _ _ h => h) rfl rfl ⟨hB, hz60⟩ (fun w' h' => exec_fieldAddr 52 _ 1 rfl _ (by kernel_rfl)) ?_
      go_frame
      refine y_yield 8 (some 47) (.agg (u8s (segm (ts[i]) 36 36))) rfl (by kernel_rfl) (by kernel_rfl) (by kernel_rfl) (fun _ _ _ h => h) rfl rfl ⟨hB, hz60⟩ (fun w' h' => exec_load_seg 50 _ rfl wr.heap.size (36) rfl _ (ts[i]) _ 36 h'.2 Try.underlying50 rfl (by kernel_rfl) (by rw [Hq108.out]; omega) (segm (ts[i]) 36 36) rfl) ?_
      go_frame
      refine y_yield 9 (some 48) (.int .i64 x) rfl (by kernel_rfl) (by kernel_rfl) (by kernel_rfl) (fun _ _ _ h => h) rfl rfl ⟨hB, hz60⟩ (fun w' h' => exec_move _ rfl (.int .i64 x) rfl) ?_
      go_frame
      refine y_yield 11 (some 50) (.int .i64 p) rfl (by kernel_rfl) (by kernel_rfl) (by kernel_rfl) (fun _ _ _ h => h) rfl rfl ⟨hB, hz60⟩ (fun w' h' => exec_move _ rfl (.int .i64 p) rfl) ?_
      go_frame
      refine y_yield 12 (some 51) (.pointer (some ⟨wr.heap.size, 72, none⟩)) rfl (by kernel_rfl) (by kernel_rfl) (by kernel_rfl) (fun _ _ _ h => h) rfl rfl ⟨hB, hz60⟩ (fun w' h' => exec_fieldAddr 52 _ 2 rfl _ (by kernel_rfl)) ?_
      go_frame
      refine y_yield 13 (some 52) (.agg (u8s (segm (ts[i]) 72 36))) rfl (by kernel_rfl) (by kernel_rfl) (by kernel_rfl) (fun _ _ _ h => h) rfl rfl ⟨hB, hz60⟩ (fun w' h' => exec_load_seg 50 _ rfl wr.heap.size (72) rfl _ (ts[i]) _ 36 h'.2 Try.underlying50 rfl (by kernel_rfl) (by rw [Hq108.out]; omega) (segm (ts[i]) 72 36) rfl) ?_
      go_frame
      refine y_yield 14 (some 53) (.int .i64 x) rfl (by kernel_rfl) (by kernel_rfl) (by kernel_rfl) (fun _ _ _ h => h) rfl rfl ⟨hB, hz60⟩ (fun w' h' => exec_move _ rfl (.int .i64 x) rfl) ?_
      go_frame
      refine y_oper 5 (by kernel_rfl) rfl rfl (fun K' hK' => ?_)
      have lz67 := hB.size
      have lz68 := h0.lt
      have lz69 := h1.lt
      have lz70 := h2.lt
      have lz71 := hz60.lt
      refine wp_call3 (some 44) rfl 27 _ _ _ _ rfl (fun args w => by kernel_rfl) _ _ _ rfl rfl rfl _ (l08Value_c p x (segm ts[i] 0 36) (segm_bytes hq (by omega)) hp5 hx _) (fun e Wz65 h => ?_)
      obtain ⟨rfl, bz66⟩ := h
      replace hB := below_after hB bz66
      replace h0 := h0.after bz66
      replace h1 := h1.after bz66
      replace h2 := h2.after bz66
      replace ho := ho.below bz66
      replace hz60 := hz60.after bz66
      clear bz66
      refine ⟨_, rfl, ?_⟩
      refine hK' _ _ ⟨hB, hz60⟩ (fun _ => h2) ?_
      clear hK' K'
      go_frame
      refine y_oper 10 (by kernel_rfl) rfl rfl (fun K' hK' => ?_)
      have lz74 := hB.size
      have lz75 := h0.lt
      have lz76 := h1.lt
      have lz77 := h2.lt
      have lz78 := hz60.lt
      refine wp_call3 (some 49) rfl 27 _ _ _ _ rfl (fun args w => by kernel_rfl) _ _ _ rfl rfl rfl _ (l08Value_c p x (segm ts[i] 36 36) (segm_bytes hq (by omega)) hp5 hx _) (fun e Wz72 h => ?_)
      obtain ⟨rfl, bz73⟩ := h
      replace hB := below_after hB bz73
      replace h0 := h0.after bz73
      replace h1 := h1.after bz73
      replace h2 := h2.after bz73
      replace ho := ho.below bz73
      replace hz60 := hz60.after bz73
      clear bz73
      refine ⟨_, rfl, ?_⟩
      refine hK' _ _ ⟨hB, hz60⟩ (fun _ => h2) ?_
      clear hK' K'
      go_frame
      refine y_oper 15 (by kernel_rfl) rfl rfl (fun K' hK' => ?_)
      have lz81 := hB.size
      have lz82 := h0.lt
      have lz83 := h1.lt
      have lz84 := h2.lt
      have lz85 := hz60.lt
      refine wp_call3 (some 54) rfl 27 _ _ _ _ rfl (fun args w => by kernel_rfl) _ _ _ rfl rfl rfl _ (l08Value_c p x (segm ts[i] 72 36) (segm_bytes hq (by omega)) hp5 hx _) (fun e Wz79 h => ?_)
      obtain ⟨rfl, bz80⟩ := h
      replace hB := below_after hB bz80
      replace h0 := h0.after bz80
      replace h1 := h1.after bz80
      replace h2 := h2.after bz80
      replace ho := ho.below bz80
      replace hz60 := hz60.after bz80
      clear bz80
      refine ⟨_, rfl, ?_⟩
      refine hK' _ _ ⟨hB, hz60⟩ (fun _ => h2) ?_
      clear hK' K'
      go_frame
      refine y_yield 16 (some 55) (.agg (u8s (cat3 (valF p x (segm ts[i] 0 36)) (valF p x (segm ts[i] 36 36)) (valF p x (segm ts[i] 72 36))))) rfl (by kernel_rfl) (by kernel_rfl) (by kernel_rfl) (fun _ _ _ h => h) rfl rfl ⟨hB, hz60⟩ (fun w' h' => exec_prodC _ _ _ rfl (valF p x (segm ts[i] 0 36)) (valF p x (segm ts[i] 36 36)) (valF p x (segm ts[i] 72 36)) rfl rfl rfl (valF_len _ _ _) (valF_len _ _ _) (valF_len _ _ _)) ?_
      go_frame
      refine y_oper 17 (by kernel_rfl) rfl rfl (fun K' hK' => ?_)
      have lz89 := hB.size
      have lz90 := h0.lt
      have lz91 := h1.lt
      have lz92 := h2.lt
      have lz93 := hz60.lt
      refine wp_call2 (some 56) rfl 26 _ _ _ rfl (fun args w => by kernel_rfl) _ _ rfl rfl _ (l08Put_c p n m k A9 N8 c9 (((ts.take i).map (valP p x)).filter nzB) (valP p x ts[i]) (valP_bytes x _ hp5) _ _ ho HN8.out (by omega)) (fun e Wz86 h => ?_)
      obtain ⟨v6, rfl, noz88, grz87⟩ := h
      rw [HT.out] at noz88
      obtain ⟨A6, c6, rfl⟩ := Own.rdN2 noz88 (n := N7) HN7.out
      replace hB := below_grown hB grz87 ho (by omega)
      replace h0 := h0.grown grz87 (ho.off h0 (by decide))
      replace h1 := h1.grown grz87 (ho.off h1 (by decide))
      replace h2 := h2.grown grz87 (ho.off h2 (by decide))
      replace hz60 := hz60.grown grz87 (ho.off hz60 (by decide))
      replace ho := noz88
      refine ⟨_, rfl, ?_⟩
      refine hK' _ _ ⟨hB, hz60⟩ (fun _ => h2) ?_
      clear hK' K' grz87
      go_frame
      refine y_oper 18 (by kernel_rfl) rfl rfl (fun K' hK' => ?_)
      refine wp_store_all 28 _ _ rfl rfl B rfl #[.int .i64 p, .int .i64 n, .int .i64 m, .int .i64 k, .slice A6 N7 c6] rfl _ _ h2 5 (by kernel_rfl) rfl rfl (one5 _ _ _ _ _ _ _) (fun Wz94 pz95 => ?_)
      replace hB := pz95.below hB (by omega)
      replace h0 := pz95.other h0 (by omega)
      replace h1 := pz95.other h1 (by omega)
      replace ho := ho.put pz95 (ho.off h2 (by decide))
      replace hz60 := pz95.other hz60 (by omega)
      replace h2 : At Wz94 B (.cells #[.int .i64 p, .int .i64 n, .int .i64 m, .int .i64 k, .slice A6 N7 c6] 28 (0, 0)) := pz95.at_
      refine hK' _ _ ⟨hB, hz60⟩ (fun h => absurd (by decide) h) ?_
      clear hK' K' pz95
      refine y_done (by kernel_rfl) ?_ _
      go_upto_region 8 with (fail)
      refine wp_region_lit ?_
      refine ls_ex (some 32) (.int .i64 i) rfl rfl (exec_move _ rfl (.int .i64 i) rfl) ?_
      go_frame
      refine ls_ex (some 33) (.int .i64 (i + 1)) rfl rfl (exec_add _ _ _ _ rfl i 1 (i + 1) rfl rfl (IntWalk.i64_in _ (by omega))) ?_
      go_frame
      refine ls_ex (some 8) (.int .i64 (i + 1)) rfl rfl (exec_assign _ rfl (.int .i64 (i + 1)) rfl) ?_
      go_frame
      refine wpList_nil ?_
      go_wp2_with fail
      go_roundw
      case rel => exact ⟨i + 1, _, by omega, by go_num, hB, h0, h1, h2, ho⟩
      case measure => simp [intOf]; omega
    · obtain ⟨N8, hN8⟩ : ∃ N, (((ts.take i).map (valP p x)).filter nzB).length = N := ⟨_, rfl⟩
      obtain ⟨A9, c9, rfl⟩ := Own.rdN2 ho (n := N8) hN8
      clear hN8
      have HE : Hid (((ts.take i).map (valP p x)).filter nzB = vobL p x ts) := Lib.hid (by rw [show i = ts.length by omega, List.take_length]; rfl)
      rw [HE.out] at ho
      go_upto_region 7 with (fail)
      refine wp_region_lit ?_
      refine ls_ex (some 27) (.int .i64 i) rfl rfl (exec_move _ rfl (.int .i64 i) rfl) ?_
      go_frame
      refine ls_ex (some 28) (.pointer (some ⟨w.heap.size, 4, none⟩)) rfl rfl (exec_fieldAddr 33 _ 4 rfl _ (by kernel_rfl)) ?_
      go_frame
      refine ls_ex (some 29) (.slice A ts.length c) rfl rfl (exec_load_one 31 _ rfl w.heap.size 4 rfl (.slice A ts.length c) _ Try.underlying31 rfl (h0.at_ 4)) ?_
      go_frame
      refine ls_ex (some 30) (.int .i64 ts.length) rfl rfl (exec_len _ 31 52 rfl A ts.length c rfl Try.underlying31) ?_
      go_frame
      refine ls_ex (some 31) (.bool false) rfl rfl (exec_lss _ _ _ _ rfl i ts.length rfl rfl false (decide_eq_false (by omega))) ?_
      go_frame
      refine wpList_nil ?_
      go_upto_region 11 with (fail)
      refine wp_region_lit ?_
      refine ls_ex (some 57) (.agg #[.int .i64 p, .int .i64 n, .int .i64 m, .int .i64 k, .slice A9 N8 c9]) rfl rfl (exec_load_all 28 _ rfl B rfl _ _ _ h2 Try.underlying28 rfl 5 (by kernel_rfl) rfl) ?_
      go_frame
      refine ls_op rfl (fun K' hK' => ?_)
      refine wp_store_all 28 _ _ rfl rfl Wz2.heap.size rfl #[.int .i64 p, .int .i64 n, .int .i64 m, .int .i64 k, .slice A9 N8 c9] rfl _ _ h1 5 (by kernel_rfl) rfl rfl (one5 _ _ _ _ _ _ _) (fun Wz96 pz97 => ?_)
      replace hB := pz97.below hB (by omega)
      replace h0 := pz97.other h0 (by omega)
      replace h2 := pz97.other h2 (by omega)
      replace ho := ho.put pz97 (ho.off h1 (by decide))
      replace h1 : At Wz96 Wz2.heap.size (.cells #[.int .i64 p, .int .i64 n, .int .i64 m, .int .i64 k, .slice A9 N8 c9] 28 (0, 0)) := pz97.at_
      refine hK' _ _ ?_
      clear hK' K' pz97
      refine ls_ex (some 5) (.int .i64 0) rfl rfl (exec_assign _ rfl (.int .i64 0) rfl) ?_
      go_frame
      refine wpList_nil ?_
      go_wp2_with fail
      refine bodyPost_ret (results_at2 rfl _ _ Wz2.heap.size _ _ _ rfl _ rfl h1 Try.underlying28 rfl 5 (by kernel_rfl) rfl) rfl ?_
      unfold ResS outZ outL
      rw [HC.out]
      exact ⟨_, rfl, ho.mono (by omega), hB⟩
set_option maxHeartbeats 12800000 in
theorem implValue_v (p n m k : Int) (A : Option Addr) (c : Nat) (ts : List (List Nat)) (x : Int) (w : World) (hR : RdT w A ts) (hlen : ts.length ≤ 1048576) (hs : borderB p n m k ts = true) (hin : (decide (0 ≤ x) && decide (x ≤ p - 1)) = true) :
    Calls Try.prog 10 #[.agg #[.int .i64 p, .int .i64 n, .int .i64 m, .int .i64 k, .slice A ts.length c], .int .i64 x] w (ResS w (outZ (vobCode p n m k ts x) p) (outZ (vobCode p n m k ts x) n) (outZ (vobCode p n m k ts x) m) (outZ (vobCode p n m k ts x) k) (outL (vobCode p n m k ts x) (vobL p x ts)) (vobCode p n m k ts x)) := by
  have hB := Below.refl w.heap.size w
  have hp5 := primeB_b2 (sizesB_parts (borderB_all hs).1).1
  have hx : 0 ≤ x ∧ x ≤ p - 1 := by simpa only [Bool.and_eq_true, decide_eq_true_eq] using hin
  have HC : Hid (vobCode p n m k ts x = 0) := Lib.hid (by unfold vobCode; rw [hs, hin]; rfl)
  have hl30 := (borderB_all hs).2.1
  have Hs := Lib.hid hs
  have Hin := Lib.hid hin
  have Hin3 : Hid (inB x p = true) := Lib.hid (by rw [← hin]; unfold inB; rw [show decide (x < p) = decide (x ≤ p - 1) from decide_eq_decide.2 (by omega)])
  clear hs hin
  go_enter Try.func10, Try.ntmps10
  go_upto_region 0 with (fail)
  refine wp_region_lit ?_
  refine ls_op rfl (fun K' hK' => ?_)
  have lz1 := hB.size
  refine wp_new (some 2) rfl (exec_box 33 _ rfl (#[.int .i64 p, .int .i64 n, .int .i64 m, .int .i64 k, .slice A ts.length c]) rfl) (fun Wz2 nnz3 => ?_)
  have bz4 := nnz3.below (Below.refl _ _) (Nat.le_refl _)
  replace hB := below_after hB bz4
  have hz5 : At Wz2 w.heap.size (.cells #[.int .i64 p, .int .i64 n, .int .i64 m, .int .i64 k, .slice A ts.length c] 33 (0, 0)) := nnz3.at_
  refine hK' _ _ ?_
  clear hK' K' nnz3 bz4
  go_frame
  refine ls_op rfl (fun K' hK' => ?_)
  have lz6 := hB.size
  have lz7 := hz5.lt
  refine wp_new (some 4) rfl (al_impl_Scheme rfl) (fun Wz8 nnz9 => ?_)
  have bz10 := nnz9.below (Below.refl _ _) (Nat.le_refl _)
  replace hB := below_after hB bz10
  replace hz5 := hz5.after bz10
  have hz11 : At Wz8 Wz2.heap.size (.cells #[.int .i64 0, .int .i64 0, .int .i64 0, .int .i64 0, .slice none 0 0] 28 (0, 0)) := nnz9.at_
  refine hK' _ _ ?_
  clear hK' K' nnz9 bz10
  go_frame
  refine ls_ex (some 5) (.int .i64 0) rfl rfl (exec_assign _ rfl (.int .i64 0) rfl) ?_
  go_frame
  refine wpList_nil ?_
  go_upto_region 1 with (fail)
  refine wp_region_lit ?_
  refine ls_ex (some 9) (.agg #[.int .i64 p, .int .i64 n, .int .i64 m, .int .i64 k, .slice A ts.length c]) rfl rfl (exec_load_all 33 _ rfl w.heap.size rfl _ _ _ hz5 Try.underlying33 rfl 5 (by kernel_rfl) rfl) ?_
  go_frame
  refine ls_op rfl (fun K' hK' => ?_)
  have lz14 := hB.size
  have lz15 := hz5.lt
  have lz16 := hz11.lt
  refine wp_call1 (some 10) rfl 29 _ _ rfl (fun args w => by kernel_rfl) _ rfl _ (implIsBorder_c p n m k A c ts _ (hR.keep hB) (by omega)) (fun e Wz12 h => ?_)
  obtain ⟨rfl, bz13⟩ := h
  replace hB := below_after hB bz13
  replace hz5 := hz5.after bz13
  replace hz11 := hz11.after bz13
  rw [Hs.out]
  clear bz13
  refine ⟨_, rfl, ?_⟩
  refine hK' _ _ ?_
  clear hK' K'
  go_frame
  refine ls_ex (some 11) (.bool false) rfl rfl (exec_not _ _ rfl true rfl) ?_
  go_frame
  refine wpList_nil ?_
  go_upto_region 3 with (fail)
  refine wp_region_lit ?_
  refine ls_ex (some 13) (.int .i64 x) rfl rfl (exec_move _ rfl (.int .i64 x) rfl) ?_
  go_frame
  refine ls_ex (some 14) (.pointer (some ⟨w.heap.size, 0, none⟩)) rfl rfl (exec_fieldAddr 33 _ 0 rfl _ (by kernel_rfl)) ?_
  go_frame
  refine ls_ex (some 15) (.int .i64 p) rfl rfl (exec_load_one 2 _ rfl w.heap.size 0 rfl (.int .i64 p) _ Try.underlying2 rfl (hz5.at_ 0)) ?_
  go_frame
  refine ls_op rfl (fun K' hK' => ?_)
  have lz19 := hB.size
  have lz20 := hz5.lt
  have lz21 := hz11.lt
  refine wp_call2 (some 16) rfl 30 _ _ _ rfl (fun args w => by kernel_rfl) _ _ rfl rfl _ (isIndex_c x p _) (fun e Wz17 h => ?_)
  obtain ⟨rfl, rfl⟩ := h
  rw [Hin3.out]
  refine ⟨_, rfl, ?_⟩
  refine hK' _ _ ?_
  clear hK' K'
  go_frame
  refine ls_ex (some 17) (.bool false) rfl rfl (exec_not _ _ rfl true rfl) ?_
  go_frame
  refine wpList_nil ?_
  go_upto_region 5 with (fail)
  refine wp_region_lit ?_
  refine ls_ex (some 6) (.slice none 0 0) rfl rfl (exec_assign _ rfl (.slice none 0 0) rfl) ?_
  go_frame
  refine wpList_nil ?_
  go_upto_region 6 with (fail)
  refine wp_region_lit ?_
  refine ls_ex (some 19) (.pointer (some ⟨w.heap.size, 4, none⟩)) rfl rfl (exec_fieldAddr 33 _ 4 rfl _ (by kernel_rfl)) ?_
  go_frame
  refine ls_ex (some 20) (.slice A ts.length c) rfl rfl (exec_load_one 31 _ rfl w.heap.size 4 rfl (.slice A ts.length c) _ Try.underlying31 rfl (hz5.at_ 4)) ?_
  go_frame
  refine ls_ex (some 21) (.int .i64 ts.length) rfl rfl (exec_len _ 31 52 rfl A ts.length c rfl Try.underlying31) ?_
  go_frame
  refine ls_ex (some 22) (.int .i64 0) rfl rfl (exec_move _ rfl (.int .i64 0) rfl) ?_
  go_frame
  refine wpList_nil ?_
  go_wp2_with fail
  go_loopw [6, 22] (fun s6 s22 wr => ∃ (i : Nat) (v : Value), i ≤ ts.length ∧ s22 = .int .i64 i ∧ s6 = v ∧ Below w.heap.size w wr ∧ At wr w.heap.size (.cells #[.int .i64 p, .int .i64 n, .int .i64 m, .int .i64 k, .slice A ts.length c] 33 (0, 0)) ∧ At wr Wz2.heap.size (.cells #[.int .i64 0, .int .i64 0, .int .i64 0, .int .i64 0, .slice none 0 0] 28 (0, 0)) ∧ Own wr w.heap.size v ((ts.take i).map (valP p x))) (fun _ s22 _ => ts.length - (intOf s22).toNat)
  case atStart => exact ⟨0, _, by omega, rfl, rfl, hB, hz5, hz11, Own.nil _ _⟩
  case round =>
    clear hB hz5 hz11
    obtain ⟨i, v, hi, rfl, rfl, hB, h0, h1, ho⟩ := hrel
    by_cases hlt : i < ts.length
    · obtain ⟨b, off, rfl, hc⟩ := (hR.keep hB).at_ hlt
      clear hc
      have hq := hR.good _ (List.getElem_mem hlt)
      have Hq108 := Lib.hid hq.len
      obtain ⟨A9, c9, rfl⟩ := Own.rdN2 ho (n := i) (map_take_len2 hi)
      have HT : Hid ((ts.take i).map (valP p x) ++ [valP p x ts[i]] = (ts.take (i + 1)).map (valP p x)) := Lib.hid (map_take_step2 hlt)
      go_upto_region 7 with (fail)
      refine wp_region_lit ?_
      refine ls_ex (some 23) (.bool true) rfl rfl (exec_lss _ _ _ _ rfl i ts.length rfl rfl true (decide_eq_true (by omega))) ?_
      go_frame
      refine wpList_nil ?_
      go_upto_region 8 with (fail)
      refine wp_region_lit ?_
      refine ls_ex (some 24) (.pointer (some ⟨b, off + i * 108, none⟩)) rfl rfl (exec_index_slice _ 52 _ _ rfl b off ts.length c i 108 rfl rfl Try.underlying31 (by kernel_rfl) (by omega)) ?_
      go_frame
      refine ls_ex (some 25) (.agg (u8s (ts[i]))) rfl rfl (exec_load_cells 52 _ rfl b (off + i * 108) rfl ts[i] _ 108 (RdT.c108 (hR.keep hB) hlt) Try.underlying52 rfl (by kernel_rfl) Hq108.out) ?_
      go_frame
      refine ls_op rfl (fun K' hK' => ?_)
      have lz22 := hB.size
      have lz23 := h0.lt
      have lz24 := h1.lt
      have naz29 := ho.away_new
      refine wp_new (some 8) rfl (al_impl_Twig rfl) (fun Wz25 nnz26 => ?_)
      have bz27 := nnz26.below (Below.refl _ _) (Nat.le_refl _)
      replace hB := below_after hB bz27
      replace h0 := h0.after bz27
      replace h1 := h1.after bz27
      replace ho := ho.below bz27
      have hz28 : At Wz25 wr.heap.size (.cells (u8s (List.replicate 108 0)) 52 (0, 0)) := nnz26.at_
      refine hK' _ _ ?_
      clear hK' K' nnz26 bz27
      go_frame
      refine ls_op rfl (fun K' hK' => ?_)
      refine wp_store_bytes 52 _ _ rfl rfl wr.heap.size rfl (ts[i]) rfl _ _ hz28 108 (by kernel_rfl) Hq108.out (by simp) (fun Wz30 pz31 => ?_)
      replace hB := pz31.below hB (by omega)
      replace h0 := pz31.other h0 (by omega)
      replace h1 := pz31.other h1 (by omega)
      replace ho := ho.put pz31 naz29
      replace hz28 : At Wz30 wr.heap.size (.cells (u8s (ts[i])) 52 (0, 0)) := pz31.at_
      refine hK' _ _ ?_
      clear hK' K' pz31
      refine wpList_nil ?_
      go_upto_region 9 with (fail)
      refine wp_region_y (zs := []) (S := fun w' => Below w.heap.size w w' ∧ At w' wr.heap.size (.cells (u8s (ts[i])) 52 (0, 0)) ∧ At w' w.heap.size (.cells #[.int .i64 p, .int .i64 n, .int .i64 m, .int .i64 k, .slice (some ⟨b, off, none⟩) ts.length c] 33 (0, 0))) (S2 := fun w' => True) (by kernel_rfl) ?_
      change wpAnyY _ _ _ _ _ _ _ _ _ _ (World.drew _)
      generalize hwdz32 : World.drew _ = wdz32
      replace hB : Below w.heap.size w wdz32 := by rw [← hwdz32]; exact hB.drew
      replace h0 : At wdz32 w.heap.size (.cells #[.int .i64 p, .int .i64 n, .int .i64 m, .int .i64 k, .slice (some ⟨b, off, none⟩) ts.length c] 33 (0, 0)) := by rw [← hwdz32]; exact h0
      replace h1 : At wdz32 Wz2.heap.size (.cells #[.int .i64 0, .int .i64 0, .int .i64 0, .int .i64 0, .slice none 0 0] 28 (0, 0)) := by rw [← hwdz32]; exact h1
      replace ho : Own wdz32 w.heap.size (.slice A9 i c9) ((ts.take i).map (valP p x)) := by rw [← hwdz32]; exact ho.drew
      replace hz28 : At wdz32 wr.heap.size (.cells (u8s (ts[i])) 52 (0, 0)) := by rw [← hwdz32]; exact hz28
      clear hwdz32
      refine y_yield 0 (some 26) (.slice A9 i c9) rfl (by kernel_rfl) (by kernel_rfl) (by kernel_rfl) (fun _ _ _ h => h) rfl rfl ⟨hB, hz28, h0⟩ (fun w' h' => exec_move _ rfl (.slice A9 i c9) rfl) ?_
      go_frame
      refine y_yield 1 (some 27) (.pointer (some ⟨wr.heap.size, 0, none⟩)) rfl (by kernel_rfl) (by kernel_rfl) (by kernel_rfl) (fun _ _ _ h => h) rfl rfl ⟨hB, hz28, h0⟩ (fun w' h' => exec_fieldAddr 52 _ 0 rfl _ (by kernel_rfl)) ?_
      go_frame
      refine y_yield 2 (some 28) (.agg (u8s (segm (ts[i]) 0 36))) rfl (by kernel_rfl) (by kernel_rfl) (by kernel_rfl) (fun _ _ _ h => h) rfl rfl ⟨hB, hz28, h0⟩ (fun w' h' => exec_load_seg 50 _ rfl wr.heap.size (0) rfl _ (ts[i]) _ 36 h'.2.1 Try.underlying50 rfl (by kernel_rfl) (by rw [Hq108.out]; omega) (segm (ts[i]) 0 36) rfl) ?_
      go_frame
      refine y_yield 4 (some 30) (.pointer (some ⟨w.heap.size, 0, none⟩)) rfl (by kernel_rfl) (by kernel_rfl) (by kernel_rfl) (fun _ _ _ h => h) rfl rfl ⟨hB, hz28, h0⟩ (fun w' h' => exec_fieldAddr 33 _ 0 rfl _ (by kernel_rfl)) ?_
      go_frame
      refine y_yield 5 (some 31) (.int .i64 p) rfl (by kernel_rfl) (by kernel_rfl) (by kernel_rfl) (fun _ _ _ h => h) rfl rfl ⟨hB, hz28, h0⟩ (fun w' h' => exec_load_one 2 _ rfl w.heap.size 0 rfl (.int .i64 p) _ Try.underlying2 rfl (h'.2.2.at_ 0)) ?_
      go_frame
      refine y_yield 6 (some 32) (.int .i64 x) rfl (by kernel_rfl) (by kernel_rfl) (by kernel_rfl) (fun _ _ _ h => h) rfl rfl ⟨hB, hz28, h0⟩ (fun w' h' => exec_move _ rfl (.int .i64 x) rfl) ?_
      go_frame
      refine y_yield 8 (some 34) (.pointer (some ⟨wr.heap.size, 36, none⟩)) rfl (by kernel_rfl) (by kernel_rfl) (by kernel_rfl) (fun _ _ _ h => h) rfl rfl ⟨hB, hz28, h0⟩ (fun w' h' => exec_fieldAddr 52 _ 1 rfl _ (by kernel_rfl)) ?_
      go_frame
      refine y_yield 9 (some 35) (.agg (u8s (segm (ts[i]) 36 36))) rfl (by kernel_rfl) (by kernel_rfl) (by kernel_rfl) (fun _ _ _ h => h) rfl rfl ⟨hB, hz28, h0⟩ (fun w' h' => exec_load_seg 50 _ rfl wr.heap.size (36) rfl _ (ts[i]) _ 36 h'.2.1 Try.underlying50 rfl (by kernel_rfl) (by rw [Hq108.out]; omega) (segm (ts[i]) 36 36) rfl) ?_
      go_frame
      refine y_yield 11 (some 37) (.pointer (some ⟨w.heap.size, 0, none⟩)) rfl (by kernel_rfl) (by kernel_rfl) (by kernel_rfl) (fun _ _ _ h => h) rfl rfl ⟨hB, hz28, h0⟩ (fun w' h' => exec_fieldAddr 33 _ 0 rfl _ (by kernel_rfl)) ?_
      go_frame
      refine y_yield 12 (some 38) (.int .i64 p) rfl (by kernel_rfl) (by kernel_rfl) (by kernel_rfl) (fun _ _ _ h => h) rfl rfl ⟨hB, hz28, h0⟩ (fun w' h' => exec_load_one 2 _ rfl w.heap.size 0 rfl (.int .i64 p) _ Try.underlying2 rfl (h'.2.2.at_ 0)) ?_
      go_frame
      refine y_yield 13 (some 39) (.int .i64 x) rfl (by kernel_rfl) (by kernel_rfl) (by kernel_rfl) (fun _ _ _ h => h) rfl rfl ⟨hB, hz28, h0⟩ (fun w' h' => exec_move _ rfl (.int .i64 x) rfl) ?_
      go_frame
      refine y_yield 15 (some 41) (.pointer (some ⟨wr.heap.size, 72, none⟩)) rfl (by kernel_rfl) (by kernel_rfl) (by kernel_rfl) (fun _ _ _ h => h) rfl rfl ⟨hB, hz28, h0⟩ (fun w' h' => exec_fieldAddr 52 _ 2 rfl _ (by kernel_rfl)) ?_
      go_frame
      refine y_yield 16 (some 42) (.agg (u8s (segm (ts[i]) 72 36))) rfl (by kernel_rfl) (by kernel_rfl) (by kernel_rfl) (fun _ _ _ h => h) rfl rfl ⟨hB, hz28, h0⟩ (fun w' h' => exec_load_seg 50 _ rfl wr.heap.size (72) rfl _ (ts[i]) _ 36 h'.2.1 Try.underlying50 rfl (by kernel_rfl) (by rw [Hq108.out]; omega) (segm (ts[i]) 72 36) rfl) ?_
      go_frame
      refine y_yield 18 (some 44) (.pointer (some ⟨w.heap.size, 0, none⟩)) rfl (by kernel_rfl) (by kernel_rfl) (by kernel_rfl) (fun _ _ _ h => h) rfl rfl ⟨hB, hz28, h0⟩ (fun w' h' => exec_fieldAddr 33 _ 0 rfl _ (by kernel_rfl)) ?_
      go_frame
      refine y_yield 19 (some 45) (.int .i64 p) rfl (by kernel_rfl) (by kernel_rfl) (by kernel_rfl) (fun _ _ _ h => h) rfl rfl ⟨hB, hz28, h0⟩ (fun w' h' => exec_load_one 2 _ rfl w.heap.size 0 rfl (.int .i64 p) _ Try.underlying2 rfl (h'.2.2.at_ 0)) ?_
      go_frame
      refine y_yield 20 (some 46) (.int .i64 x) rfl (by kernel_rfl) (by kernel_rfl) (by kernel_rfl) (fun _ _ _ h => h) rfl rfl ⟨hB, hz28, h0⟩ (fun w' h' => exec_move _ rfl (.int .i64 x) rfl) ?_
      go_frame
      refine y_oper 3 (by kernel_rfl) rfl rfl (fun K' hK' => ?_)
      have lz35 := hB.size
      have lz36 := h0.lt
      have lz37 := h1.lt
      have lz38 := hz28.lt
      refine wp_call1 (some 29) rfl 31 _ _ rfl (fun args w => by kernel_rfl) _ rfl _ (partsOf_c (segm ts[i] 0 36) (segm_bytes hq (by omega)) _) (fun e Wz33 h => ?_)
      obtain ⟨rfl, bz34⟩ := h
      replace hB := below_after hB bz34
      replace h0 := h0.after bz34
      replace h1 := h1.after bz34
      replace ho := ho.below bz34
      replace hz28 := hz28.after bz34
      clear bz34
      refine ⟨_, rfl, ?_⟩
      refine hK' _ _ ⟨hB, hz28, h0⟩ (fun _ => trivial) ?_
      clear hK' K'
      go_frame
      refine y_oper 7 (by kernel_rfl) rfl rfl (fun K' hK' => ?_)
      have lz41 := hB.size
      have lz42 := h0.lt
      have lz43 := h1.lt
      have lz44 := hz28.lt
      refine wp_call3 (some 33) rfl 32 _ _ _ _ rfl (fun args w => by kernel_rfl) _ _ _ rfl rfl rfl _ (valueAt_c p x (segm ts[i] 0 36) (segm_bytes hq (by omega)) hp5 hx _) (fun e Wz39 h => ?_)
      obtain ⟨rfl, bz40⟩ := h
      replace hB := below_after hB bz40
      replace h0 := h0.after bz40
      replace h1 := h1.after bz40
      replace ho := ho.below bz40
      replace hz28 := hz28.after bz40
      clear bz40
      refine ⟨_, rfl, ?_⟩
      refine hK' _ _ ⟨hB, hz28, h0⟩ (fun _ => trivial) ?_
      clear hK' K'
      go_frame
      refine y_oper 10 (by kernel_rfl) rfl rfl (fun K' hK' => ?_)
      have lz47 := hB.size
      have lz48 := h0.lt
      have lz49 := h1.lt
      have lz50 := hz28.lt
      refine wp_call1 (some 36) rfl 31 _ _ rfl (fun args w => by kernel_rfl) _ rfl _ (partsOf_c (segm ts[i] 36 36) (segm_bytes hq (by omega)) _) (fun e Wz45 h => ?_)
      obtain ⟨rfl, bz46⟩ := h
      replace hB := below_after hB bz46
      replace h0 := h0.after bz46
      replace h1 := h1.after bz46
      replace ho := ho.below bz46
      replace hz28 := hz28.after bz46
      clear bz46
      refine ⟨_, rfl, ?_⟩
      refine hK' _ _ ⟨hB, hz28, h0⟩ (fun _ => trivial) ?_
      clear hK' K'
      go_frame
      refine y_oper 14 (by kernel_rfl) rfl rfl (fun K' hK' => ?_)
      have lz53 := hB.size
      have lz54 := h0.lt
      have lz55 := h1.lt
      have lz56 := hz28.lt
      refine wp_call3 (some 40) rfl 32 _ _ _ _ rfl (fun args w => by kernel_rfl) _ _ _ rfl rfl rfl _ (valueAt_c p x (segm ts[i] 36 36) (segm_bytes hq (by omega)) hp5 hx _) (fun e Wz51 h => ?_)
      obtain ⟨rfl, bz52⟩ := h
      replace hB := below_after hB bz52
      replace h0 := h0.after bz52
      replace h1 := h1.after bz52
      replace ho := ho.below bz52
      replace hz28 := hz28.after bz52
      clear bz52
      refine ⟨_, rfl, ?_⟩
      refine hK' _ _ ⟨hB, hz28, h0⟩ (fun _ => trivial) ?_
      clear hK' K'
      go_frame
      refine y_oper 17 (by kernel_rfl) rfl rfl (fun K' hK' => ?_)
      have lz59 := hB.size
      have lz60 := h0.lt
      have lz61 := h1.lt
      have lz62 := hz28.lt
      refine wp_call1 (some 43) rfl 31 _ _ rfl (fun args w => by kernel_rfl) _ rfl _ (partsOf_c (segm ts[i] 72 36) (segm_bytes hq (by omega)) _) (fun e Wz57 h => ?_)
      obtain ⟨rfl, bz58⟩ := h
      replace hB := below_after hB bz58
      replace h0 := h0.after bz58
      replace h1 := h1.after bz58
      replace ho := ho.below bz58
      replace hz28 := hz28.after bz58
      clear bz58
      refine ⟨_, rfl, ?_⟩
      refine hK' _ _ ⟨hB, hz28, h0⟩ (fun _ => trivial) ?_
      clear hK' K'
      go_frame
      refine y_oper 21 (by kernel_rfl) rfl rfl (fun K' hK' => ?_)
      have lz65 := hB.size
      have lz66 := h0.lt
      have lz67 := h1.lt
      have lz68 := hz28.lt
      refine wp_call3 (some 47) rfl 32 _ _ _ _ rfl (fun args w => by kernel_rfl) _ _ _ rfl rfl rfl _ (valueAt_c p x (segm ts[i] 72 36) (segm_bytes hq (by omega)) hp5 hx _) (fun e Wz63 h => ?_)
      obtain ⟨rfl, bz64⟩ := h
      replace hB := below_after hB bz64
      replace h0 := h0.after bz64
      replace h1 := h1.after bz64
      replace ho := ho.below bz64
      replace hz28 := hz28.after bz64
      clear bz64
      refine ⟨_, rfl, ?_⟩
      refine hK' _ _ ⟨hB, hz28, h0⟩ (fun _ => trivial) ?_
      clear hK' K'
      go_frame
      refine y_yield 22 (some 48) (.agg (u8s (cat3 (valF p x (segm ts[i] 0 36)) (valF p x (segm ts[i] 36 36)) (valF p x (segm ts[i] 72 36))))) rfl (by kernel_rfl) (by kernel_rfl) (by kernel_rfl) (fun _ _ _ h => h) rfl rfl ⟨hB, hz28, h0⟩ (fun w' h' => exec_prodC _ _ _ rfl (valF p x (segm ts[i] 0 36)) (valF p x (segm ts[i] 36 36)) (valF p x (segm ts[i] 72 36)) rfl rfl rfl (valF_len _ _ _) (valF_len _ _ _) (valF_len _ _ _)) ?_
      go_frame
      refine y_oper 23 (by kernel_rfl) rfl rfl (fun K' hK' => ?_)
      have lz69 := hB.size
      have lz70 := h0.lt
      have lz71 := h1.lt
      have lz72 := hz28.lt
      refine wp_slice1 (some 49) rfl 26 58 _ rfl (valP p x ts[i]) rfl Try.underlying26 infoProd (valP_bytes x _ hp5).len (fun Wz73 nnz74 => ?_)
      have bz75 := nnz74.below (Below.refl _ _) (Nat.le_refl _)
      replace hB := below_after hB bz75
      replace h0 := h0.after bz75
      replace h1 := h1.after bz75
      replace ho := ho.below bz75
      replace hz28 := hz28.after bz75
      have hqz76 : At Wz73 Wz63.heap.size (.cells (u8s (valP p x ts[i])) 58 (0, 0)) := nnz74.at_
      refine hK' _ _ ⟨hB, hz28, h0⟩ (fun _ => trivial) ?_
      clear hK' K' nnz74 bz75
      go_frame
      refine y_oper 24 (by kernel_rfl) rfl rfl (fun K' hK' => ?_)
      have lz80 := hB.size
      have lz81 := h0.lt
      have lz82 := h1.lt
      have lz83 := hz28.lt
      have lz84 := hqz76.lt
      refine wp_appP (some 50) rfl _ _ rfl (.slice A9 i c9) ((ts.take i).map (valP p x)) (valP p x ts[i]) rfl ho Wz63.heap.size rfl hqz76 (valP_bytes x _ hp5).len (by rw [map_take_len2 hi]; omega) (by omega) (fun v6 Wz77 noz79 grz78 => ?_)
      rw [HT.out] at noz79
      obtain ⟨A6, c6, rfl⟩ := Own.rdN2 noz79 (n := i + 1) (map_take_len2 (by omega))
      replace hB := below_grown hB grz78 ho (by omega)
      replace h0 := h0.grown grz78 (ho.off h0 (by decide))
      replace h1 := h1.grown grz78 (ho.off h1 (by decide))
      replace hz28 := hz28.grown grz78 (ho.off hz28 (by decide))
      replace ho := noz79
      refine hK' _ _ ⟨hB, hz28, h0⟩ (fun _ => trivial) ?_
      clear hK' K' grz78 hqz76
      go_frame
      refine y_oper 25 (by kernel_rfl) rfl rfl (fun K' hK' => ?_)
      refine wp_exec (some 6) rfl (.slice A6 (i + 1) c6) (exec_assign _ rfl (.slice A6 (i + 1) c6) rfl) ?_
      refine hK' _ _ ⟨hB, hz28, h0⟩ (fun _ => trivial) ?_
      clear hK' K'
      go_frame
      refine y_done (by kernel_rfl) ?_ _
      go_upto_region 10 with (fail)
      refine wp_region_lit ?_
      refine ls_ex (some 51) (.int .i64 (i + 1)) rfl rfl (exec_add _ _ _ _ rfl i 1 (i + 1) rfl rfl (IntWalk.i64_in _ (by omega))) ?_
      go_frame
      refine ls_ex (some 22) (.int .i64 (i + 1)) rfl rfl (exec_move _ rfl (.int .i64 (i + 1)) rfl) ?_
      go_frame
      refine wpList_nil ?_
      go_wp2_with fail
      go_roundw
      case rel => exact ⟨i + 1, _, by omega, by go_num, rfl, hB, h0, h1, ho⟩
      case measure => simp [intOf]; omega
    · obtain ⟨A9, c9, rfl⟩ := Own.rdN2 ho (n := i) (map_take_len2 hi)
      have HE : Hid ((ts.take i).map (valP p x) = ts.map (valP p x)) := Lib.hid (by rw [show i = ts.length by omega, List.take_length])
      rw [HE.out] at ho
      have HV : Hid ((ts.map (valP p x)).filter nzB = vobL p x ts) := Lib.hid rfl
      obtain ⟨N7, hN7⟩ : ∃ N, (vobL p x ts).length = N := ⟨_, rfl⟩
      have HN7 := Lib.hid hN7
      clear hN7
      have Hgd : Hid (∀ q ∈ ts.map (valP p x), Bytes 27 q) := Lib.hid (fun q hq => by obtain ⟨t, _, rfl⟩ := List.mem_map.1 hq; exact valP_bytes x t hp5)
      go_upto_region 7 with (fail)
      refine wp_region_lit ?_
      refine ls_ex (some 23) (.bool false) rfl rfl (exec_lss _ _ _ _ rfl i ts.length rfl rfl false (decide_eq_false (by omega))) ?_
      go_frame
      refine wpList_nil ?_
      go_upto_region 11 with (fail)
      refine wp_region_y (zs := []) (S := fun w' => Below w.heap.size w w' ∧ At w' w.heap.size (.cells #[.int .i64 p, .int .i64 n, .int .i64 m, .int .i64 k, .slice A ts.length c] 33 (0, 0))) (S2 := fun w' => True) (by kernel_rfl) ?_
      change wpAnyY _ _ _ _ _ _ _ _ _ _ (World.drew _)
      generalize hwdz85 : World.drew _ = wdz85
      replace hB : Below w.heap.size w wdz85 := by rw [← hwdz85]; exact hB.drew
      replace h0 : At wdz85 w.heap.size (.cells #[.int .i64 p, .int .i64 n, .int .i64 m, .int .i64 k, .slice A ts.length c] 33 (0, 0)) := by rw [← hwdz85]; exact h0
      replace h1 : At wdz85 Wz2.heap.size (.cells #[.int .i64 0, .int .i64 0, .int .i64 0, .int .i64 0, .slice none 0 0] 28 (0, 0)) := by rw [← hwdz85]; exact h1
      replace ho : Own wdz85 w.heap.size (.slice A9 i c9) (ts.map (valP p x)) := by rw [← hwdz85]; exact ho.drew
      clear hwdz85
      refine y_yield 0 (some 52) (.agg #[.int .i64 p, .int .i64 n, .int .i64 m, .int .i64 k, .slice A ts.length c]) rfl (by kernel_rfl) (by kernel_rfl) (by kernel_rfl) (fun _ _ _ h => h) rfl rfl ⟨hB, h0⟩ (fun w' h' => exec_load_all 33 _ rfl w.heap.size rfl _ _ _ h'.2 Try.underlying33 rfl 5 (by kernel_rfl) rfl) ?_
      go_frame
      refine y_yield 1 (some 53) (.slice A9 i c9) rfl (by kernel_rfl) (by kernel_rfl) (by kernel_rfl) (fun _ _ _ h => h) rfl rfl ⟨hB, h0⟩ (fun w' h' => exec_move _ rfl (.slice A9 i c9) rfl) ?_
      go_frame
      refine y_oper 2 (by kernel_rfl) rfl rfl (fun K' hK' => ?_)
      have lz89 := hB.size
      have lz90 := h0.lt
      have lz91 := h1.lt
      refine wp_call2 (some 54) rfl 34 _ _ _ rfl (fun args w => by kernel_rfl) _ _ rfl rfl _ (deleteFunc_c _ ho Hgd.out (by rw [List.length_map]; omega)) (fun e Wz86 h => ?_)
      obtain ⟨v6, rfl, noz88, grz87⟩ := h
      rw [HV.out] at noz88
      obtain ⟨A6, c6, rfl⟩ := Own.rdN2 noz88 (n := N7) HN7.out
      replace hB := below_grown hB grz87 ho (by omega)
      replace h0 := h0.grown grz87 (ho.off h0 (by decide))
      replace h1 := h1.grown grz87 (ho.off h1 (by decide))
      replace ho := noz88
      refine ⟨_, rfl, ?_⟩
      refine hK' _ _ ⟨hB, h0⟩ (fun _ => trivial) ?_
      clear hK' K' grz87
      go_frame
      refine y_oper 3 (by kernel_rfl) rfl rfl (fun K' hK' => ?_)
      have lz94 := hB.size
      have lz95 := h0.lt
      have lz96 := h1.lt
      refine wp_call2 (some 55) rfl 33 _ _ _ rfl (fun args w => by kernel_rfl) _ _ rfl rfl _ (schemeLike_c p n m k A A6 ts.length c N7 c6 _) (fun e Wz92 h => ?_)
      obtain ⟨rfl, bz93⟩ := h
      replace hB := below_after hB bz93
      replace h0 := h0.after bz93
      replace h1 := h1.after bz93
      replace ho := ho.below bz93
      clear bz93
      refine ⟨_, rfl, ?_⟩
      refine hK' _ _ ⟨hB, h0⟩ (fun _ => trivial) ?_
      clear hK' K'
      go_frame
      refine y_oper 4 (by kernel_rfl) rfl rfl (fun K' hK' => ?_)
      refine wp_store_all 28 _ _ rfl rfl Wz2.heap.size rfl #[.int .i64 p, .int .i64 n, .int .i64 m, .int .i64 k, .slice A6 N7 c6] rfl _ _ h1 5 (by kernel_rfl) rfl rfl (one5 _ _ _ _ _ _ _) (fun Wz97 pz98 => ?_)
      replace hB := pz98.below hB (by omega)
      replace h0 := pz98.other h0 (by omega)
      replace ho := ho.put pz98 (ho.off h1 (by decide))
      replace h1 : At Wz97 Wz2.heap.size (.cells #[.int .i64 p, .int .i64 n, .int .i64 m, .int .i64 k, .slice A6 N7 c6] 28 (0, 0)) := pz98.at_
      refine hK' _ _ ⟨hB, h0⟩ (fun _ => trivial) ?_
      clear hK' K' pz98
      refine y_oper 5 (by kernel_rfl) rfl rfl (fun K' hK' => ?_)
      refine wp_exec (some 5) rfl (.int .i64 0) (exec_assign _ rfl (.int .i64 0) rfl) ?_
      refine hK' _ _ ⟨hB, h0⟩ (fun _ => trivial) ?_
      clear hK' K'
      go_frame
      refine y_done (by kernel_rfl) ?_ _
      go_wp2_with fail
      refine bodyPost_ret (results_at2 rfl _ _ Wz2.heap.size _ _ _ rfl _ rfl h1 Try.underlying28 rfl 5 (by kernel_rfl) rfl) rfl ?_
      unfold ResS outZ outL
      rw [HC.out]
      exact ⟨_, rfl, ho.mono (by omega), hB⟩
theorem specValueOfBorder_c (p n m k : Int) (A : Option Addr) (c : Nat) (ts : List (List Nat)) (x : Int) (w : World) (hR : RdT w A ts) (hlen : ts.length ≤ 1048576) : Calls Try.prog 8 #[.agg #[.int .i64 p, .int .i64 n, .int .i64 m, .int .i64 k, .slice A ts.length c], .int .i64 x] w (ResS w (outZ (vobCode p n m k ts x) p) (outZ (vobCode p n m k ts x) n) (outZ (vobCode p n m k ts x) m) (outZ (vobCode p n m k ts x) k) (outL (vobCode p n m k ts x) (vobL p x ts)) (vobCode p n m k ts x)) := by
  cases hs : borderB p n m k ts with
  | false => exact specValue_a p n m k A c ts x w hR hlen hs
  | true =>
    cases hin : (decide (0 ≤ x) && decide (x ≤ p - 1)) with
    | false => exact specValue_b p n m k A c ts x w hR hlen hs hin
    | true => exact specValue_v p n m k A c ts x w hR hlen hs hin
theorem implValueOfBorder_c (p n m k : Int) (A : Option Addr) (c : Nat) (ts : List (List Nat)) (x : Int) (w : World) (hR : RdT w A ts) (hlen : ts.length ≤ 1048576) : Calls Try.prog 10 #[.agg #[.int .i64 p, .int .i64 n, .int .i64 m, .int .i64 k, .slice A ts.length c], .int .i64 x] w (ResS w (outZ (vobCode p n m k ts x) p) (outZ (vobCode p n m k ts x) n) (outZ (vobCode p n m k ts x) m) (outZ (vobCode p n m k ts x) k) (outL (vobCode p n m k ts x) (vobL p x ts)) (vobCode p n m k ts x)) := by
  cases hs : borderB p n m k ts with
  | false => exact implValue_a p n m k A c ts x w hR hlen hs
  | true =>
    cases hin : (decide (0 ≤ x) && decide (x ≤ p - 1)) with
    | false => exact implValue_b p n m k A c ts x w hR hlen hs hin
    | true => exact implValue_v p n m k A c ts x w hR hlen hs hin
theorem vob_bytes {p n m k x : Int} {ts : List (List Nat)} : ∀ r ∈ outL (vobCode p n m k ts x) (vobL p x ts), Bytes 27 r := outL_bytes2 fun hc r hr => by
  unfold vobL at hr
  obtain ⟨t, _, rfl⟩ := List.mem_map.1 (List.mem_filter.1 hr).1
  unfold vobCode at hc
  split at hc
  · next h2 => exact valP_bytes x t (primeB_b2 (sizesB_parts (borderB_all h2).1).1)
  · omega
theorem vob_len {p n m k x : Int} {ts : List (List Nat)} : (outL (vobCode p n m k ts x) (vobL p x ts)).length ≤ 1048576 := outL_len2 fun h => by
  unfold vobCode at h
  split at h
  · next h2 =>
    have h30 := (borderB_all h2).2.1
    have h := List.length_filter_le nzB (ts.map (valP p x))
    rw [List.length_map] at h
    unfold vobL
    omega
  · omega
end Go.Proofs.Ytnlidegmllcdhaa
