/-
  spec.l08Like, l08Series, l08Is, IsBorder. (Made by mktw3.py.)
-/
import Derived.Test.YtnlidegmllcdhaaTw2
namespace Go.Proofs.Ytnlidegmllcdhaa
open Go.RowKit
set_option maxRecDepth 100000
attribute [local irreducible] wpList
theorem al_impl_Scheme {o : Oper} {a : Act} {w : World} (ho : o.op = .alloc 28) : (execOp a.eval o).run Try.prog w = .ok (.value (.pointer (some ⟨w.heap.size, 0, none⟩))) (w.alloc (.cells #[.int .i64 0, .int .i64 0, .int .i64 0, .int .i64 0, .slice none 0 0] 28 (0, 0))) := by
  unfold execOp
  rw [ho]
  kernel_rfl
set_option maxHeartbeats 4000000 in
theorem l08Like_c (p n m k : Int) (A : Option Addr) (l c : Nat) (w : World) :
    Calls Try.prog 25 #[.agg #[.int .i64 p, .int .i64 n, .int .i64 m, .int .i64 k, .slice A l c]] w (fun e w' => ∃ v, e = .returned (.agg #[.int .i64 p, .int .i64 n, .int .i64 m, .int .i64 k, v]) ∧ Own w' w.heap.size v [] ∧ Below w.heap.size w w') := by
  have hB := Below.refl w.heap.size w
  skip
  go_enter Try.func25, Try.ntmps25
  go_upto_region 0 with (fail)
  refine wp_region_lit ?_
  refine ls_op rfl (fun K' hK' => ?_)
  have lz1 := hB.size
  refine wp_new (some 1) rfl (exec_box 33 _ rfl (#[.int .i64 p, .int .i64 n, .int .i64 m, .int .i64 k, .slice A l c]) rfl) (fun Wz2 nnz3 => ?_)
  have bz4 := nnz3.below (Below.refl _ _) (Nat.le_refl _)
  replace hB := below_after hB bz4
  have hz5 : At Wz2 w.heap.size (.cells #[.int .i64 p, .int .i64 n, .int .i64 m, .int .i64 k, .slice A l c] 33 (0, 0)) := nnz3.at_
  refine hK' _ _ ?_
  clear hK' K' nnz3 bz4
  go_frame
  refine ls_op rfl (fun K' hK' => ?_)
  have lz6 := hB.size
  have lz7 := hz5.lt
  refine wp_new (some 2) rfl (al_impl_Scheme rfl) (fun Wz8 nnz9 => ?_)
  have bz10 := nnz9.below (Below.refl _ _) (Nat.le_refl _)
  replace hB := below_after hB bz10
  replace hz5 := hz5.after bz10
  have hz11 : At Wz8 Wz2.heap.size (.cells #[.int .i64 0, .int .i64 0, .int .i64 0, .int .i64 0, .slice none 0 0] 28 (0, 0)) := nnz9.at_
  refine hK' _ _ ?_
  clear hK' K' nnz9 bz10
  go_frame
  refine wpList_nil ?_
  go_upto_region 1 with (fail)
  refine wp_region_lit ?_
  refine ls_ex (some 3) (.pointer (some ⟨w.heap.size, 0, none⟩)) rfl rfl (exec_fieldAddr 33 _ 0 rfl _ (by kernel_rfl)) ?_
  go_frame
  refine ls_ex (some 4) (.int .i64 p) rfl rfl (exec_load_one 2 _ rfl w.heap.size 0 rfl (.int .i64 p) _ Try.underlying2 rfl (hz5.at_ 0)) ?_
  go_frame
  refine ls_ex (some 5) (.pointer (some ⟨w.heap.size, 1, none⟩)) rfl rfl (exec_fieldAddr 33 _ 1 rfl _ (by kernel_rfl)) ?_
  go_frame
  refine ls_ex (some 6) (.int .i64 n) rfl rfl (exec_load_one 2 _ rfl w.heap.size 1 rfl (.int .i64 n) _ Try.underlying2 rfl (hz5.at_ 1)) ?_
  go_frame
  refine ls_ex (some 7) (.pointer (some ⟨w.heap.size, 2, none⟩)) rfl rfl (exec_fieldAddr 33 _ 2 rfl _ (by kernel_rfl)) ?_
  go_frame
  refine ls_ex (some 8) (.int .i64 m) rfl rfl (exec_load_one 2 _ rfl w.heap.size 2 rfl (.int .i64 m) _ Try.underlying2 rfl (hz5.at_ 2)) ?_
  go_frame
  refine ls_ex (some 9) (.pointer (some ⟨w.heap.size, 3, none⟩)) rfl rfl (exec_fieldAddr 33 _ 3 rfl _ (by kernel_rfl)) ?_
  go_frame
  refine ls_ex (some 10) (.int .i64 k) rfl rfl (exec_load_one 2 _ rfl w.heap.size 3 rfl (.int .i64 k) _ Try.underlying2 rfl (hz5.at_ 3)) ?_
  go_frame
  refine ls_op rfl (fun K' hK' => ?_)
  have lz16 := hB.size
  have lz17 := hz5.lt
  have lz18 := hz11.lt
  refine wp_new (some 11) rfl (exec_bs0 rfl) (fun Wz13 nnz14 => ?_)
  have bz15 := nnz14.below (Below.refl _ _) (Nat.le_refl _)
  replace hB := below_after hB bz15
  replace hz5 := hz5.after bz15
  replace hz11 := hz11.after bz15
  have hoz12 : Own Wz13 Wz8.heap.size (.slice (some ⟨Wz8.heap.size, 0, none⟩) 0 0) [] := own_bs0 nnz14
  refine hK' _ _ ?_
  clear hK' K' nnz14 bz15
  go_frame
  refine ls_ex (some 12) (.agg #[.int .i64 p, .int .i64 n, .int .i64 m, .int .i64 k, .slice (some ⟨Wz8.heap.size, 0, none⟩) 0 0]) rfl rfl (exec_build_sch _ _ _ _ _ rfl p n m k (some ⟨Wz8.heap.size, 0, none⟩) 0 0 rfl rfl rfl rfl rfl) ?_
  go_frame
  refine ls_op rfl (fun K' hK' => ?_)
  refine wp_store_all 28 _ _ rfl rfl Wz2.heap.size rfl #[.int .i64 p, .int .i64 n, .int .i64 m, .int .i64 k, .slice (some ⟨Wz8.heap.size, 0, none⟩) 0 0] rfl _ _ hz11 5 (by kernel_rfl) rfl rfl (one5 _ _ _ _ _ _ _) (fun Wz19 pz20 => ?_)
  replace hB := pz20.below hB (by omega)
  replace hz5 := pz20.other hz5 (by omega)
  replace hoz12 := hoz12.put pz20 (hoz12.ne_lt (by omega))
  replace hz11 : At Wz19 Wz2.heap.size (.cells #[.int .i64 p, .int .i64 n, .int .i64 m, .int .i64 k, .slice (some ⟨Wz8.heap.size, 0, none⟩) 0 0] 28 (0, 0)) := pz20.at_
  refine hK' _ _ ?_
  clear hK' K' pz20
  refine wpList_nil ?_
  go_wp2_with fail
  refine bodyPost_ret (results_at rfl _ _ Wz2.heap.size _ _ _ rfl hz11 Try.underlying28 rfl 5 (by kernel_rfl) rfl) rfl ?_
  exact ⟨_, rfl, hoz12.mono (by have := hB.size; omega), hB⟩
theorem okS_more {p n : Int} {s : List Nat} {c i : Nat} (h : ∀ j, j < c * 4 + i → okS p n s j = true) (h1 : okS p n s (c * 4 + i) = true) : ∀ j, j < c * 4 + (i + 1) → okS p n s j = true := fun j hj => by
  by_cases e : j = c * 4 + i
  · rw [e, h1]
  · exact h j (by omega)
set_option maxHeartbeats 12800000 in
theorem l08Series_c (p : Int) (f : List Nat) (n : Int) (hf : Bytes 36 f) (w : World) :
    Calls Try.prog 49 #[.int .i64 p, .agg (u8s f), .int .i64 n] w (fun e w' => e = .returned (.bool (serB p f n)) ∧ Below w.heap.size w w') := by
  have hB := Below.refl w.heap.size w
  have HL := Lib.hid hf.len
  go_enter Try.func49, Try.ntmps49
  go_upto_region 0 with (fail)
  refine wp_region_lit ?_
  refine ls_op rfl (fun K' hK' => ?_)
  have lz1 := hB.size
  refine wp_new (some 4) rfl (exec_box 50 _ rfl (u8s (f)) rfl) (fun Wz2 nnz3 => ?_)
  have bz4 := nnz3.below (Below.refl _ _) (Nat.le_refl _)
  replace hB := below_after hB bz4
  have hz5 : At Wz2 w.heap.size (.cells (u8s (f)) 50 (0, 0)) := nnz3.at_
  refine hK' _ _ ?_
  clear hK' K' nnz3 bz4
  go_frame
  refine ls_ex (some 6) (.bool false) rfl rfl (exec_assign _ rfl (.bool false) rfl) ?_
  go_frame
  refine wpList_nil ?_
  go_upto_region 1 with (fail)
  refine wp_region_lit ?_
  refine ls_ex (some 7) (.bool false) rfl rfl (exec_assign _ rfl (.bool false) rfl) ?_
  go_frame
  refine wpList_nil ?_
  go_upto_region 2 with (fail)
  refine wp_region_lit ?_
  refine ls_ex (some 8) (.int .i64 0) rfl rfl (exec_assign _ rfl (.int .i64 0) rfl) ?_
  go_frame
  refine wpList_nil ?_
  go_wp2_with fail
  go_loopw [7, 8] (fun s7 s8 wr => ∃ c : Nat, ∃ b : Bool, c ≤ 9 ∧ s8 = .int .i64 c ∧ s7 = .bool b ∧ Hid (b = someS f (c * 4)) ∧ Hid (∀ j, j < c * 4 → okS p n f j = true) ∧ Below w.heap.size w wr ∧ At wr w.heap.size (.cells (u8s (f)) 50 (0, 0))) (fun _ s8 _ => 9 - (intOf s8).toNat)
  case atStart => exact ⟨0, false, by omega, rfl, rfl, Lib.hid rfl, Lib.hid (fun j hj => by omega), hB, hz5⟩
  case round =>
    clear hB hz5
    obtain ⟨c, b, hc, rfl, rfl, HS, HA, hB, h0⟩ := hrel
    by_cases hc9 : c < 9
    · go_upto_region 3 with (fail)
      refine wp_region_lit ?_
      refine ls_ex (some 10) (.int .i64 c) rfl rfl (exec_move _ rfl (.int .i64 c) rfl) ?_
      go_frame
      refine ls_ex (some 11) (.bool true) rfl rfl (exec_lss _ _ _ _ rfl c 9 rfl rfl true (decide_eq_true (by omega))) ?_
      go_frame
      refine wpList_nil ?_
      go_upto_region 5 with (fail)
      refine wp_region_lit ?_
      refine ls_ex (some 9) (.int .i64 0) rfl rfl (exec_assign _ rfl (.int .i64 0) rfl) ?_
      go_frame
      refine wpList_nil ?_
      go_wp2_with fail
      obtain ⟨we, rfl⟩ : ∃ x : World, x = wr := ⟨_, rfl⟩
      go_loopw [7, 9] (fun s7 s9 wr => ∃ i : Nat, ∃ b : Bool, i ≤ 4 ∧ s9 = .int .i64 i ∧ s7 = .bool b ∧ Hid (b = someS f (c * 4 + i)) ∧ Hid (∀ j, j < c * 4 + i → okS p n f j = true) ∧ Below w.heap.size w wr ∧ At wr w.heap.size (.cells (u8s (f)) 50 (0, 0))) (fun _ s9 _ => 4 - (intOf s9).toNat)
      case atStart => exact ⟨0, b, by omega, rfl, rfl, HS, HA, hB, h0⟩
      case round =>
        clear hB h0
        obtain ⟨i, b, hi, rfl, rfl, HS, HA, hB, h0⟩ := hrel
        by_cases hi4 : i < 4
        · have hcx := h0.cell (i := c * 4 + i) (by rw [HL.out]; omega)
          have hx256 := hf.lt (c * 4 + i)
          have Hok := Lib.hid (fun n => okS_at (p := p) (n := n) (s := f) (c := c) (i := i) hi4 rfl)
          have Hst := Lib.hid (someS_step (s := f) (k := c * 4 + i) (by rw [HL.out]; omega) rfl)
          generalize f[c * 4 + i]?.getD 0 = x at *
          by_cases hxp : (x : Int) < p
          · by_cases hcn : (c : Int) < n
            · cases b with
              | false =>
                by_cases hz : x = 0
                · have hnz : ((x : Int) != 0) = false := by simp; omega
                  have HOk : Hid (∀ j, j < c * 4 + (i + 1) → okS p n f j = true) := Lib.hid (okS_more HA.out (by rw [Hok.out n]; simp; omega))
                  have HS2 : Hid (false = someS f (c * 4 + (i + 1))) := Lib.hid (by rw [show c * 4 + (i + 1) = c * 4 + i + 1 by omega, Hst.out, ← HS.out]; simp; try omega)
                  clear hz
                  clear HS HA
                  go_upto_region 6 with (fail)
                  refine wp_region_lit ?_
                  refine ls_ex (some 14) (.int .i64 i) rfl rfl (exec_move _ rfl (.int .i64 i) rfl) ?_
                  go_frame
                  refine ls_ex (some 15) (.bool true) rfl rfl (exec_lss _ _ _ _ rfl i 4 rfl rfl true (decide_eq_true (by omega))) ?_
                  go_frame
                  refine wpList_nil ?_
                  go_upto_region 8 with (fail)
                  refine wp_region_lit ?_
                  refine ls_ex (some 18) (.int .i64 c) rfl rfl (exec_move _ rfl (.int .i64 c) rfl) ?_
                  go_frame
                  refine ls_ex (some 19) (.int .i64 i) rfl rfl (exec_move _ rfl (.int .i64 i) rfl) ?_
                  go_frame
                  refine ls_ex (some 20) (.pointer (some ⟨w.heap.size, c * 4, none⟩)) rfl rfl (exec_index_arr0 50 48 _ _ rfl w.heap.size 9 c 4 rfl rfl Try.underlying50 (by kernel_rfl) hc9) ?_
                  go_frame
                  refine ls_ex (some 21) (.pointer (some ⟨w.heap.size, c * 4 + i, none⟩)) rfl rfl (exec_index_arr1 48 5 _ _ rfl w.heap.size (c * 4) 4 i rfl rfl Try.underlying48 (by kernel_rfl) hi4) ?_
                  go_frame
                  refine ls_ex (some 22) (.int .u8 (x : Nat)) rfl rfl (exec_load_one 5 _ rfl w.heap.size (c * 4 + i) rfl (.int .u8 (x : Nat)) _ Try.underlying5 rfl hcx) ?_
                  go_frame
                  refine ls_ex (some 23) (.int .i64 (x : Int)) rfl rfl (exec_conv _ rfl x rfl hx256) ?_
                  go_frame
                  refine ls_ex (some 24) (.int .i64 p) rfl rfl (exec_move _ rfl (.int .i64 p) rfl) ?_
                  go_frame
                  refine ls_ex (some 25) (.bool false) rfl rfl (exec_geq _ _ _ _ rfl ((x : Int)) p rfl rfl false (decide_eq_false (by omega))) ?_
                  go_frame
                  refine ls_ex (some 26) (.bool false) rfl rfl (exec_move _ rfl (.bool false) rfl) ?_
                  go_frame
                  refine ls_ex_g (some 27) (.int .i64 c) rfl rfl (exec_move _ rfl (.int .i64 c) rfl) ?_
                  go_frame
                  refine ls_ex_g (some 28) (.int .i64 n) rfl rfl (exec_move _ rfl (.int .i64 n) rfl) ?_
                  go_frame
                  refine ls_ex_g (some 29) (.bool false) rfl rfl (exec_geq _ _ _ _ rfl c n rfl rfl false (decide_eq_false (by omega))) ?_
                  go_frame
                  refine ls_ex_g (some 30) (.bool false) rfl rfl (exec_move _ rfl (.bool false) rfl) ?_
                  go_frame
                  refine ls_skip_g (some 31) rfl rfl ?_
                  go_frame
                  refine ls_skip_g (some 32) rfl rfl ?_
                  go_frame
                  refine ls_skip_g (some 33) rfl rfl ?_
                  go_frame
                  refine ls_skip_g (some 34) rfl rfl ?_
                  go_frame
                  refine ls_skip_g (some 35) rfl rfl ?_
                  go_frame
                  refine ls_skip_g (some 36) rfl rfl ?_
                  go_frame
                  refine ls_ex_g (some 37) (.bool false) rfl rfl (exec_pick _ _ _ rfl false rfl (.bool false) rfl) ?_
                  go_frame
                  refine ls_ex (some 38) (.bool false) rfl rfl (exec_pick _ _ _ rfl false rfl (.bool false) rfl) ?_
                  go_frame
                  refine wpList_nil ?_
                  go_upto_region 10 with (fail)
                  refine wp_region_lit ?_
                  refine ls_ex (some 39) (.bool false) rfl rfl (exec_move _ rfl (.bool false) rfl) ?_
                  go_frame
                  refine ls_ex (some 40) (.bool false) rfl rfl (exec_move _ rfl (.bool false) rfl) ?_
                  go_frame
                  refine ls_ex_g (some 41) (.int .i64 c) rfl rfl (exec_move _ rfl (.int .i64 c) rfl) ?_
                  go_frame
                  refine ls_ex_g (some 42) (.int .i64 i) rfl rfl (exec_move _ rfl (.int .i64 i) rfl) ?_
                  go_frame
                  refine ls_ex_g (some 43) (.pointer (some ⟨w.heap.size, c * 4, none⟩)) rfl rfl (exec_index_arr0 50 48 _ _ rfl w.heap.size 9 c 4 rfl rfl Try.underlying50 (by kernel_rfl) hc9) ?_
                  go_frame
                  refine ls_ex_g (some 44) (.pointer (some ⟨w.heap.size, c * 4 + i, none⟩)) rfl rfl (exec_index_arr1 48 5 _ _ rfl w.heap.size (c * 4) 4 i rfl rfl Try.underlying48 (by kernel_rfl) hi4) ?_
                  go_frame
                  refine ls_ex_g (some 45) (.int .u8 (x : Nat)) rfl rfl (exec_load_one 5 _ rfl w.heap.size (c * 4 + i) rfl (.int .u8 (x : Nat)) _ Try.underlying5 rfl hcx) ?_
                  go_frame
                  refine ls_ex_g (some 46) (.bool false) rfl rfl (exec_neqb _ _ _ _ rfl (x : Int) 0 rfl rfl false hnz) ?_
                  go_frame
                  refine ls_ex (some 47) (.bool false) rfl rfl (exec_pick _ _ _ rfl false rfl (.bool false) rfl) ?_
                  go_frame
                  refine ls_ex (some 7) (.bool false) rfl rfl (exec_assign _ rfl (.bool false) rfl) ?_
                  go_frame
                  refine wpList_nil ?_
                  go_upto_region 7 with (fail)
                  refine wp_region_lit ?_
                  refine ls_ex (some 16) (.int .i64 i) rfl rfl (exec_move _ rfl (.int .i64 i) rfl) ?_
                  go_frame
                  refine ls_ex (some 17) (.int .i64 (i + 1)) rfl rfl (exec_add _ _ _ _ rfl i 1 (i + 1) rfl rfl (IntWalk.i64_in _ (by omega))) ?_
                  go_frame
                  refine ls_ex (some 9) (.int .i64 (i + 1)) rfl rfl (exec_assign _ rfl (.int .i64 (i + 1)) rfl) ?_
                  go_frame
                  refine wpList_nil ?_
                  go_wp2_with fail
                  go_roundw
                  case rel => exact ⟨i + 1, false, by omega, by go_num, rfl, HS2, HOk, hB, h0⟩
                  case measure => simp [intOf]; omega
                · have hnz : ((x : Int) != 0) = true := by simp; omega
                  have HOk : Hid (∀ j, j < c * 4 + (i + 1) → okS p n f j = true) := Lib.hid (okS_more HA.out (by rw [Hok.out n]; simp; omega))
                  have HS2 : Hid (true = someS f (c * 4 + (i + 1))) := Lib.hid (by rw [show c * 4 + (i + 1) = c * 4 + i + 1 by omega, Hst.out, ← HS.out]; simp; try omega)
                  clear hz
                  clear HS HA
                  go_upto_region 6 with (fail)
                  refine wp_region_lit ?_
                  refine ls_ex (some 14) (.int .i64 i) rfl rfl (exec_move _ rfl (.int .i64 i) rfl) ?_
                  go_frame
                  refine ls_ex (some 15) (.bool true) rfl rfl (exec_lss _ _ _ _ rfl i 4 rfl rfl true (decide_eq_true (by omega))) ?_
                  go_frame
                  refine wpList_nil ?_
                  go_upto_region 8 with (fail)
                  refine wp_region_lit ?_
                  refine ls_ex (some 18) (.int .i64 c) rfl rfl (exec_move _ rfl (.int .i64 c) rfl) ?_
                  go_frame
                  refine ls_ex (some 19) (.int .i64 i) rfl rfl (exec_move _ rfl (.int .i64 i) rfl) ?_
                  go_frame
                  refine ls_ex (some 20) (.pointer (some ⟨w.heap.size, c * 4, none⟩)) rfl rfl (exec_index_arr0 50 48 _ _ rfl w.heap.size 9 c 4 rfl rfl Try.underlying50 (by kernel_rfl) hc9) ?_
                  go_frame
                  refine ls_ex (some 21) (.pointer (some ⟨w.heap.size, c * 4 + i, none⟩)) rfl rfl (exec_index_arr1 48 5 _ _ rfl w.heap.size (c * 4) 4 i rfl rfl Try.underlying48 (by kernel_rfl) hi4) ?_
                  go_frame
                  refine ls_ex (some 22) (.int .u8 (x : Nat)) rfl rfl (exec_load_one 5 _ rfl w.heap.size (c * 4 + i) rfl (.int .u8 (x : Nat)) _ Try.underlying5 rfl hcx) ?_
                  go_frame
                  refine ls_ex (some 23) (.int .i64 (x : Int)) rfl rfl (exec_conv _ rfl x rfl hx256) ?_
                  go_frame
                  refine ls_ex (some 24) (.int .i64 p) rfl rfl (exec_move _ rfl (.int .i64 p) rfl) ?_
                  go_frame
                  refine ls_ex (some 25) (.bool false) rfl rfl (exec_geq _ _ _ _ rfl ((x : Int)) p rfl rfl false (decide_eq_false (by omega))) ?_
                  go_frame
                  refine ls_ex (some 26) (.bool false) rfl rfl (exec_move _ rfl (.bool false) rfl) ?_
                  go_frame
                  refine ls_ex_g (some 27) (.int .i64 c) rfl rfl (exec_move _ rfl (.int .i64 c) rfl) ?_
                  go_frame
                  refine ls_ex_g (some 28) (.int .i64 n) rfl rfl (exec_move _ rfl (.int .i64 n) rfl) ?_
                  go_frame
                  refine ls_ex_g (some 29) (.bool false) rfl rfl (exec_geq _ _ _ _ rfl c n rfl rfl false (decide_eq_false (by omega))) ?_
                  go_frame
                  refine ls_ex_g (some 30) (.bool false) rfl rfl (exec_move _ rfl (.bool false) rfl) ?_
                  go_frame
                  refine ls_skip_g (some 31) rfl rfl ?_
                  go_frame
                  refine ls_skip_g (some 32) rfl rfl ?_
                  go_frame
                  refine ls_skip_g (some 33) rfl rfl ?_
                  go_frame
                  refine ls_skip_g (some 34) rfl rfl ?_
                  go_frame
                  refine ls_skip_g (some 35) rfl rfl ?_
                  go_frame
                  refine ls_skip_g (some 36) rfl rfl ?_
                  go_frame
                  refine ls_ex_g (some 37) (.bool false) rfl rfl (exec_pick _ _ _ rfl false rfl (.bool false) rfl) ?_
                  go_frame
                  refine ls_ex (some 38) (.bool false) rfl rfl (exec_pick _ _ _ rfl false rfl (.bool false) rfl) ?_
                  go_frame
                  refine wpList_nil ?_
                  go_upto_region 10 with (fail)
                  refine wp_region_lit ?_
                  refine ls_ex (some 39) (.bool false) rfl rfl (exec_move _ rfl (.bool false) rfl) ?_
                  go_frame
                  refine ls_ex (some 40) (.bool false) rfl rfl (exec_move _ rfl (.bool false) rfl) ?_
                  go_frame
                  refine ls_ex_g (some 41) (.int .i64 c) rfl rfl (exec_move _ rfl (.int .i64 c) rfl) ?_
                  go_frame
                  refine ls_ex_g (some 42) (.int .i64 i) rfl rfl (exec_move _ rfl (.int .i64 i) rfl) ?_
                  go_frame
                  refine ls_ex_g (some 43) (.pointer (some ⟨w.heap.size, c * 4, none⟩)) rfl rfl (exec_index_arr0 50 48 _ _ rfl w.heap.size 9 c 4 rfl rfl Try.underlying50 (by kernel_rfl) hc9) ?_
                  go_frame
                  refine ls_ex_g (some 44) (.pointer (some ⟨w.heap.size, c * 4 + i, none⟩)) rfl rfl (exec_index_arr1 48 5 _ _ rfl w.heap.size (c * 4) 4 i rfl rfl Try.underlying48 (by kernel_rfl) hi4) ?_
                  go_frame
                  refine ls_ex_g (some 45) (.int .u8 (x : Nat)) rfl rfl (exec_load_one 5 _ rfl w.heap.size (c * 4 + i) rfl (.int .u8 (x : Nat)) _ Try.underlying5 rfl hcx) ?_
                  go_frame
                  refine ls_ex_g (some 46) (.bool true) rfl rfl (exec_neqb _ _ _ _ rfl (x : Int) 0 rfl rfl true hnz) ?_
                  go_frame
                  refine ls_ex (some 47) (.bool true) rfl rfl (exec_pick _ _ _ rfl false rfl (.bool true) rfl) ?_
                  go_frame
                  refine ls_ex (some 7) (.bool true) rfl rfl (exec_assign _ rfl (.bool true) rfl) ?_
                  go_frame
                  refine wpList_nil ?_
                  go_upto_region 7 with (fail)
                  refine wp_region_lit ?_
                  refine ls_ex (some 16) (.int .i64 i) rfl rfl (exec_move _ rfl (.int .i64 i) rfl) ?_
                  go_frame
                  refine ls_ex (some 17) (.int .i64 (i + 1)) rfl rfl (exec_add _ _ _ _ rfl i 1 (i + 1) rfl rfl (IntWalk.i64_in _ (by omega))) ?_
                  go_frame
                  refine ls_ex (some 9) (.int .i64 (i + 1)) rfl rfl (exec_assign _ rfl (.int .i64 (i + 1)) rfl) ?_
                  go_frame
                  refine wpList_nil ?_
                  go_wp2_with fail
                  go_roundw
                  case rel => exact ⟨i + 1, true, by omega, by go_num, rfl, HS2, HOk, hB, h0⟩
                  case measure => simp [intOf]; omega
              | true =>
                by_cases hz : x = 0
                · have hnz : ((x : Int) != 0) = false := by simp; omega
                  have HOk : Hid (∀ j, j < c * 4 + (i + 1) → okS p n f j = true) := Lib.hid (okS_more HA.out (by rw [Hok.out n]; simp; omega))
                  have HS2 : Hid (true = someS f (c * 4 + (i + 1))) := Lib.hid (by rw [show c * 4 + (i + 1) = c * 4 + i + 1 by omega, Hst.out, ← HS.out]; simp; try omega)
                  clear hz
                  clear HS HA
                  go_upto_region 6 with (fail)
                  refine wp_region_lit ?_
                  refine ls_ex (some 14) (.int .i64 i) rfl rfl (exec_move _ rfl (.int .i64 i) rfl) ?_
                  go_frame
                  refine ls_ex (some 15) (.bool true) rfl rfl (exec_lss _ _ _ _ rfl i 4 rfl rfl true (decide_eq_true (by omega))) ?_
                  go_frame
                  refine wpList_nil ?_
                  go_upto_region 8 with (fail)
                  refine wp_region_lit ?_
                  refine ls_ex (some 18) (.int .i64 c) rfl rfl (exec_move _ rfl (.int .i64 c) rfl) ?_
                  go_frame
                  refine ls_ex (some 19) (.int .i64 i) rfl rfl (exec_move _ rfl (.int .i64 i) rfl) ?_
                  go_frame
                  refine ls_ex (some 20) (.pointer (some ⟨w.heap.size, c * 4, none⟩)) rfl rfl (exec_index_arr0 50 48 _ _ rfl w.heap.size 9 c 4 rfl rfl Try.underlying50 (by kernel_rfl) hc9) ?_
                  go_frame
                  refine ls_ex (some 21) (.pointer (some ⟨w.heap.size, c * 4 + i, none⟩)) rfl rfl (exec_index_arr1 48 5 _ _ rfl w.heap.size (c * 4) 4 i rfl rfl Try.underlying48 (by kernel_rfl) hi4) ?_
                  go_frame
                  refine ls_ex (some 22) (.int .u8 (x : Nat)) rfl rfl (exec_load_one 5 _ rfl w.heap.size (c * 4 + i) rfl (.int .u8 (x : Nat)) _ Try.underlying5 rfl hcx) ?_
                  go_frame
                  refine ls_ex (some 23) (.int .i64 (x : Int)) rfl rfl (exec_conv _ rfl x rfl hx256) ?_
                  go_frame
                  refine ls_ex (some 24) (.int .i64 p) rfl rfl (exec_move _ rfl (.int .i64 p) rfl) ?_
                  go_frame
                  refine ls_ex (some 25) (.bool false) rfl rfl (exec_geq _ _ _ _ rfl ((x : Int)) p rfl rfl false (decide_eq_false (by omega))) ?_
                  go_frame
                  refine ls_ex (some 26) (.bool false) rfl rfl (exec_move _ rfl (.bool false) rfl) ?_
                  go_frame
                  refine ls_ex_g (some 27) (.int .i64 c) rfl rfl (exec_move _ rfl (.int .i64 c) rfl) ?_
                  go_frame
                  refine ls_ex_g (some 28) (.int .i64 n) rfl rfl (exec_move _ rfl (.int .i64 n) rfl) ?_
                  go_frame
                  refine ls_ex_g (some 29) (.bool false) rfl rfl (exec_geq _ _ _ _ rfl c n rfl rfl false (decide_eq_false (by omega))) ?_
                  go_frame
                  refine ls_ex_g (some 30) (.bool false) rfl rfl (exec_move _ rfl (.bool false) rfl) ?_
                  go_frame
                  refine ls_skip_g (some 31) rfl rfl ?_
                  go_frame
                  refine ls_skip_g (some 32) rfl rfl ?_
                  go_frame
                  refine ls_skip_g (some 33) rfl rfl ?_
                  go_frame
                  refine ls_skip_g (some 34) rfl rfl ?_
                  go_frame
                  refine ls_skip_g (some 35) rfl rfl ?_
                  go_frame
                  refine ls_skip_g (some 36) rfl rfl ?_
                  go_frame
                  refine ls_ex_g (some 37) (.bool false) rfl rfl (exec_pick _ _ _ rfl false rfl (.bool false) rfl) ?_
                  go_frame
                  refine ls_ex (some 38) (.bool false) rfl rfl (exec_pick _ _ _ rfl false rfl (.bool false) rfl) ?_
                  go_frame
                  refine wpList_nil ?_
                  go_upto_region 10 with (fail)
                  refine wp_region_lit ?_
                  refine ls_ex (some 39) (.bool true) rfl rfl (exec_move _ rfl (.bool true) rfl) ?_
                  go_frame
                  refine ls_ex (some 40) (.bool true) rfl rfl (exec_move _ rfl (.bool true) rfl) ?_
                  go_frame
                  refine ls_skip_g (some 41) rfl rfl ?_
                  go_frame
                  refine ls_skip_g (some 42) rfl rfl ?_
                  go_frame
                  refine ls_skip_g (some 43) rfl rfl ?_
                  go_frame
                  refine ls_skip_g (some 44) rfl rfl ?_
                  go_frame
                  refine ls_skip_g (some 45) rfl rfl ?_
                  go_frame
                  refine ls_skip_g (some 46) rfl rfl ?_
                  go_frame
                  refine ls_ex (some 47) (.bool true) rfl rfl (exec_pick _ _ _ rfl true rfl (.bool true) rfl) ?_
                  go_frame
                  refine ls_ex (some 7) (.bool true) rfl rfl (exec_assign _ rfl (.bool true) rfl) ?_
                  go_frame
                  refine wpList_nil ?_
                  go_upto_region 7 with (fail)
                  refine wp_region_lit ?_
                  refine ls_ex (some 16) (.int .i64 i) rfl rfl (exec_move _ rfl (.int .i64 i) rfl) ?_
                  go_frame
                  refine ls_ex (some 17) (.int .i64 (i + 1)) rfl rfl (exec_add _ _ _ _ rfl i 1 (i + 1) rfl rfl (IntWalk.i64_in _ (by omega))) ?_
                  go_frame
                  refine ls_ex (some 9) (.int .i64 (i + 1)) rfl rfl (exec_assign _ rfl (.int .i64 (i + 1)) rfl) ?_
                  go_frame
                  refine wpList_nil ?_
                  go_wp2_with fail
                  go_roundw
                  case rel => exact ⟨i + 1, true, by omega, by go_num, rfl, HS2, HOk, hB, h0⟩
                  case measure => simp [intOf]; omega
                · have hnz : ((x : Int) != 0) = true := by simp; omega
                  have HOk : Hid (∀ j, j < c * 4 + (i + 1) → okS p n f j = true) := Lib.hid (okS_more HA.out (by rw [Hok.out n]; simp; omega))
                  have HS2 : Hid (true = someS f (c * 4 + (i + 1))) := Lib.hid (by rw [show c * 4 + (i + 1) = c * 4 + i + 1 by omega, Hst.out, ← HS.out]; simp; try omega)
                  clear hz
                  clear HS HA
                  go_upto_region 6 with (fail)
                  refine wp_region_lit ?_
                  refine ls_ex (some 14) (.int .i64 i) rfl rfl (exec_move _ rfl (.int .i64 i) rfl) ?_
                  go_frame
                  refine ls_ex (some 15) (.bool true) rfl rfl (exec_lss _ _ _ _ rfl i 4 rfl rfl true (decide_eq_true (by omega))) ?_
                  go_frame
                  refine wpList_nil ?_
                  go_upto_region 8 with (fail)
                  refine wp_region_lit ?_
                  refine ls_ex (some 18) (.int .i64 c) rfl rfl (exec_move _ rfl (.int .i64 c) rfl) ?_
                  go_frame
                  refine ls_ex (some 19) (.int .i64 i) rfl rfl (exec_move _ rfl (.int .i64 i) rfl) ?_
                  go_frame
                  refine ls_ex (some 20) (.pointer (some ⟨w.heap.size, c * 4, none⟩)) rfl rfl (exec_index_arr0 50 48 _ _ rfl w.heap.size 9 c 4 rfl rfl Try.underlying50 (by kernel_rfl) hc9) ?_
                  go_frame
                  refine ls_ex (some 21) (.pointer (some ⟨w.heap.size, c * 4 + i, none⟩)) rfl rfl (exec_index_arr1 48 5 _ _ rfl w.heap.size (c * 4) 4 i rfl rfl Try.underlying48 (by kernel_rfl) hi4) ?_
                  go_frame
                  refine ls_ex (some 22) (.int .u8 (x : Nat)) rfl rfl (exec_load_one 5 _ rfl w.heap.size (c * 4 + i) rfl (.int .u8 (x : Nat)) _ Try.underlying5 rfl hcx) ?_
                  go_frame
                  refine ls_ex (some 23) (.int .i64 (x : Int)) rfl rfl (exec_conv _ rfl x rfl hx256) ?_
                  go_frame
                  refine ls_ex (some 24) (.int .i64 p) rfl rfl (exec_move _ rfl (.int .i64 p) rfl) ?_
                  go_frame
                  refine ls_ex (some 25) (.bool false) rfl rfl (exec_geq _ _ _ _ rfl ((x : Int)) p rfl rfl false (decide_eq_false (by omega))) ?_
                  go_frame
                  refine ls_ex (some 26) (.bool false) rfl rfl (exec_move _ rfl (.bool false) rfl) ?_
                  go_frame
                  refine ls_ex_g (some 27) (.int .i64 c) rfl rfl (exec_move _ rfl (.int .i64 c) rfl) ?_
                  go_frame
                  refine ls_ex_g (some 28) (.int .i64 n) rfl rfl (exec_move _ rfl (.int .i64 n) rfl) ?_
                  go_frame
                  refine ls_ex_g (some 29) (.bool false) rfl rfl (exec_geq _ _ _ _ rfl c n rfl rfl false (decide_eq_false (by omega))) ?_
                  go_frame
                  refine ls_ex_g (some 30) (.bool false) rfl rfl (exec_move _ rfl (.bool false) rfl) ?_
                  go_frame
                  refine ls_skip_g (some 31) rfl rfl ?_
                  go_frame
                  refine ls_skip_g (some 32) rfl rfl ?_
                  go_frame
                  refine ls_skip_g (some 33) rfl rfl ?_
                  go_frame
                  refine ls_skip_g (some 34) rfl rfl ?_
                  go_frame
                  refine ls_skip_g (some 35) rfl rfl ?_
                  go_frame
                  refine ls_skip_g (some 36) rfl rfl ?_
                  go_frame
                  refine ls_ex_g (some 37) (.bool false) rfl rfl (exec_pick _ _ _ rfl false rfl (.bool false) rfl) ?_
                  go_frame
                  refine ls_ex (some 38) (.bool false) rfl rfl (exec_pick _ _ _ rfl false rfl (.bool false) rfl) ?_
                  go_frame
                  refine wpList_nil ?_
                  go_upto_region 10 with (fail)
                  refine wp_region_lit ?_
                  refine ls_ex (some 39) (.bool true) rfl rfl (exec_move _ rfl (.bool true) rfl) ?_
                  go_frame
                  refine ls_ex (some 40) (.bool true) rfl rfl (exec_move _ rfl (.bool true) rfl) ?_
                  go_frame
                  refine ls_skip_g (some 41) rfl rfl ?_
                  go_frame
                  refine ls_skip_g (some 42) rfl rfl ?_
                  go_frame
                  refine ls_skip_g (some 43) rfl rfl ?_
                  go_frame
                  refine ls_skip_g (some 44) rfl rfl ?_
                  go_frame
                  refine ls_skip_g (some 45) rfl rfl ?_
                  go_frame
                  refine ls_skip_g (some 46) rfl rfl ?_
                  go_frame
                  refine ls_ex (some 47) (.bool true) rfl rfl (exec_pick _ _ _ rfl true rfl (.bool true) rfl) ?_
                  go_frame
                  refine ls_ex (some 7) (.bool true) rfl rfl (exec_assign _ rfl (.bool true) rfl) ?_
                  go_frame
                  refine wpList_nil ?_
                  go_upto_region 7 with (fail)
                  refine wp_region_lit ?_
                  refine ls_ex (some 16) (.int .i64 i) rfl rfl (exec_move _ rfl (.int .i64 i) rfl) ?_
                  go_frame
                  refine ls_ex (some 17) (.int .i64 (i + 1)) rfl rfl (exec_add _ _ _ _ rfl i 1 (i + 1) rfl rfl (IntWalk.i64_in _ (by omega))) ?_
                  go_frame
                  refine ls_ex (some 9) (.int .i64 (i + 1)) rfl rfl (exec_assign _ rfl (.int .i64 (i + 1)) rfl) ?_
                  go_frame
                  refine wpList_nil ?_
                  go_wp2_with fail
                  go_roundw
                  case rel => exact ⟨i + 1, true, by omega, by go_num, rfl, HS2, HOk, hB, h0⟩
                  case measure => simp [intOf]; omega
            · by_cases hz : x = 0
              · cases b with
                | false =>
                  have hnz : ((x : Int) != 0) = false := by simp; omega
                  have HOk : Hid (∀ j, j < c * 4 + (i + 1) → okS p n f j = true) := Lib.hid (okS_more HA.out (by rw [Hok.out n]; simp; omega))
                  have HS2 : Hid (false = someS f (c * 4 + (i + 1))) := Lib.hid (by rw [show c * 4 + (i + 1) = c * 4 + i + 1 by omega, Hst.out, ← HS.out]; simp; try omega)
                  clear hz
                  clear HS HA
                  go_upto_region 6 with (fail)
                  refine wp_region_lit ?_
                  refine ls_ex (some 14) (.int .i64 i) rfl rfl (exec_move _ rfl (.int .i64 i) rfl) ?_
                  go_frame
                  refine ls_ex (some 15) (.bool true) rfl rfl (exec_lss _ _ _ _ rfl i 4 rfl rfl true (decide_eq_true (by omega))) ?_
                  go_frame
                  refine wpList_nil ?_
                  go_upto_region 8 with (fail)
                  refine wp_region_lit ?_
                  refine ls_ex (some 18) (.int .i64 c) rfl rfl (exec_move _ rfl (.int .i64 c) rfl) ?_
                  go_frame
                  refine ls_ex (some 19) (.int .i64 i) rfl rfl (exec_move _ rfl (.int .i64 i) rfl) ?_
                  go_frame
                  refine ls_ex (some 20) (.pointer (some ⟨w.heap.size, c * 4, none⟩)) rfl rfl (exec_index_arr0 50 48 _ _ rfl w.heap.size 9 c 4 rfl rfl Try.underlying50 (by kernel_rfl) hc9) ?_
                  go_frame
                  refine ls_ex (some 21) (.pointer (some ⟨w.heap.size, c * 4 + i, none⟩)) rfl rfl (exec_index_arr1 48 5 _ _ rfl w.heap.size (c * 4) 4 i rfl rfl Try.underlying48 (by kernel_rfl) hi4) ?_
                  go_frame
                  refine ls_ex (some 22) (.int .u8 (x : Nat)) rfl rfl (exec_load_one 5 _ rfl w.heap.size (c * 4 + i) rfl (.int .u8 (x : Nat)) _ Try.underlying5 rfl hcx) ?_
                  go_frame
                  refine ls_ex (some 23) (.int .i64 (x : Int)) rfl rfl (exec_conv _ rfl x rfl hx256) ?_
                  go_frame
                  refine ls_ex (some 24) (.int .i64 p) rfl rfl (exec_move _ rfl (.int .i64 p) rfl) ?_
                  go_frame
                  refine ls_ex (some 25) (.bool false) rfl rfl (exec_geq _ _ _ _ rfl ((x : Int)) p rfl rfl false (decide_eq_false (by omega))) ?_
                  go_frame
                  refine ls_ex (some 26) (.bool false) rfl rfl (exec_move _ rfl (.bool false) rfl) ?_
                  go_frame
                  refine ls_ex_g (some 27) (.int .i64 c) rfl rfl (exec_move _ rfl (.int .i64 c) rfl) ?_
                  go_frame
                  refine ls_ex_g (some 28) (.int .i64 n) rfl rfl (exec_move _ rfl (.int .i64 n) rfl) ?_
                  go_frame
                  refine ls_ex_g (some 29) (.bool true) rfl rfl (exec_geq _ _ _ _ rfl c n rfl rfl true (decide_eq_true (by omega))) ?_
                  go_frame
                  refine ls_ex_g (some 30) (.bool true) rfl rfl (exec_move _ rfl (.bool true) rfl) ?_
                  go_frame
                  refine ls_ex_g (some 31) (.int .i64 c) rfl rfl (exec_move _ rfl (.int .i64 c) rfl) ?_
                  go_frame
                  refine ls_ex_g (some 32) (.int .i64 i) rfl rfl (exec_move _ rfl (.int .i64 i) rfl) ?_
                  go_frame
                  refine ls_ex_g (some 33) (.pointer (some ⟨w.heap.size, c * 4, none⟩)) rfl rfl (exec_index_arr0 50 48 _ _ rfl w.heap.size 9 c 4 rfl rfl Try.underlying50 (by kernel_rfl) hc9) ?_
                  go_frame
                  refine ls_ex_g (some 34) (.pointer (some ⟨w.heap.size, c * 4 + i, none⟩)) rfl rfl (exec_index_arr1 48 5 _ _ rfl w.heap.size (c * 4) 4 i rfl rfl Try.underlying48 (by kernel_rfl) hi4) ?_
                  go_frame
                  refine ls_ex_g (some 35) (.int .u8 (x : Nat)) rfl rfl (exec_load_one 5 _ rfl w.heap.size (c * 4 + i) rfl (.int .u8 (x : Nat)) _ Try.underlying5 rfl hcx) ?_
                  go_frame
                  refine ls_ex_g (some 36) (.bool false) rfl rfl (exec_neqb _ _ _ _ rfl (x : Int) 0 rfl rfl false hnz) ?_
                  go_frame
                  refine ls_ex_g (some 37) (.bool false) rfl rfl (exec_pick _ _ _ rfl true rfl (.bool false) rfl) ?_
                  go_frame
                  refine ls_ex (some 38) (.bool false) rfl rfl (exec_pick _ _ _ rfl false rfl (.bool false) rfl) ?_
                  go_frame
                  refine wpList_nil ?_
                  go_upto_region 10 with (fail)
                  refine wp_region_lit ?_
                  refine ls_ex (some 39) (.bool false) rfl rfl (exec_move _ rfl (.bool false) rfl) ?_
                  go_frame
                  refine ls_ex (some 40) (.bool false) rfl rfl (exec_move _ rfl (.bool false) rfl) ?_
                  go_frame
                  refine ls_ex_g (some 41) (.int .i64 c) rfl rfl (exec_move _ rfl (.int .i64 c) rfl) ?_
                  go_frame
                  refine ls_ex_g (some 42) (.int .i64 i) rfl rfl (exec_move _ rfl (.int .i64 i) rfl) ?_
                  go_frame
                  refine ls_ex_g (some 43) (.pointer (some ⟨w.heap.size, c * 4, none⟩)) rfl rfl (exec_index_arr0 50 48 _ _ rfl w.heap.size 9 c 4 rfl rfl Try.underlying50 (by kernel_rfl) hc9) ?_
                  go_frame
                  refine ls_ex_g (some 44) (.pointer (some ⟨w.heap.size, c * 4 + i, none⟩)) rfl rfl (exec_index_arr1 48 5 _ _ rfl w.heap.size (c * 4) 4 i rfl rfl Try.underlying48 (by kernel_rfl) hi4) ?_
                  go_frame
                  refine ls_ex_g (some 45) (.int .u8 (x : Nat)) rfl rfl (exec_load_one 5 _ rfl w.heap.size (c * 4 + i) rfl (.int .u8 (x : Nat)) _ Try.underlying5 rfl hcx) ?_
                  go_frame
                  refine ls_ex_g (some 46) (.bool false) rfl rfl (exec_neqb _ _ _ _ rfl (x : Int) 0 rfl rfl false hnz) ?_
                  go_frame
                  refine ls_ex (some 47) (.bool false) rfl rfl (exec_pick _ _ _ rfl false rfl (.bool false) rfl) ?_
                  go_frame
                  refine ls_ex (some 7) (.bool false) rfl rfl (exec_assign _ rfl (.bool false) rfl) ?_
                  go_frame
                  refine wpList_nil ?_
                  go_upto_region 7 with (fail)
                  refine wp_region_lit ?_
                  refine ls_ex (some 16) (.int .i64 i) rfl rfl (exec_move _ rfl (.int .i64 i) rfl) ?_
                  go_frame
                  refine ls_ex (some 17) (.int .i64 (i + 1)) rfl rfl (exec_add _ _ _ _ rfl i 1 (i + 1) rfl rfl (IntWalk.i64_in _ (by omega))) ?_
                  go_frame
                  refine ls_ex (some 9) (.int .i64 (i + 1)) rfl rfl (exec_assign _ rfl (.int .i64 (i + 1)) rfl) ?_
                  go_frame
                  refine wpList_nil ?_
                  go_wp2_with fail
                  go_roundw
                  case rel => exact ⟨i + 1, false, by omega, by go_num, rfl, HS2, HOk, hB, h0⟩
                  case measure => simp [intOf]; omega
                | true =>
                  have hnz : ((x : Int) != 0) = false := by simp; omega
                  have HOk : Hid (∀ j, j < c * 4 + (i + 1) → okS p n f j = true) := Lib.hid (okS_more HA.out (by rw [Hok.out n]; simp; omega))
                  have HS2 : Hid (true = someS f (c * 4 + (i + 1))) := Lib.hid (by rw [show c * 4 + (i + 1) = c * 4 + i + 1 by omega, Hst.out, ← HS.out]; simp; try omega)
                  clear hz
                  clear HS HA
                  go_upto_region 6 with (fail)
                  refine wp_region_lit ?_
                  refine ls_ex (some 14) (.int .i64 i) rfl rfl (exec_move _ rfl (.int .i64 i) rfl) ?_
                  go_frame
                  refine ls_ex (some 15) (.bool true) rfl rfl (exec_lss _ _ _ _ rfl i 4 rfl rfl true (decide_eq_true (by omega))) ?_
                  go_frame
                  refine wpList_nil ?_
                  go_upto_region 8 with (fail)
                  refine wp_region_lit ?_
                  refine ls_ex (some 18) (.int .i64 c) rfl rfl (exec_move _ rfl (.int .i64 c) rfl) ?_
                  go_frame
                  refine ls_ex (some 19) (.int .i64 i) rfl rfl (exec_move _ rfl (.int .i64 i) rfl) ?_
                  go_frame
                  refine ls_ex (some 20) (.pointer (some ⟨w.heap.size, c * 4, none⟩)) rfl rfl (exec_index_arr0 50 48 _ _ rfl w.heap.size 9 c 4 rfl rfl Try.underlying50 (by kernel_rfl) hc9) ?_
                  go_frame
                  refine ls_ex (some 21) (.pointer (some ⟨w.heap.size, c * 4 + i, none⟩)) rfl rfl (exec_index_arr1 48 5 _ _ rfl w.heap.size (c * 4) 4 i rfl rfl Try.underlying48 (by kernel_rfl) hi4) ?_
                  go_frame
                  refine ls_ex (some 22) (.int .u8 (x : Nat)) rfl rfl (exec_load_one 5 _ rfl w.heap.size (c * 4 + i) rfl (.int .u8 (x : Nat)) _ Try.underlying5 rfl hcx) ?_
                  go_frame
                  refine ls_ex (some 23) (.int .i64 (x : Int)) rfl rfl (exec_conv _ rfl x rfl hx256) ?_
                  go_frame
                  refine ls_ex (some 24) (.int .i64 p) rfl rfl (exec_move _ rfl (.int .i64 p) rfl) ?_
                  go_frame
                  refine ls_ex (some 25) (.bool false) rfl rfl (exec_geq _ _ _ _ rfl ((x : Int)) p rfl rfl false (decide_eq_false (by omega))) ?_
                  go_frame
                  refine ls_ex (some 26) (.bool false) rfl rfl (exec_move _ rfl (.bool false) rfl) ?_
                  go_frame
                  refine ls_ex_g (some 27) (.int .i64 c) rfl rfl (exec_move _ rfl (.int .i64 c) rfl) ?_
                  go_frame
                  refine ls_ex_g (some 28) (.int .i64 n) rfl rfl (exec_move _ rfl (.int .i64 n) rfl) ?_
                  go_frame
                  refine ls_ex_g (some 29) (.bool true) rfl rfl (exec_geq _ _ _ _ rfl c n rfl rfl true (decide_eq_true (by omega))) ?_
                  go_frame
                  refine ls_ex_g (some 30) (.bool true) rfl rfl (exec_move _ rfl (.bool true) rfl) ?_
                  go_frame
                  refine ls_ex_g (some 31) (.int .i64 c) rfl rfl (exec_move _ rfl (.int .i64 c) rfl) ?_
                  go_frame
                  refine ls_ex_g (some 32) (.int .i64 i) rfl rfl (exec_move _ rfl (.int .i64 i) rfl) ?_
                  go_frame
                  refine ls_ex_g (some 33) (.pointer (some ⟨w.heap.size, c * 4, none⟩)) rfl rfl (exec_index_arr0 50 48 _ _ rfl w.heap.size 9 c 4 rfl rfl Try.underlying50 (by kernel_rfl) hc9) ?_
                  go_frame
                  refine ls_ex_g (some 34) (.pointer (some ⟨w.heap.size, c * 4 + i, none⟩)) rfl rfl (exec_index_arr1 48 5 _ _ rfl w.heap.size (c * 4) 4 i rfl rfl Try.underlying48 (by kernel_rfl) hi4) ?_
                  go_frame
                  refine ls_ex_g (some 35) (.int .u8 (x : Nat)) rfl rfl (exec_load_one 5 _ rfl w.heap.size (c * 4 + i) rfl (.int .u8 (x : Nat)) _ Try.underlying5 rfl hcx) ?_
                  go_frame
                  refine ls_ex_g (some 36) (.bool false) rfl rfl (exec_neqb _ _ _ _ rfl (x : Int) 0 rfl rfl false hnz) ?_
                  go_frame
                  refine ls_ex_g (some 37) (.bool false) rfl rfl (exec_pick _ _ _ rfl true rfl (.bool false) rfl) ?_
                  go_frame
                  refine ls_ex (some 38) (.bool false) rfl rfl (exec_pick _ _ _ rfl false rfl (.bool false) rfl) ?_
                  go_frame
                  refine wpList_nil ?_
                  go_upto_region 10 with (fail)
                  refine wp_region_lit ?_
                  refine ls_ex (some 39) (.bool true) rfl rfl (exec_move _ rfl (.bool true) rfl) ?_
                  go_frame
                  refine ls_ex (some 40) (.bool true) rfl rfl (exec_move _ rfl (.bool true) rfl) ?_
                  go_frame
                  refine ls_skip_g (some 41) rfl rfl ?_
                  go_frame
                  refine ls_skip_g (some 42) rfl rfl ?_
                  go_frame
                  refine ls_skip_g (some 43) rfl rfl ?_
                  go_frame
                  refine ls_skip_g (some 44) rfl rfl ?_
                  go_frame
                  refine ls_skip_g (some 45) rfl rfl ?_
                  go_frame
                  refine ls_skip_g (some 46) rfl rfl ?_
                  go_frame
                  refine ls_ex (some 47) (.bool true) rfl rfl (exec_pick _ _ _ rfl true rfl (.bool true) rfl) ?_
                  go_frame
                  refine ls_ex (some 7) (.bool true) rfl rfl (exec_assign _ rfl (.bool true) rfl) ?_
                  go_frame
                  refine wpList_nil ?_
                  go_upto_region 7 with (fail)
                  refine wp_region_lit ?_
                  refine ls_ex (some 16) (.int .i64 i) rfl rfl (exec_move _ rfl (.int .i64 i) rfl) ?_
                  go_frame
                  refine ls_ex (some 17) (.int .i64 (i + 1)) rfl rfl (exec_add _ _ _ _ rfl i 1 (i + 1) rfl rfl (IntWalk.i64_in _ (by omega))) ?_
                  go_frame
                  refine ls_ex (some 9) (.int .i64 (i + 1)) rfl rfl (exec_assign _ rfl (.int .i64 (i + 1)) rfl) ?_
                  go_frame
                  refine wpList_nil ?_
                  go_wp2_with fail
                  go_roundw
                  case rel => exact ⟨i + 1, true, by omega, by go_num, rfl, HS2, HOk, hB, h0⟩
                  case measure => simp [intOf]; omega
              · have hnz : ((x : Int) != 0) = true := by simp; omega
                have HNo : Hid (serB p f n = false) := Lib.hid (serB_no (j := c * 4 + i) (by omega) (by rw [Hok.out n]; simp; omega))
                clear hz
                go_upto_region 6 with (fail)
                refine wp_region_lit ?_
                refine ls_ex (some 14) (.int .i64 i) rfl rfl (exec_move _ rfl (.int .i64 i) rfl) ?_
                go_frame
                refine ls_ex (some 15) (.bool true) rfl rfl (exec_lss _ _ _ _ rfl i 4 rfl rfl true (decide_eq_true (by omega))) ?_
                go_frame
                refine wpList_nil ?_
                go_upto_region 8 with (fail)
                refine wp_region_lit ?_
                refine ls_ex (some 18) (.int .i64 c) rfl rfl (exec_move _ rfl (.int .i64 c) rfl) ?_
                go_frame
                refine ls_ex (some 19) (.int .i64 i) rfl rfl (exec_move _ rfl (.int .i64 i) rfl) ?_
                go_frame
                refine ls_ex (some 20) (.pointer (some ⟨w.heap.size, c * 4, none⟩)) rfl rfl (exec_index_arr0 50 48 _ _ rfl w.heap.size 9 c 4 rfl rfl Try.underlying50 (by kernel_rfl) hc9) ?_
                go_frame
                refine ls_ex (some 21) (.pointer (some ⟨w.heap.size, c * 4 + i, none⟩)) rfl rfl (exec_index_arr1 48 5 _ _ rfl w.heap.size (c * 4) 4 i rfl rfl Try.underlying48 (by kernel_rfl) hi4) ?_
                go_frame
                refine ls_ex (some 22) (.int .u8 (x : Nat)) rfl rfl (exec_load_one 5 _ rfl w.heap.size (c * 4 + i) rfl (.int .u8 (x : Nat)) _ Try.underlying5 rfl hcx) ?_
                go_frame
                refine ls_ex (some 23) (.int .i64 (x : Int)) rfl rfl (exec_conv _ rfl x rfl hx256) ?_
                go_frame
                refine ls_ex (some 24) (.int .i64 p) rfl rfl (exec_move _ rfl (.int .i64 p) rfl) ?_
                go_frame
                refine ls_ex (some 25) (.bool false) rfl rfl (exec_geq _ _ _ _ rfl ((x : Int)) p rfl rfl false (decide_eq_false (by omega))) ?_
                go_frame
                refine ls_ex (some 26) (.bool false) rfl rfl (exec_move _ rfl (.bool false) rfl) ?_
                go_frame
                refine ls_ex_g (some 27) (.int .i64 c) rfl rfl (exec_move _ rfl (.int .i64 c) rfl) ?_
                go_frame
                refine ls_ex_g (some 28) (.int .i64 n) rfl rfl (exec_move _ rfl (.int .i64 n) rfl) ?_
                go_frame
                refine ls_ex_g (some 29) (.bool true) rfl rfl (exec_geq _ _ _ _ rfl c n rfl rfl true (decide_eq_true (by omega))) ?_
                go_frame
                refine ls_ex_g (some 30) (.bool true) rfl rfl (exec_move _ rfl (.bool true) rfl) ?_
                go_frame
                refine ls_ex_g (some 31) (.int .i64 c) rfl rfl (exec_move _ rfl (.int .i64 c) rfl) ?_
                go_frame
                refine ls_ex_g (some 32) (.int .i64 i) rfl rfl (exec_move _ rfl (.int .i64 i) rfl) ?_
                go_frame
                refine ls_ex_g (some 33) (.pointer (some ⟨w.heap.size, c * 4, none⟩)) rfl rfl (exec_index_arr0 50 48 _ _ rfl w.heap.size 9 c 4 rfl rfl Try.underlying50 (by kernel_rfl) hc9) ?_
                go_frame
                refine ls_ex_g (some 34) (.pointer (some ⟨w.heap.size, c * 4 + i, none⟩)) rfl rfl (exec_index_arr1 48 5 _ _ rfl w.heap.size (c * 4) 4 i rfl rfl Try.underlying48 (by kernel_rfl) hi4) ?_
                go_frame
                refine ls_ex_g (some 35) (.int .u8 (x : Nat)) rfl rfl (exec_load_one 5 _ rfl w.heap.size (c * 4 + i) rfl (.int .u8 (x : Nat)) _ Try.underlying5 rfl hcx) ?_
                go_frame
                refine ls_ex_g (some 36) (.bool true) rfl rfl (exec_neqb _ _ _ _ rfl (x : Int) 0 rfl rfl true hnz) ?_
                go_frame
                refine ls_ex_g (some 37) (.bool true) rfl rfl (exec_pick _ _ _ rfl true rfl (.bool true) rfl) ?_
                go_frame
                refine ls_ex (some 38) (.bool true) rfl rfl (exec_pick _ _ _ rfl false rfl (.bool true) rfl) ?_
                go_frame
                refine wpList_nil ?_
                go_upto_region 9 with (fail)
                refine wp_region_lit ?_
                refine ls_ex (some 6) (.bool false) rfl rfl (exec_assign _ rfl (.bool false) rfl) ?_
                go_frame
                refine wpList_nil ?_
                go_wp2_with fail
                go_ret
                exact ⟨by rw [HNo.out]; rfl, hB⟩
          · have HNo : Hid (serB p f n = false) := Lib.hid (serB_no (j := c * 4 + i) (by omega) (by rw [Hok.out n]; simp; omega))
            go_upto_region 6 with (fail)
            refine wp_region_lit ?_
            refine ls_ex (some 14) (.int .i64 i) rfl rfl (exec_move _ rfl (.int .i64 i) rfl) ?_
            go_frame
            refine ls_ex (some 15) (.bool true) rfl rfl (exec_lss _ _ _ _ rfl i 4 rfl rfl true (decide_eq_true (by omega))) ?_
            go_frame
            refine wpList_nil ?_
            go_upto_region 8 with (fail)
            refine wp_region_lit ?_
            refine ls_ex (some 18) (.int .i64 c) rfl rfl (exec_move _ rfl (.int .i64 c) rfl) ?_
            go_frame
            refine ls_ex (some 19) (.int .i64 i) rfl rfl (exec_move _ rfl (.int .i64 i) rfl) ?_
            go_frame
            refine ls_ex (some 20) (.pointer (some ⟨w.heap.size, c * 4, none⟩)) rfl rfl (exec_index_arr0 50 48 _ _ rfl w.heap.size 9 c 4 rfl rfl Try.underlying50 (by kernel_rfl) hc9) ?_
            go_frame
            refine ls_ex (some 21) (.pointer (some ⟨w.heap.size, c * 4 + i, none⟩)) rfl rfl (exec_index_arr1 48 5 _ _ rfl w.heap.size (c * 4) 4 i rfl rfl Try.underlying48 (by kernel_rfl) hi4) ?_
            go_frame
            refine ls_ex (some 22) (.int .u8 (x : Nat)) rfl rfl (exec_load_one 5 _ rfl w.heap.size (c * 4 + i) rfl (.int .u8 (x : Nat)) _ Try.underlying5 rfl hcx) ?_
            go_frame
            refine ls_ex (some 23) (.int .i64 (x : Int)) rfl rfl (exec_conv _ rfl x rfl hx256) ?_
            go_frame
            refine ls_ex (some 24) (.int .i64 p) rfl rfl (exec_move _ rfl (.int .i64 p) rfl) ?_
            go_frame
            refine ls_ex (some 25) (.bool true) rfl rfl (exec_geq _ _ _ _ rfl ((x : Int)) p rfl rfl true (decide_eq_true (by omega))) ?_
            go_frame
            refine ls_ex (some 26) (.bool true) rfl rfl (exec_move _ rfl (.bool true) rfl) ?_
            go_frame
            refine ls_skip_g (some 27) rfl rfl ?_
            go_frame
            refine ls_skip_g (some 28) rfl rfl ?_
            go_frame
            refine ls_skip_g (some 29) rfl rfl ?_
            go_frame
            refine ls_skip_g (some 30) rfl rfl ?_
            go_frame
            refine ls_skip_g (some 31) rfl rfl ?_
            go_frame
            refine ls_skip_g (some 32) rfl rfl ?_
            go_frame
            refine ls_skip_g (some 33) rfl rfl ?_
            go_frame
            refine ls_skip_g (some 34) rfl rfl ?_
            go_frame
            refine ls_skip_g (some 35) rfl rfl ?_
            go_frame
            refine ls_skip_g (some 36) rfl rfl ?_
            go_frame
            refine ls_skip_g (some 37) rfl rfl ?_
            go_frame
            refine ls_ex (some 38) (.bool true) rfl rfl (exec_pick _ _ _ rfl true rfl (.bool true) rfl) ?_
            go_frame
            refine wpList_nil ?_
            go_upto_region 9 with (fail)
            refine wp_region_lit ?_
            refine ls_ex (some 6) (.bool false) rfl rfl (exec_assign _ rfl (.bool false) rfl) ?_
            go_frame
            refine wpList_nil ?_
            go_wp2_with fail
            go_ret
            exact ⟨by rw [HNo.out]; rfl, hB⟩
        · have HA9 : Hid (∀ j, j < (c + 1) * 4 → okS p n f j = true) := Lib.hid (fun j hj => HA.out j (by omega))
          have HS9 : Hid (b = someS f ((c + 1) * 4)) := Lib.hid (by rw [HS.out, show c * 4 + i = (c + 1) * 4 by omega])
          clear HA HS
          go_upto_region 6 with (fail)
          refine wp_region_lit ?_
          refine ls_ex (some 14) (.int .i64 i) rfl rfl (exec_move _ rfl (.int .i64 i) rfl) ?_
          go_frame
          refine ls_ex (some 15) (.bool false) rfl rfl (exec_lss _ _ _ _ rfl i 4 rfl rfl false (decide_eq_false (by omega))) ?_
          go_frame
          refine wpList_nil ?_
          go_upto_region 4 with (fail)
          refine wp_region_lit ?_
          refine ls_ex (some 12) (.int .i64 c) rfl rfl (exec_move _ rfl (.int .i64 c) rfl) ?_
          go_frame
          refine ls_ex (some 13) (.int .i64 (c + 1)) rfl rfl (exec_add _ _ _ _ rfl c 1 (c + 1) rfl rfl (IntWalk.i64_in _ (by omega))) ?_
          go_frame
          refine ls_ex (some 8) (.int .i64 (c + 1)) rfl rfl (exec_assign _ rfl (.int .i64 (c + 1)) rfl) ?_
          go_frame
          refine wpList_nil ?_
          go_wp2_with fail
          go_roundw
          case rel => exact ⟨c + 1, b, by omega, by go_num, rfl, HS9, HA9, hB, h0⟩
          case measure => simp [intOf]; omega
    · have HYes : Hid (serB p f n = b) := Lib.hid (by rw [serB_yes (fun j hj => HA.out j (by omega)), HS.out, show c * 4 = 36 by omega])
      clear HA HS
      go_upto_region 3 with (fail)
      refine wp_region_lit ?_
      refine ls_ex (some 10) (.int .i64 c) rfl rfl (exec_move _ rfl (.int .i64 c) rfl) ?_
      go_frame
      refine ls_ex (some 11) (.bool false) rfl rfl (exec_lss _ _ _ _ rfl c 9 rfl rfl false (decide_eq_false (by omega))) ?_
      go_frame
      refine wpList_nil ?_
      go_upto_region 11 with (fail)
      refine wp_region_lit ?_
      refine ls_ex (some 48) (.bool b) rfl rfl (exec_move _ rfl (.bool b) rfl) ?_
      go_frame
      refine ls_ex (some 6) (.bool b) rfl rfl (exec_assign _ rfl (.bool b) rfl) ?_
      go_frame
      refine wpList_nil ?_
      go_wp2_with fail
      go_ret
      exact ⟨by rw [HYes.out]; rfl, hB⟩
set_option maxHeartbeats 4000000 in
theorem l08Is_a (p n m k : Int) (A : Option Addr) (c : Nat) (ts : List (List Nat)) (w : World) (hR : RdT w A ts) (hlen : ts.length ≤ 1048576) (hs : sizesB p n m k = false) :
    Calls Try.prog 23 #[.agg #[.int .i64 p, .int .i64 n, .int .i64 m, .int .i64 k, .slice A ts.length c]] w (fun e w' => e = .returned (.bool (borderB p n m k ts)) ∧ Below w.heap.size w w') := by
  have hB := Below.refl w.heap.size w
  have _u0 := hR
  have _u1 := hlen
  clear _u0 _u1
  have HNo : Hid (borderB p n m k ts = false) := Lib.hid (by simp [borderB, hs])
  have HP := Lib.hid hs
  clear hs
  go_enter Try.func23, Try.ntmps23
  go_upto_region 0 with (fail)
  refine wp_region_lit ?_
  refine ls_op rfl (fun K' hK' => ?_)
  have lz1 := hB.size
  refine wp_new (some 1) rfl (exec_box 33 _ rfl (#[.int .i64 p, .int .i64 n, .int .i64 m, .int .i64 k, .slice A ts.length c]) rfl) (fun Wz2 nnz3 => ?_)
  have bz4 := nnz3.below (Below.refl _ _) (Nat.le_refl _)
  replace hB := below_after hB bz4
  have hz5 : At Wz2 w.heap.size (.cells #[.int .i64 p, .int .i64 n, .int .i64 m, .int .i64 k, .slice A ts.length c] 33 (0, 0)) := nnz3.at_
  refine hK' _ _ ?_
  clear hK' K' nnz3 bz4
  go_frame
  refine ls_ex (some 2) (.bool false) rfl rfl (exec_assign _ rfl (.bool false) rfl) ?_
  go_frame
  refine wpList_nil ?_
  go_upto_region 1 with (fail)
  refine wp_region_lit ?_
  refine ls_ex (some 7) (.pointer (some ⟨w.heap.size, 0, none⟩)) rfl rfl (exec_fieldAddr 33 _ 0 rfl _ (by kernel_rfl)) ?_
  go_frame
  refine ls_ex (some 8) (.int .i64 p) rfl rfl (exec_load_one 2 _ rfl w.heap.size 0 rfl (.int .i64 p) _ Try.underlying2 rfl (hz5.at_ 0)) ?_
  go_frame
  refine ls_ex (some 9) (.pointer (some ⟨w.heap.size, 1, none⟩)) rfl rfl (exec_fieldAddr 33 _ 1 rfl _ (by kernel_rfl)) ?_
  go_frame
  refine ls_ex (some 10) (.int .i64 n) rfl rfl (exec_load_one 2 _ rfl w.heap.size 1 rfl (.int .i64 n) _ Try.underlying2 rfl (hz5.at_ 1)) ?_
  go_frame
  refine ls_ex (some 11) (.pointer (some ⟨w.heap.size, 2, none⟩)) rfl rfl (exec_fieldAddr 33 _ 2 rfl _ (by kernel_rfl)) ?_
  go_frame
  refine ls_ex (some 12) (.int .i64 m) rfl rfl (exec_load_one 2 _ rfl w.heap.size 2 rfl (.int .i64 m) _ Try.underlying2 rfl (hz5.at_ 2)) ?_
  go_frame
  refine ls_ex (some 13) (.pointer (some ⟨w.heap.size, 3, none⟩)) rfl rfl (exec_fieldAddr 33 _ 3 rfl _ (by kernel_rfl)) ?_
  go_frame
  refine ls_ex (some 14) (.int .i64 k) rfl rfl (exec_load_one 2 _ rfl w.heap.size 3 rfl (.int .i64 k) _ Try.underlying2 rfl (hz5.at_ 3)) ?_
  go_frame
  refine ls_op rfl (fun K' hK' => ?_)
  have lz8 := hB.size
  have lz9 := hz5.lt
  refine wp_call4 (some 15) rfl 48 _ _ _ _ _ rfl (fun args w => by kernel_rfl) _ _ _ _ rfl rfl rfl rfl _ (l01Sizes_c p n m k _) (fun e Wz6 h => ?_)
  obtain ⟨rfl, rfl⟩ := h
  rw [HP.out]
  refine ⟨_, rfl, ?_⟩
  refine hK' _ _ ?_
  clear hK' K'
  go_frame
  refine ls_ex (some 16) (.bool true) rfl rfl (exec_not _ _ rfl false rfl) ?_
  go_frame
  refine ls_ex (some 17) (.bool true) rfl rfl (exec_move _ rfl (.bool true) rfl) ?_
  go_frame
  refine ls_skip_g (some 18) rfl rfl ?_
  go_frame
  refine ls_skip_g (some 19) rfl rfl ?_
  go_frame
  refine ls_skip_g (some 20) rfl rfl ?_
  go_frame
  refine ls_skip_g (some 21) rfl rfl ?_
  go_frame
  refine ls_ex (some 22) (.bool true) rfl rfl (exec_pick _ _ _ rfl true rfl (.bool true) rfl) ?_
  go_frame
  refine wpList_nil ?_
  go_upto_region 2 with (fail)
  refine wp_region_lit ?_
  refine ls_ex (some 2) (.bool false) rfl rfl (exec_assign _ rfl (.bool false) rfl) ?_
  go_frame
  refine wpList_nil ?_
  go_wp2_with fail
  go_ret
  exact ⟨by rw [HNo.out]; rfl, hB⟩
set_option maxHeartbeats 4000000 in
theorem l08Is_b (p n m k : Int) (A : Option Addr) (c : Nat) (ts : List (List Nat)) (w : World) (hR : RdT w A ts) (hlen : ts.length ≤ 1048576) (hs : sizesB p n m k = true) (hl : 30 < ts.length) :
    Calls Try.prog 23 #[.agg #[.int .i64 p, .int .i64 n, .int .i64 m, .int .i64 k, .slice A ts.length c]] w (fun e w' => e = .returned (.bool (borderB p n m k ts)) ∧ Below w.heap.size w w') := by
  have hB := Below.refl w.heap.size w
  have _u0 := hR
  clear _u0
  have HNo : Hid (borderB p n m k ts = false) := Lib.hid (by simp [borderB, show ¬ ts.length ≤ 30 by omega])
  have HP := Lib.hid hs
  clear hs
  go_enter Try.func23, Try.ntmps23
  go_upto_region 0 with (fail)
  refine wp_region_lit ?_
  refine ls_op rfl (fun K' hK' => ?_)
  have lz1 := hB.size
  refine wp_new (some 1) rfl (exec_box 33 _ rfl (#[.int .i64 p, .int .i64 n, .int .i64 m, .int .i64 k, .slice A ts.length c]) rfl) (fun Wz2 nnz3 => ?_)
  have bz4 := nnz3.below (Below.refl _ _) (Nat.le_refl _)
  replace hB := below_after hB bz4
  have hz5 : At Wz2 w.heap.size (.cells #[.int .i64 p, .int .i64 n, .int .i64 m, .int .i64 k, .slice A ts.length c] 33 (0, 0)) := nnz3.at_
  refine hK' _ _ ?_
  clear hK' K' nnz3 bz4
  go_frame
  refine ls_ex (some 2) (.bool false) rfl rfl (exec_assign _ rfl (.bool false) rfl) ?_
  go_frame
  refine wpList_nil ?_
  go_upto_region 1 with (fail)
  refine wp_region_lit ?_
  refine ls_ex (some 7) (.pointer (some ⟨w.heap.size, 0, none⟩)) rfl rfl (exec_fieldAddr 33 _ 0 rfl _ (by kernel_rfl)) ?_
  go_frame
  refine ls_ex (some 8) (.int .i64 p) rfl rfl (exec_load_one 2 _ rfl w.heap.size 0 rfl (.int .i64 p) _ Try.underlying2 rfl (hz5.at_ 0)) ?_
  go_frame
  refine ls_ex (some 9) (.pointer (some ⟨w.heap.size, 1, none⟩)) rfl rfl (exec_fieldAddr 33 _ 1 rfl _ (by kernel_rfl)) ?_
  go_frame
  refine ls_ex (some 10) (.int .i64 n) rfl rfl (exec_load_one 2 _ rfl w.heap.size 1 rfl (.int .i64 n) _ Try.underlying2 rfl (hz5.at_ 1)) ?_
  go_frame
  refine ls_ex (some 11) (.pointer (some ⟨w.heap.size, 2, none⟩)) rfl rfl (exec_fieldAddr 33 _ 2 rfl _ (by kernel_rfl)) ?_
  go_frame
  refine ls_ex (some 12) (.int .i64 m) rfl rfl (exec_load_one 2 _ rfl w.heap.size 2 rfl (.int .i64 m) _ Try.underlying2 rfl (hz5.at_ 2)) ?_
  go_frame
  refine ls_ex (some 13) (.pointer (some ⟨w.heap.size, 3, none⟩)) rfl rfl (exec_fieldAddr 33 _ 3 rfl _ (by kernel_rfl)) ?_
  go_frame
  refine ls_ex (some 14) (.int .i64 k) rfl rfl (exec_load_one 2 _ rfl w.heap.size 3 rfl (.int .i64 k) _ Try.underlying2 rfl (hz5.at_ 3)) ?_
  go_frame
  refine ls_op rfl (fun K' hK' => ?_)
  have lz8 := hB.size
  have lz9 := hz5.lt
  refine wp_call4 (some 15) rfl 48 _ _ _ _ _ rfl (fun args w => by kernel_rfl) _ _ _ _ rfl rfl rfl rfl _ (l01Sizes_c p n m k _) (fun e Wz6 h => ?_)
  obtain ⟨rfl, rfl⟩ := h
  rw [HP.out]
  refine ⟨_, rfl, ?_⟩
  refine hK' _ _ ?_
  clear hK' K'
  go_frame
  refine ls_ex (some 16) (.bool false) rfl rfl (exec_not _ _ rfl true rfl) ?_
  go_frame
  refine ls_ex (some 17) (.bool false) rfl rfl (exec_move _ rfl (.bool false) rfl) ?_
  go_frame
  refine ls_ex_g (some 18) (.pointer (some ⟨w.heap.size, 4, none⟩)) rfl rfl (exec_fieldAddr 33 _ 4 rfl _ (by kernel_rfl)) ?_
  go_frame
  refine ls_ex_g (some 19) (.slice A ts.length c) rfl rfl (exec_load_one 31 _ rfl w.heap.size 4 rfl (.slice A ts.length c) _ Try.underlying31 rfl (hz5.at_ 4)) ?_
  go_frame
  refine ls_ex_g (some 20) (.int .i64 ts.length) rfl rfl (exec_len _ 31 52 rfl A ts.length c rfl Try.underlying31) ?_
  go_frame
  refine ls_ex_g (some 21) (.bool true) rfl rfl (exec_gtr _ _ _ _ rfl ts.length 30 rfl rfl true (decide_eq_true (by omega))) ?_
  go_frame
  refine ls_ex (some 22) (.bool true) rfl rfl (exec_pick _ _ _ rfl false rfl (.bool true) rfl) ?_
  go_frame
  refine wpList_nil ?_
  go_upto_region 2 with (fail)
  refine wp_region_lit ?_
  refine ls_ex (some 2) (.bool false) rfl rfl (exec_assign _ rfl (.bool false) rfl) ?_
  go_frame
  refine wpList_nil ?_
  go_wp2_with fail
  go_ret
  exact ⟨by rw [HNo.out]; rfl, hB⟩
set_option maxHeartbeats 12800000 in
theorem l08Is_f (p n m k : Int) (A : Option Addr) (c : Nat) (ts : List (List Nat)) (w : World) (hR : RdT w A ts) (hlen : ts.length ≤ 1048576) (hs : sizesB p n m k = true) (hl : ts.length ≤ 30) :
    Calls Try.prog 23 #[.agg #[.int .i64 p, .int .i64 n, .int .i64 m, .int .i64 k, .slice A ts.length c]] w (fun e w' => e = .returned (.bool (borderB p n m k ts)) ∧ Below w.heap.size w w') := by
  have hB := Below.refl w.heap.size w
  have HP := Lib.hid hs
  have HN := Lib.hid (sizesB_parts hs).2.1
  have HM := Lib.hid (sizesB_parts hs).2.2.1
  have HK := Lib.hid (sizesB_parts hs).2.2.2
  clear hs
  go_enter Try.func23, Try.ntmps23
  go_upto_region 0 with (fail)
  refine wp_region_lit ?_
  refine ls_op rfl (fun K' hK' => ?_)
  have lz1 := hB.size
  refine wp_new (some 1) rfl (exec_box 33 _ rfl (#[.int .i64 p, .int .i64 n, .int .i64 m, .int .i64 k, .slice A ts.length c]) rfl) (fun Wz2 nnz3 => ?_)
  have bz4 := nnz3.below (Below.refl _ _) (Nat.le_refl _)
  replace hB := below_after hB bz4
  have hz5 : At Wz2 w.heap.size (.cells #[.int .i64 p, .int .i64 n, .int .i64 m, .int .i64 k, .slice A ts.length c] 33 (0, 0)) := nnz3.at_
  refine hK' _ _ ?_
  clear hK' K' nnz3 bz4
  go_frame
  refine ls_ex (some 2) (.bool false) rfl rfl (exec_assign _ rfl (.bool false) rfl) ?_
  go_frame
  refine wpList_nil ?_
  go_upto_region 1 with (fail)
  refine wp_region_lit ?_
  refine ls_ex (some 7) (.pointer (some ⟨w.heap.size, 0, none⟩)) rfl rfl (exec_fieldAddr 33 _ 0 rfl _ (by kernel_rfl)) ?_
  go_frame
  refine ls_ex (some 8) (.int .i64 p) rfl rfl (exec_load_one 2 _ rfl w.heap.size 0 rfl (.int .i64 p) _ Try.underlying2 rfl (hz5.at_ 0)) ?_
  go_frame
  refine ls_ex (some 9) (.pointer (some ⟨w.heap.size, 1, none⟩)) rfl rfl (exec_fieldAddr 33 _ 1 rfl _ (by kernel_rfl)) ?_
  go_frame
  refine ls_ex (some 10) (.int .i64 n) rfl rfl (exec_load_one 2 _ rfl w.heap.size 1 rfl (.int .i64 n) _ Try.underlying2 rfl (hz5.at_ 1)) ?_
  go_frame
  refine ls_ex (some 11) (.pointer (some ⟨w.heap.size, 2, none⟩)) rfl rfl (exec_fieldAddr 33 _ 2 rfl _ (by kernel_rfl)) ?_
  go_frame
  refine ls_ex (some 12) (.int .i64 m) rfl rfl (exec_load_one 2 _ rfl w.heap.size 2 rfl (.int .i64 m) _ Try.underlying2 rfl (hz5.at_ 2)) ?_
  go_frame
  refine ls_ex (some 13) (.pointer (some ⟨w.heap.size, 3, none⟩)) rfl rfl (exec_fieldAddr 33 _ 3 rfl _ (by kernel_rfl)) ?_
  go_frame
  refine ls_ex (some 14) (.int .i64 k) rfl rfl (exec_load_one 2 _ rfl w.heap.size 3 rfl (.int .i64 k) _ Try.underlying2 rfl (hz5.at_ 3)) ?_
  go_frame
  refine ls_op rfl (fun K' hK' => ?_)
  have lz8 := hB.size
  have lz9 := hz5.lt
  refine wp_call4 (some 15) rfl 48 _ _ _ _ _ rfl (fun args w => by kernel_rfl) _ _ _ _ rfl rfl rfl rfl _ (l01Sizes_c p n m k _) (fun e Wz6 h => ?_)
  obtain ⟨rfl, rfl⟩ := h
  rw [HP.out]
  refine ⟨_, rfl, ?_⟩
  refine hK' _ _ ?_
  clear hK' K'
  go_frame
  refine ls_ex (some 16) (.bool false) rfl rfl (exec_not _ _ rfl true rfl) ?_
  go_frame
  refine ls_ex (some 17) (.bool false) rfl rfl (exec_move _ rfl (.bool false) rfl) ?_
  go_frame
  refine ls_ex_g (some 18) (.pointer (some ⟨w.heap.size, 4, none⟩)) rfl rfl (exec_fieldAddr 33 _ 4 rfl _ (by kernel_rfl)) ?_
  go_frame
  refine ls_ex_g (some 19) (.slice A ts.length c) rfl rfl (exec_load_one 31 _ rfl w.heap.size 4 rfl (.slice A ts.length c) _ Try.underlying31 rfl (hz5.at_ 4)) ?_
  go_frame
  refine ls_ex_g (some 20) (.int .i64 ts.length) rfl rfl (exec_len _ 31 52 rfl A ts.length c rfl Try.underlying31) ?_
  go_frame
  refine ls_ex_g (some 21) (.bool false) rfl rfl (exec_gtr _ _ _ _ rfl ts.length 30 rfl rfl false (decide_eq_false (by omega))) ?_
  go_frame
  refine ls_ex (some 22) (.bool false) rfl rfl (exec_pick _ _ _ rfl false rfl (.bool false) rfl) ?_
  go_frame
  refine wpList_nil ?_
  go_upto_region 3 with (fail)
  refine wp_region_lit ?_
  refine ls_ex (some 24) (.agg #[.int .i64 p, .int .i64 n, .int .i64 m, .int .i64 k, .slice A ts.length c]) rfl rfl (exec_load_all 33 _ rfl w.heap.size rfl _ _ _ hz5 Try.underlying33 rfl 5 (by kernel_rfl) rfl) ?_
  go_frame
  refine ls_op rfl (fun K' hK' => ?_)
  have lz12 := hB.size
  have lz13 := hz5.lt
  refine wp_call1 (some 25) rfl 25 _ _ rfl (fun args w => by kernel_rfl) _ rfl _ (l08Like_c p n m k A ts.length c _) (fun e Wz10 h => ?_)
  obtain ⟨v9, rfl, _, bz11⟩ := h
  replace hB := below_after hB bz11
  replace hz5 := hz5.after bz11
  clear bz11
  refine ⟨_, rfl, ?_⟩
  refine hK' _ _ ?_
  clear hK' K'
  go_frame
  refine ls_op rfl (fun K' hK' => ?_)
  have lz16 := hB.size
  have lz17 := hz5.lt
  refine wp_call1 (some 26) rfl 44 _ _ rfl (fun args w => by kernel_rfl) _ rfl _ (l01Lengths_c p n m k v9 _ HN.out HM.out HK.out) (fun e Wz14 h => ?_)
  obtain ⟨rfl, bz15⟩ := h
  replace hB := below_after hB bz15
  replace hz5 := hz5.after bz15
  clear bz15
  refine ⟨_, rfl, ?_⟩
  refine hK' _ _ ?_
  clear hK' K'
  go_frame
  refine ls_ex (some 23) (.tuple #[.int .i64 (n * m), .int .i64 (m * k), .int .i64 (n * k)]) rfl rfl (exec_move _ rfl (.tuple #[.int .i64 (n * m), .int .i64 (m * k), .int .i64 (n * k)]) rfl) ?_
  go_frame
  refine ls_ex (some 27) (.int .i64 (n * m)) rfl rfl (exec_extract _ 0 rfl #[.int .i64 (n * m), .int .i64 (m * k), .int .i64 (n * k)] (by rfl) _ rfl) ?_
  go_frame
  refine ls_ex (some 28) (.int .i64 (m * k)) rfl rfl (exec_extract _ 1 rfl #[.int .i64 (n * m), .int .i64 (m * k), .int .i64 (n * k)] (by rfl) _ rfl) ?_
  go_frame
  refine ls_ex (some 29) (.int .i64 (n * k)) rfl rfl (exec_extract _ 2 rfl #[.int .i64 (n * m), .int .i64 (m * k), .int .i64 (n * k)] (by rfl) _ rfl) ?_
  go_frame
  refine ls_ex (some 3) (.int .i64 (n * m)) rfl rfl (exec_assign _ rfl (.int .i64 (n * m)) rfl) ?_
  go_frame
  refine ls_ex (some 4) (.int .i64 (m * k)) rfl rfl (exec_assign _ rfl (.int .i64 (m * k)) rfl) ?_
  go_frame
  refine ls_ex (some 5) (.int .i64 (n * k)) rfl rfl (exec_assign _ rfl (.int .i64 (n * k)) rfl) ?_
  go_frame
  refine wpList_nil ?_
  go_upto_region 4 with (fail)
  refine wp_region_lit ?_
  refine ls_ex (some 6) (.int .i64 0) rfl rfl (exec_assign _ rfl (.int .i64 0) rfl) ?_
  go_frame
  refine wpList_nil ?_
  go_wp2_with fail
  go_loopw [6] (fun s6 wr => ∃ i : Nat, i ≤ ts.length ∧ s6 = .int .i64 i ∧ Hid (twigsB p n m k ts i = true) ∧ Below w.heap.size w wr ∧ At wr w.heap.size (.cells #[.int .i64 p, .int .i64 n, .int .i64 m, .int .i64 k, .slice A ts.length c] 33 (0, 0))) (fun s6 _ => ts.length - (intOf s6).toNat)
  case atStart => exact ⟨0, by omega, rfl, Lib.hid rfl, hB, hz5⟩
  case round =>
    clear hB hz5
    obtain ⟨i, hi, rfl, HG, hB, h0⟩ := hrel
    by_cases hlt : i < ts.length
    · obtain ⟨b, off, rfl, hc⟩ := (hR.keep hB).at_ hlt
      clear hc
      have hb := hR.good _ (List.getElem_mem hlt)
      cases ha : serB p (segm ts[i] 0 36) (n * m) with
      | false =>
        have HNo : Hid (borderB p n m k ts = false) := Lib.hid (borderB_no hlt (by unfold twigB; rw [ha]; simp))
        have HSa := Lib.hid ha
        clear ha
        go_upto_region 5 with (fail)
        refine wp_region_lit ?_
        refine ls_ex (some 30) (.int .i64 i) rfl rfl (exec_move _ rfl (.int .i64 i) rfl) ?_
        go_frame
        refine ls_ex (some 31) (.pointer (some ⟨w.heap.size, 4, none⟩)) rfl rfl (exec_fieldAddr 33 _ 4 rfl _ (by kernel_rfl)) ?_
        go_frame
        refine ls_ex (some 32) (.slice (some ⟨b, off, none⟩) ts.length c) rfl rfl (exec_load_one 31 _ rfl w.heap.size 4 rfl (.slice (some ⟨b, off, none⟩) ts.length c) _ Try.underlying31 rfl (h0.at_ 4)) ?_
        go_frame
        refine ls_ex (some 33) (.int .i64 ts.length) rfl rfl (exec_len _ 31 52 rfl ((some ⟨b, off, none⟩)) ts.length c rfl Try.underlying31) ?_
        go_frame
        refine ls_ex (some 34) (.bool true) rfl rfl (exec_lss _ _ _ _ rfl i ts.length rfl rfl true (decide_eq_true (by omega))) ?_
        go_frame
        refine wpList_nil ?_
        go_upto_region 7 with (fail)
        refine wp_region_y (zs := []) (S := fun w' => Below w.heap.size w w' ∧ At w' w.heap.size (.cells #[.int .i64 p, .int .i64 n, .int .i64 m, .int .i64 k, .slice (some ⟨b, off, none⟩) ts.length c] 33 (0, 0))) (S2 := fun w' => True) (by kernel_rfl) ?_
        change wpAnyY _ _ _ _ _ _ _ _ _ _ (World.drew _)
        generalize hwdz18 : World.drew _ = wdz18
        replace hB : Below w.heap.size w wdz18 := by rw [← hwdz18]; exact hB.drew
        replace h0 : At wdz18 w.heap.size (.cells #[.int .i64 p, .int .i64 n, .int .i64 m, .int .i64 k, .slice (some ⟨b, off, none⟩) ts.length c] 33 (0, 0)) := by rw [← hwdz18]; exact h0
        clear hwdz18
        refine y_yield 0 (some 37) (.pointer (some ⟨w.heap.size, 0, none⟩)) rfl (by kernel_rfl) (by kernel_rfl) (by kernel_rfl) (fun _ _ _ h => h) rfl rfl ⟨hB, h0⟩ (fun w' h' => exec_fieldAddr 33 _ 0 rfl _ (by kernel_rfl)) ?_
        go_frame
        refine y_yield 1 (some 38) (.int .i64 p) rfl (by kernel_rfl) (by kernel_rfl) (by kernel_rfl) (fun _ _ _ h => h) rfl rfl ⟨hB, h0⟩ (fun w' h' => exec_load_one 2 _ rfl w.heap.size 0 rfl (.int .i64 p) _ Try.underlying2 rfl (h'.2.at_ 0)) ?_
        go_frame
        refine y_yield 2 (some 39) (.pointer (some ⟨w.heap.size, 4, none⟩)) rfl (by kernel_rfl) (by kernel_rfl) (by kernel_rfl) (fun _ _ _ h => h) rfl rfl ⟨hB, h0⟩ (fun w' h' => exec_fieldAddr 33 _ 4 rfl _ (by kernel_rfl)) ?_
        go_frame
        refine y_yield 3 (some 40) (.slice (some ⟨b, off, none⟩) ts.length c) rfl (by kernel_rfl) (by kernel_rfl) (by kernel_rfl) (fun _ _ _ h => h) rfl rfl ⟨hB, h0⟩ (fun w' h' => exec_load_one 31 _ rfl w.heap.size 4 rfl (.slice (some ⟨b, off, none⟩) ts.length c) _ Try.underlying31 rfl (h'.2.at_ 4)) ?_
        go_frame
        refine y_yield 4 (some 41) (.int .i64 i) rfl (by kernel_rfl) (by kernel_rfl) (by kernel_rfl) (fun _ _ _ h => h) rfl rfl ⟨hB, h0⟩ (fun w' h' => exec_move _ rfl (.int .i64 i) rfl) ?_
        go_frame
        refine y_yield 5 (some 42) (.pointer (some ⟨b, off + i * 108, none⟩)) rfl (by kernel_rfl) (by kernel_rfl) (by kernel_rfl) (fun _ _ _ h => h) rfl rfl ⟨hB, h0⟩ (fun w' h' => exec_index_slice _ 52 _ _ rfl b off ts.length c i 108 rfl rfl Try.underlying31 (by kernel_rfl) (by omega)) ?_
        go_frame
        refine y_yield 6 (some 43) (.pointer (some ⟨b, off + i * 108, none⟩)) rfl (by kernel_rfl) (by kernel_rfl) (by kernel_rfl) (fun _ _ _ h => h) rfl rfl ⟨hB, h0⟩ (fun w' h' => exec_fieldAddr 52 _ 0 rfl _ (by kernel_rfl)) ?_
        go_frame
        refine y_yield 7 (some 44) (.agg (u8s (segm ts[i] 0 36))) rfl (by kernel_rfl) (by kernel_rfl) (by kernel_rfl) (fun _ _ _ h => h) rfl rfl ⟨hB, h0⟩ (fun w' h' => exec_load_cells 50 _ rfl b (off + i * 108) rfl (segm ts[i] 0 36) _ 36 (RdT.seg0 (hR.keep h'.1) hlt) Try.underlying50 rfl (by kernel_rfl) (segm_bytes hb (by omega)).len) ?_
        go_frame
        refine y_yield 8 (some 45) (.int .i64 (n * m)) rfl (by kernel_rfl) (by kernel_rfl) (by kernel_rfl) (fun _ _ _ h => h) rfl rfl ⟨hB, h0⟩ (fun w' h' => exec_move _ rfl (.int .i64 (n * m)) rfl) ?_
        go_frame
        refine y_oper 9 (by kernel_rfl) rfl rfl (fun K' hK' => ?_)
        have lz21 := hB.size
        have lz22 := h0.lt
        refine wp_call3 (some 46) rfl 49 _ _ _ _ rfl (fun args w => by kernel_rfl) _ _ _ rfl rfl rfl _ (l08Series_c p (segm ts[i] 0 36) ((n * m)) (segm_bytes hb (by omega)) _) (fun e Wz19 h => ?_)
        obtain ⟨rfl, bz20⟩ := h
        replace hB := below_after hB bz20
        replace h0 := h0.after bz20
        rw [HSa.out]
        clear bz20
        refine ⟨_, rfl, ?_⟩
        refine hK' _ _ ⟨hB, h0⟩ (fun _ => trivial) ?_
        clear hK' K'
        go_frame
        refine y_yield 10 (some 47) (.bool true) rfl (by kernel_rfl) (by kernel_rfl) (by kernel_rfl) (fun _ _ _ h => h) rfl rfl ⟨hB, h0⟩ (fun w' h' => exec_not _ _ rfl false rfl) ?_
        go_frame
        refine y_yield 11 (some 48) (.bool true) rfl (by kernel_rfl) (by kernel_rfl) (by kernel_rfl) (fun _ _ _ h => h) rfl rfl ⟨hB, h0⟩ (fun w' h' => exec_move _ rfl (.bool true) rfl) ?_
        go_frame
        refine y_skip 12 (some 49) rfl (by kernel_rfl) (by kernel_rfl) (by kernel_rfl) (fun _ _ _ h => h) rfl rfl ⟨hB, h0⟩ ?_
        go_frame
        refine y_skip 13 (some 50) rfl (by kernel_rfl) (by kernel_rfl) (by kernel_rfl) (fun _ _ _ h => h) rfl rfl ⟨hB, h0⟩ ?_
        go_frame
        refine y_skip 14 (some 51) rfl (by kernel_rfl) (by kernel_rfl) (by kernel_rfl) (fun _ _ _ h => h) rfl rfl ⟨hB, h0⟩ ?_
        go_frame
        refine y_skip 15 (some 52) rfl (by kernel_rfl) (by kernel_rfl) (by kernel_rfl) (fun _ _ _ h => h) rfl rfl ⟨hB, h0⟩ ?_
        go_frame
        refine y_skip 16 (some 53) rfl (by kernel_rfl) (by kernel_rfl) (by kernel_rfl) (fun _ _ _ h => h) rfl rfl ⟨hB, h0⟩ ?_
        go_frame
        refine y_skip 17 (some 54) rfl (by kernel_rfl) (by kernel_rfl) (by kernel_rfl) (fun _ _ _ h => h) rfl rfl ⟨hB, h0⟩ ?_
        go_frame
        refine y_skip 18 (some 55) rfl (by kernel_rfl) (by kernel_rfl) (by kernel_rfl) (fun _ _ _ h => h) rfl rfl ⟨hB, h0⟩ ?_
        go_frame
        refine y_skip 19 (some 56) rfl (by kernel_rfl) (by kernel_rfl) (by kernel_rfl) (fun _ _ _ h => h) rfl rfl ⟨hB, h0⟩ ?_
        go_frame
        refine y_skip 20 (some 57) rfl (by kernel_rfl) (by kernel_rfl) (by kernel_rfl) (fun _ _ _ h => h) rfl rfl ⟨hB, h0⟩ ?_
        go_frame
        refine y_pass 21 (some 58) (by kernel_rfl) rfl rfl rfl ⟨hB, h0⟩ ?_
        go_frame
        refine y_skip 22 (some 59) rfl (by kernel_rfl) (by kernel_rfl) (by kernel_rfl) (fun _ _ _ h => h) rfl rfl ⟨hB, h0⟩ ?_
        go_frame
        refine y_yield 23 (some 60) (.bool true) rfl (by kernel_rfl) (by kernel_rfl) (by kernel_rfl) (fun _ _ _ h => h) rfl rfl ⟨hB, h0⟩ (fun w' h' => exec_pick _ _ _ rfl true rfl (.bool true) rfl) ?_
        go_frame
        refine y_yield 24 (some 61) (.bool true) rfl (by kernel_rfl) (by kernel_rfl) (by kernel_rfl) (fun _ _ _ h => h) rfl rfl ⟨hB, h0⟩ (fun w' h' => exec_move _ rfl (.bool true) rfl) ?_
        go_frame
        refine y_skip 25 (some 62) rfl (by kernel_rfl) (by kernel_rfl) (by kernel_rfl) (fun _ _ _ h => h) rfl rfl ⟨hB, h0⟩ ?_
        go_frame
        refine y_skip 26 (some 63) rfl (by kernel_rfl) (by kernel_rfl) (by kernel_rfl) (fun _ _ _ h => h) rfl rfl ⟨hB, h0⟩ ?_
        go_frame
        refine y_skip 27 (some 64) rfl (by kernel_rfl) (by kernel_rfl) (by kernel_rfl) (fun _ _ _ h => h) rfl rfl ⟨hB, h0⟩ ?_
        go_frame
        refine y_skip 28 (some 65) rfl (by kernel_rfl) (by kernel_rfl) (by kernel_rfl) (fun _ _ _ h => h) rfl rfl ⟨hB, h0⟩ ?_
        go_frame
        refine y_skip 29 (some 66) rfl (by kernel_rfl) (by kernel_rfl) (by kernel_rfl) (fun _ _ _ h => h) rfl rfl ⟨hB, h0⟩ ?_
        go_frame
        refine y_skip 30 (some 67) rfl (by kernel_rfl) (by kernel_rfl) (by kernel_rfl) (fun _ _ _ h => h) rfl rfl ⟨hB, h0⟩ ?_
        go_frame
        refine y_skip 31 (some 68) rfl (by kernel_rfl) (by kernel_rfl) (by kernel_rfl) (fun _ _ _ h => h) rfl rfl ⟨hB, h0⟩ ?_
        go_frame
        refine y_skip 32 (some 69) rfl (by kernel_rfl) (by kernel_rfl) (by kernel_rfl) (fun _ _ _ h => h) rfl rfl ⟨hB, h0⟩ ?_
        go_frame
        refine y_skip 33 (some 70) rfl (by kernel_rfl) (by kernel_rfl) (by kernel_rfl) (fun _ _ _ h => h) rfl rfl ⟨hB, h0⟩ ?_
        go_frame
        refine y_pass 34 (some 71) (by kernel_rfl) rfl rfl rfl ⟨hB, h0⟩ ?_
        go_frame
        refine y_skip 35 (some 72) rfl (by kernel_rfl) (by kernel_rfl) (by kernel_rfl) (fun _ _ _ h => h) rfl rfl ⟨hB, h0⟩ ?_
        go_frame
        refine y_yield 36 (some 73) (.bool true) rfl (by kernel_rfl) (by kernel_rfl) (by kernel_rfl) (fun _ _ _ h => h) rfl rfl ⟨hB, h0⟩ (fun w' h' => exec_pick _ _ _ rfl true rfl (.bool true) rfl) ?_
        go_frame
        refine y_done (by kernel_rfl) ?_ _
        go_upto_region 8 with (fail)
        refine wp_region_lit ?_
        refine ls_ex (some 2) (.bool false) rfl rfl (exec_assign _ rfl (.bool false) rfl) ?_
        go_frame
        refine wpList_nil ?_
        go_wp2_with fail
        go_ret
        exact ⟨by rw [HNo.out]; rfl, hB⟩
      | true =>
        cases hb2 : serB p (segm ts[i] 36 36) (m * k) with
        | false =>
          have HNo : Hid (borderB p n m k ts = false) := Lib.hid (borderB_no hlt (by unfold twigB; rw [ha, hb2]; simp))
          have HSa := Lib.hid ha
          have HSb := Lib.hid hb2
          clear ha hb2
          go_upto_region 5 with (fail)
          refine wp_region_lit ?_
          refine ls_ex (some 30) (.int .i64 i) rfl rfl (exec_move _ rfl (.int .i64 i) rfl) ?_
          go_frame
          refine ls_ex (some 31) (.pointer (some ⟨w.heap.size, 4, none⟩)) rfl rfl (exec_fieldAddr 33 _ 4 rfl _ (by kernel_rfl)) ?_
          go_frame
          refine ls_ex (some 32) (.slice (some ⟨b, off, none⟩) ts.length c) rfl rfl (exec_load_one 31 _ rfl w.heap.size 4 rfl (.slice (some ⟨b, off, none⟩) ts.length c) _ Try.underlying31 rfl (h0.at_ 4)) ?_
          go_frame
          refine ls_ex (some 33) (.int .i64 ts.length) rfl rfl (exec_len _ 31 52 rfl ((some ⟨b, off, none⟩)) ts.length c rfl Try.underlying31) ?_
          go_frame
          refine ls_ex (some 34) (.bool true) rfl rfl (exec_lss _ _ _ _ rfl i ts.length rfl rfl true (decide_eq_true (by omega))) ?_
          go_frame
          refine wpList_nil ?_
          go_upto_region 7 with (fail)
          refine wp_region_y (zs := []) (S := fun w' => Below w.heap.size w w' ∧ At w' w.heap.size (.cells #[.int .i64 p, .int .i64 n, .int .i64 m, .int .i64 k, .slice (some ⟨b, off, none⟩) ts.length c] 33 (0, 0))) (S2 := fun w' => True) (by kernel_rfl) ?_
          change wpAnyY _ _ _ _ _ _ _ _ _ _ (World.drew _)
          generalize hwdz23 : World.drew _ = wdz23
          replace hB : Below w.heap.size w wdz23 := by rw [← hwdz23]; exact hB.drew
          replace h0 : At wdz23 w.heap.size (.cells #[.int .i64 p, .int .i64 n, .int .i64 m, .int .i64 k, .slice (some ⟨b, off, none⟩) ts.length c] 33 (0, 0)) := by rw [← hwdz23]; exact h0
          clear hwdz23
          refine y_yield 0 (some 37) (.pointer (some ⟨w.heap.size, 0, none⟩)) rfl (by kernel_rfl) (by kernel_rfl) (by kernel_rfl) (fun _ _ _ h => h) rfl rfl ⟨hB, h0⟩ (fun w' h' => exec_fieldAddr 33 _ 0 rfl _ (by kernel_rfl)) ?_
          go_frame
          refine y_yield 1 (some 38) (.int .i64 p) rfl (by kernel_rfl) (by kernel_rfl) (by kernel_rfl) (fun _ _ _ h => h) rfl rfl ⟨hB, h0⟩ (fun w' h' => exec_load_one 2 _ rfl w.heap.size 0 rfl (.int .i64 p) _ Try.underlying2 rfl (h'.2.at_ 0)) ?_
          go_frame
          refine y_yield 2 (some 39) (.pointer (some ⟨w.heap.size, 4, none⟩)) rfl (by kernel_rfl) (by kernel_rfl) (by kernel_rfl) (fun _ _ _ h => h) rfl rfl ⟨hB, h0⟩ (fun w' h' => exec_fieldAddr 33 _ 4 rfl _ (by kernel_rfl)) ?_
          go_frame
          refine y_yield 3 (some 40) (.slice (some ⟨b, off, none⟩) ts.length c) rfl (by kernel_rfl) (by kernel_rfl) (by kernel_rfl) (fun _ _ _ h => h) rfl rfl ⟨hB, h0⟩ (fun w' h' => exec_load_one 31 _ rfl w.heap.size 4 rfl (.slice (some ⟨b, off, none⟩) ts.length c) _ Try.underlying31 rfl (h'.2.at_ 4)) ?_
          go_frame
          refine y_yield 4 (some 41) (.int .i64 i) rfl (by kernel_rfl) (by kernel_rfl) (by kernel_rfl) (fun _ _ _ h => h) rfl rfl ⟨hB, h0⟩ (fun w' h' => exec_move _ rfl (.int .i64 i) rfl) ?_
          go_frame
          refine y_yield 5 (some 42) (.pointer (some ⟨b, off + i * 108, none⟩)) rfl (by kernel_rfl) (by kernel_rfl) (by kernel_rfl) (fun _ _ _ h => h) rfl rfl ⟨hB, h0⟩ (fun w' h' => exec_index_slice _ 52 _ _ rfl b off ts.length c i 108 rfl rfl Try.underlying31 (by kernel_rfl) (by omega)) ?_
          go_frame
          refine y_yield 6 (some 43) (.pointer (some ⟨b, off + i * 108, none⟩)) rfl (by kernel_rfl) (by kernel_rfl) (by kernel_rfl) (fun _ _ _ h => h) rfl rfl ⟨hB, h0⟩ (fun w' h' => exec_fieldAddr 52 _ 0 rfl _ (by kernel_rfl)) ?_
          go_frame
          refine y_yield 7 (some 44) (.agg (u8s (segm ts[i] 0 36))) rfl (by kernel_rfl) (by kernel_rfl) (by kernel_rfl) (fun _ _ _ h => h) rfl rfl ⟨hB, h0⟩ (fun w' h' => exec_load_cells 50 _ rfl b (off + i * 108) rfl (segm ts[i] 0 36) _ 36 (RdT.seg0 (hR.keep h'.1) hlt) Try.underlying50 rfl (by kernel_rfl) (segm_bytes hb (by omega)).len) ?_
          go_frame
          refine y_yield 8 (some 45) (.int .i64 (n * m)) rfl (by kernel_rfl) (by kernel_rfl) (by kernel_rfl) (fun _ _ _ h => h) rfl rfl ⟨hB, h0⟩ (fun w' h' => exec_move _ rfl (.int .i64 (n * m)) rfl) ?_
          go_frame
          refine y_oper 9 (by kernel_rfl) rfl rfl (fun K' hK' => ?_)
          have lz26 := hB.size
          have lz27 := h0.lt
          refine wp_call3 (some 46) rfl 49 _ _ _ _ rfl (fun args w => by kernel_rfl) _ _ _ rfl rfl rfl _ (l08Series_c p (segm ts[i] 0 36) ((n * m)) (segm_bytes hb (by omega)) _) (fun e Wz24 h => ?_)
          obtain ⟨rfl, bz25⟩ := h
          replace hB := below_after hB bz25
          replace h0 := h0.after bz25
          rw [HSa.out]
          clear bz25
          refine ⟨_, rfl, ?_⟩
          refine hK' _ _ ⟨hB, h0⟩ (fun _ => trivial) ?_
          clear hK' K'
          go_frame
          refine y_yield 10 (some 47) (.bool false) rfl (by kernel_rfl) (by kernel_rfl) (by kernel_rfl) (fun _ _ _ h => h) rfl rfl ⟨hB, h0⟩ (fun w' h' => exec_not _ _ rfl true rfl) ?_
          go_frame
          refine y_yield 11 (some 48) (.bool false) rfl (by kernel_rfl) (by kernel_rfl) (by kernel_rfl) (fun _ _ _ h => h) rfl rfl ⟨hB, h0⟩ (fun w' h' => exec_move _ rfl (.bool false) rfl) ?_
          go_frame
          refine y_yield 12 (some 49) (.pointer (some ⟨w.heap.size, 0, none⟩)) rfl (by kernel_rfl) (by kernel_rfl) (by kernel_rfl) (fun _ _ _ h => h) rfl rfl ⟨hB, h0⟩ (fun w' h' => exec_fieldAddr 33 _ 0 rfl _ (by kernel_rfl)) ?_
          go_frame
          refine y_yield 13 (some 50) (.int .i64 p) rfl (by kernel_rfl) (by kernel_rfl) (by kernel_rfl) (fun _ _ _ h => h) rfl rfl ⟨hB, h0⟩ (fun w' h' => exec_load_one 2 _ rfl w.heap.size 0 rfl (.int .i64 p) _ Try.underlying2 rfl (h'.2.at_ 0)) ?_
          go_frame
          refine y_yield 14 (some 51) (.pointer (some ⟨w.heap.size, 4, none⟩)) rfl (by kernel_rfl) (by kernel_rfl) (by kernel_rfl) (fun _ _ _ h => h) rfl rfl ⟨hB, h0⟩ (fun w' h' => exec_fieldAddr 33 _ 4 rfl _ (by kernel_rfl)) ?_
          go_frame
          refine y_yield 15 (some 52) (.slice (some ⟨b, off, none⟩) ts.length c) rfl (by kernel_rfl) (by kernel_rfl) (by kernel_rfl) (fun _ _ _ h => h) rfl rfl ⟨hB, h0⟩ (fun w' h' => exec_load_one 31 _ rfl w.heap.size 4 rfl (.slice (some ⟨b, off, none⟩) ts.length c) _ Try.underlying31 rfl (h'.2.at_ 4)) ?_
          go_frame
          refine y_yield 16 (some 53) (.int .i64 i) rfl (by kernel_rfl) (by kernel_rfl) (by kernel_rfl) (fun _ _ _ h => h) rfl rfl ⟨hB, h0⟩ (fun w' h' => exec_move _ rfl (.int .i64 i) rfl) ?_
          go_frame
          refine y_yield 17 (some 54) (.pointer (some ⟨b, off + i * 108, none⟩)) rfl (by kernel_rfl) (by kernel_rfl) (by kernel_rfl) (fun _ _ _ h => h) rfl rfl ⟨hB, h0⟩ (fun w' h' => exec_index_slice _ 52 _ _ rfl b off ts.length c i 108 rfl rfl Try.underlying31 (by kernel_rfl) (by omega)) ?_
          go_frame
          refine y_yield 18 (some 55) (.pointer (some ⟨b, off + i * 108 + 36, none⟩)) rfl (by kernel_rfl) (by kernel_rfl) (by kernel_rfl) (fun _ _ _ h => h) rfl rfl ⟨hB, h0⟩ (fun w' h' => exec_fieldAddr 52 _ 1 rfl _ (by kernel_rfl)) ?_
          go_frame
          refine y_yield 19 (some 56) (.agg (u8s (segm ts[i] 36 36))) rfl (by kernel_rfl) (by kernel_rfl) (by kernel_rfl) (fun _ _ _ h => h) rfl rfl ⟨hB, h0⟩ (fun w' h' => exec_load_cells 50 _ rfl b (off + i * 108 + 36) rfl (segm ts[i] 36 36) _ 36 (RdT.seg (hR.keep h'.1) hlt 36 (by omega)) Try.underlying50 rfl (by kernel_rfl) (segm_bytes hb (by omega)).len) ?_
          go_frame
          refine y_yield 20 (some 57) (.int .i64 (m * k)) rfl (by kernel_rfl) (by kernel_rfl) (by kernel_rfl) (fun _ _ _ h => h) rfl rfl ⟨hB, h0⟩ (fun w' h' => exec_move _ rfl (.int .i64 (m * k)) rfl) ?_
          go_frame
          refine y_oper 21 (by kernel_rfl) rfl rfl (fun K' hK' => ?_)
          have lz30 := hB.size
          have lz31 := h0.lt
          refine wp_call3 (some 58) rfl 49 _ _ _ _ rfl (fun args w => by kernel_rfl) _ _ _ rfl rfl rfl _ (l08Series_c p (segm ts[i] 36 36) ((m * k)) (segm_bytes hb (by omega)) _) (fun e Wz28 h => ?_)
          obtain ⟨rfl, bz29⟩ := h
          replace hB := below_after hB bz29
          replace h0 := h0.after bz29
          rw [HSb.out]
          clear bz29
          refine ⟨_, rfl, ?_⟩
          refine hK' _ _ ⟨hB, h0⟩ (fun _ => trivial) ?_
          clear hK' K'
          go_frame
          refine y_yield 22 (some 59) (.bool true) rfl (by kernel_rfl) (by kernel_rfl) (by kernel_rfl) (fun _ _ _ h => h) rfl rfl ⟨hB, h0⟩ (fun w' h' => exec_not _ _ rfl false rfl) ?_
          go_frame
          refine y_yield 23 (some 60) (.bool true) rfl (by kernel_rfl) (by kernel_rfl) (by kernel_rfl) (fun _ _ _ h => h) rfl rfl ⟨hB, h0⟩ (fun w' h' => exec_pick _ _ _ rfl false rfl (.bool true) rfl) ?_
          go_frame
          refine y_yield 24 (some 61) (.bool true) rfl (by kernel_rfl) (by kernel_rfl) (by kernel_rfl) (fun _ _ _ h => h) rfl rfl ⟨hB, h0⟩ (fun w' h' => exec_move _ rfl (.bool true) rfl) ?_
          go_frame
          refine y_skip 25 (some 62) rfl (by kernel_rfl) (by kernel_rfl) (by kernel_rfl) (fun _ _ _ h => h) rfl rfl ⟨hB, h0⟩ ?_
          go_frame
          refine y_skip 26 (some 63) rfl (by kernel_rfl) (by kernel_rfl) (by kernel_rfl) (fun _ _ _ h => h) rfl rfl ⟨hB, h0⟩ ?_
          go_frame
          refine y_skip 27 (some 64) rfl (by kernel_rfl) (by kernel_rfl) (by kernel_rfl) (fun _ _ _ h => h) rfl rfl ⟨hB, h0⟩ ?_
          go_frame
          refine y_skip 28 (some 65) rfl (by kernel_rfl) (by kernel_rfl) (by kernel_rfl) (fun _ _ _ h => h) rfl rfl ⟨hB, h0⟩ ?_
          go_frame
          refine y_skip 29 (some 66) rfl (by kernel_rfl) (by kernel_rfl) (by kernel_rfl) (fun _ _ _ h => h) rfl rfl ⟨hB, h0⟩ ?_
          go_frame
          refine y_skip 30 (some 67) rfl (by kernel_rfl) (by kernel_rfl) (by kernel_rfl) (fun _ _ _ h => h) rfl rfl ⟨hB, h0⟩ ?_
          go_frame
          refine y_skip 31 (some 68) rfl (by kernel_rfl) (by kernel_rfl) (by kernel_rfl) (fun _ _ _ h => h) rfl rfl ⟨hB, h0⟩ ?_
          go_frame
          refine y_skip 32 (some 69) rfl (by kernel_rfl) (by kernel_rfl) (by kernel_rfl) (fun _ _ _ h => h) rfl rfl ⟨hB, h0⟩ ?_
          go_frame
          refine y_skip 33 (some 70) rfl (by kernel_rfl) (by kernel_rfl) (by kernel_rfl) (fun _ _ _ h => h) rfl rfl ⟨hB, h0⟩ ?_
          go_frame
          refine y_pass 34 (some 71) (by kernel_rfl) rfl rfl rfl ⟨hB, h0⟩ ?_
          go_frame
          refine y_skip 35 (some 72) rfl (by kernel_rfl) (by kernel_rfl) (by kernel_rfl) (fun _ _ _ h => h) rfl rfl ⟨hB, h0⟩ ?_
          go_frame
          refine y_yield 36 (some 73) (.bool true) rfl (by kernel_rfl) (by kernel_rfl) (by kernel_rfl) (fun _ _ _ h => h) rfl rfl ⟨hB, h0⟩ (fun w' h' => exec_pick _ _ _ rfl true rfl (.bool true) rfl) ?_
          go_frame
          refine y_done (by kernel_rfl) ?_ _
          go_upto_region 8 with (fail)
          refine wp_region_lit ?_
          refine ls_ex (some 2) (.bool false) rfl rfl (exec_assign _ rfl (.bool false) rfl) ?_
          go_frame
          refine wpList_nil ?_
          go_wp2_with fail
          go_ret
          exact ⟨by rw [HNo.out]; rfl, hB⟩
        | true =>
          cases hc2 : serB p (segm ts[i] 72 36) (n * k) with
          | false =>
            have HNo : Hid (borderB p n m k ts = false) := Lib.hid (borderB_no hlt (by unfold twigB; rw [ha, hb2, hc2]; simp))
            have HSa := Lib.hid ha
            have HSb := Lib.hid hb2
            have HSc := Lib.hid hc2
            clear ha hb2 hc2
            go_upto_region 5 with (fail)
            refine wp_region_lit ?_
            refine ls_ex (some 30) (.int .i64 i) rfl rfl (exec_move _ rfl (.int .i64 i) rfl) ?_
            go_frame
            refine ls_ex (some 31) (.pointer (some ⟨w.heap.size, 4, none⟩)) rfl rfl (exec_fieldAddr 33 _ 4 rfl _ (by kernel_rfl)) ?_
            go_frame
            refine ls_ex (some 32) (.slice (some ⟨b, off, none⟩) ts.length c) rfl rfl (exec_load_one 31 _ rfl w.heap.size 4 rfl (.slice (some ⟨b, off, none⟩) ts.length c) _ Try.underlying31 rfl (h0.at_ 4)) ?_
            go_frame
            refine ls_ex (some 33) (.int .i64 ts.length) rfl rfl (exec_len _ 31 52 rfl ((some ⟨b, off, none⟩)) ts.length c rfl Try.underlying31) ?_
            go_frame
            refine ls_ex (some 34) (.bool true) rfl rfl (exec_lss _ _ _ _ rfl i ts.length rfl rfl true (decide_eq_true (by omega))) ?_
            go_frame
            refine wpList_nil ?_
            go_upto_region 7 with (fail)
            refine wp_region_y (zs := []) (S := fun w' => Below w.heap.size w w' ∧ At w' w.heap.size (.cells #[.int .i64 p, .int .i64 n, .int .i64 m, .int .i64 k, .slice (some ⟨b, off, none⟩) ts.length c] 33 (0, 0))) (S2 := fun w' => True) (by kernel_rfl) ?_
            change wpAnyY _ _ _ _ _ _ _ _ _ _ (World.drew _)
            generalize hwdz32 : World.drew _ = wdz32
            replace hB : Below w.heap.size w wdz32 := by rw [← hwdz32]; exact hB.drew
            replace h0 : At wdz32 w.heap.size (.cells #[.int .i64 p, .int .i64 n, .int .i64 m, .int .i64 k, .slice (some ⟨b, off, none⟩) ts.length c] 33 (0, 0)) := by rw [← hwdz32]; exact h0
            clear hwdz32
            refine y_yield 0 (some 37) (.pointer (some ⟨w.heap.size, 0, none⟩)) rfl (by kernel_rfl) (by kernel_rfl) (by kernel_rfl) (fun _ _ _ h => h) rfl rfl ⟨hB, h0⟩ (fun w' h' => exec_fieldAddr 33 _ 0 rfl _ (by kernel_rfl)) ?_
            go_frame
            refine y_yield 1 (some 38) (.int .i64 p) rfl (by kernel_rfl) (by kernel_rfl) (by kernel_rfl) (fun _ _ _ h => h) rfl rfl ⟨hB, h0⟩ (fun w' h' => exec_load_one 2 _ rfl w.heap.size 0 rfl (.int .i64 p) _ Try.underlying2 rfl (h'.2.at_ 0)) ?_
            go_frame
            refine y_yield 2 (some 39) (.pointer (some ⟨w.heap.size, 4, none⟩)) rfl (by kernel_rfl) (by kernel_rfl) (by kernel_rfl) (fun _ _ _ h => h) rfl rfl ⟨hB, h0⟩ (fun w' h' => exec_fieldAddr 33 _ 4 rfl _ (by kernel_rfl)) ?_
            go_frame
            refine y_yield 3 (some 40) (.slice (some ⟨b, off, none⟩) ts.length c) rfl (by kernel_rfl) (by kernel_rfl) (by kernel_rfl) (fun _ _ _ h => h) rfl rfl ⟨hB, h0⟩ (fun w' h' => exec_load_one 31 _ rfl w.heap.size 4 rfl (.slice (some ⟨b, off, none⟩) ts.length c) _ Try.underlying31 rfl (h'.2.at_ 4)) ?_
            go_frame
            refine y_yield 4 (some 41) (.int .i64 i) rfl (by kernel_rfl) (by kernel_rfl) (by kernel_rfl) (fun _ _ _ h => h) rfl rfl ⟨hB, h0⟩ (fun w' h' => exec_move _ rfl (.int .i64 i) rfl) ?_
            go_frame
            refine y_yield 5 (some 42) (.pointer (some ⟨b, off + i * 108, none⟩)) rfl (by kernel_rfl) (by kernel_rfl) (by kernel_rfl) (fun _ _ _ h => h) rfl rfl ⟨hB, h0⟩ (fun w' h' => exec_index_slice _ 52 _ _ rfl b off ts.length c i 108 rfl rfl Try.underlying31 (by kernel_rfl) (by omega)) ?_
            go_frame
            refine y_yield 6 (some 43) (.pointer (some ⟨b, off + i * 108, none⟩)) rfl (by kernel_rfl) (by kernel_rfl) (by kernel_rfl) (fun _ _ _ h => h) rfl rfl ⟨hB, h0⟩ (fun w' h' => exec_fieldAddr 52 _ 0 rfl _ (by kernel_rfl)) ?_
            go_frame
            refine y_yield 7 (some 44) (.agg (u8s (segm ts[i] 0 36))) rfl (by kernel_rfl) (by kernel_rfl) (by kernel_rfl) (fun _ _ _ h => h) rfl rfl ⟨hB, h0⟩ (fun w' h' => exec_load_cells 50 _ rfl b (off + i * 108) rfl (segm ts[i] 0 36) _ 36 (RdT.seg0 (hR.keep h'.1) hlt) Try.underlying50 rfl (by kernel_rfl) (segm_bytes hb (by omega)).len) ?_
            go_frame
            refine y_yield 8 (some 45) (.int .i64 (n * m)) rfl (by kernel_rfl) (by kernel_rfl) (by kernel_rfl) (fun _ _ _ h => h) rfl rfl ⟨hB, h0⟩ (fun w' h' => exec_move _ rfl (.int .i64 (n * m)) rfl) ?_
            go_frame
            refine y_oper 9 (by kernel_rfl) rfl rfl (fun K' hK' => ?_)
            have lz35 := hB.size
            have lz36 := h0.lt
            refine wp_call3 (some 46) rfl 49 _ _ _ _ rfl (fun args w => by kernel_rfl) _ _ _ rfl rfl rfl _ (l08Series_c p (segm ts[i] 0 36) ((n * m)) (segm_bytes hb (by omega)) _) (fun e Wz33 h => ?_)
            obtain ⟨rfl, bz34⟩ := h
            replace hB := below_after hB bz34
            replace h0 := h0.after bz34
            rw [HSa.out]
            clear bz34
            refine ⟨_, rfl, ?_⟩
            refine hK' _ _ ⟨hB, h0⟩ (fun _ => trivial) ?_
            clear hK' K'
            go_frame
            refine y_yield 10 (some 47) (.bool false) rfl (by kernel_rfl) (by kernel_rfl) (by kernel_rfl) (fun _ _ _ h => h) rfl rfl ⟨hB, h0⟩ (fun w' h' => exec_not _ _ rfl true rfl) ?_
            go_frame
            refine y_yield 11 (some 48) (.bool false) rfl (by kernel_rfl) (by kernel_rfl) (by kernel_rfl) (fun _ _ _ h => h) rfl rfl ⟨hB, h0⟩ (fun w' h' => exec_move _ rfl (.bool false) rfl) ?_
            go_frame
            refine y_yield 12 (some 49) (.pointer (some ⟨w.heap.size, 0, none⟩)) rfl (by kernel_rfl) (by kernel_rfl) (by kernel_rfl) (fun _ _ _ h => h) rfl rfl ⟨hB, h0⟩ (fun w' h' => exec_fieldAddr 33 _ 0 rfl _ (by kernel_rfl)) ?_
            go_frame
            refine y_yield 13 (some 50) (.int .i64 p) rfl (by kernel_rfl) (by kernel_rfl) (by kernel_rfl) (fun _ _ _ h => h) rfl rfl ⟨hB, h0⟩ (fun w' h' => exec_load_one 2 _ rfl w.heap.size 0 rfl (.int .i64 p) _ Try.underlying2 rfl (h'.2.at_ 0)) ?_
            go_frame
            refine y_yield 14 (some 51) (.pointer (some ⟨w.heap.size, 4, none⟩)) rfl (by kernel_rfl) (by kernel_rfl) (by kernel_rfl) (fun _ _ _ h => h) rfl rfl ⟨hB, h0⟩ (fun w' h' => exec_fieldAddr 33 _ 4 rfl _ (by kernel_rfl)) ?_
            go_frame
            refine y_yield 15 (some 52) (.slice (some ⟨b, off, none⟩) ts.length c) rfl (by kernel_rfl) (by kernel_rfl) (by kernel_rfl) (fun _ _ _ h => h) rfl rfl ⟨hB, h0⟩ (fun w' h' => exec_load_one 31 _ rfl w.heap.size 4 rfl (.slice (some ⟨b, off, none⟩) ts.length c) _ Try.underlying31 rfl (h'.2.at_ 4)) ?_
            go_frame
            refine y_yield 16 (some 53) (.int .i64 i) rfl (by kernel_rfl) (by kernel_rfl) (by kernel_rfl) (fun _ _ _ h => h) rfl rfl ⟨hB, h0⟩ (fun w' h' => exec_move _ rfl (.int .i64 i) rfl) ?_
            go_frame
            refine y_yield 17 (some 54) (.pointer (some ⟨b, off + i * 108, none⟩)) rfl (by kernel_rfl) (by kernel_rfl) (by kernel_rfl) (fun _ _ _ h => h) rfl rfl ⟨hB, h0⟩ (fun w' h' => exec_index_slice _ 52 _ _ rfl b off ts.length c i 108 rfl rfl Try.underlying31 (by kernel_rfl) (by omega)) ?_
            go_frame
            refine y_yield 18 (some 55) (.pointer (some ⟨b, off + i * 108 + 36, none⟩)) rfl (by kernel_rfl) (by kernel_rfl) (by kernel_rfl) (fun _ _ _ h => h) rfl rfl ⟨hB, h0⟩ (fun w' h' => exec_fieldAddr 52 _ 1 rfl _ (by kernel_rfl)) ?_
            go_frame
            refine y_yield 19 (some 56) (.agg (u8s (segm ts[i] 36 36))) rfl (by kernel_rfl) (by kernel_rfl) (by kernel_rfl) (fun _ _ _ h => h) rfl rfl ⟨hB, h0⟩ (fun w' h' => exec_load_cells 50 _ rfl b (off + i * 108 + 36) rfl (segm ts[i] 36 36) _ 36 (RdT.seg (hR.keep h'.1) hlt 36 (by omega)) Try.underlying50 rfl (by kernel_rfl) (segm_bytes hb (by omega)).len) ?_
            go_frame
            refine y_yield 20 (some 57) (.int .i64 (m * k)) rfl (by kernel_rfl) (by kernel_rfl) (by kernel_rfl) (fun _ _ _ h => h) rfl rfl ⟨hB, h0⟩ (fun w' h' => exec_move _ rfl (.int .i64 (m * k)) rfl) ?_
            go_frame
            refine y_oper 21 (by kernel_rfl) rfl rfl (fun K' hK' => ?_)
            have lz39 := hB.size
            have lz40 := h0.lt
            refine wp_call3 (some 58) rfl 49 _ _ _ _ rfl (fun args w => by kernel_rfl) _ _ _ rfl rfl rfl _ (l08Series_c p (segm ts[i] 36 36) ((m * k)) (segm_bytes hb (by omega)) _) (fun e Wz37 h => ?_)
            obtain ⟨rfl, bz38⟩ := h
            replace hB := below_after hB bz38
            replace h0 := h0.after bz38
            rw [HSb.out]
            clear bz38
            refine ⟨_, rfl, ?_⟩
            refine hK' _ _ ⟨hB, h0⟩ (fun _ => trivial) ?_
            clear hK' K'
            go_frame
            refine y_yield 22 (some 59) (.bool false) rfl (by kernel_rfl) (by kernel_rfl) (by kernel_rfl) (fun _ _ _ h => h) rfl rfl ⟨hB, h0⟩ (fun w' h' => exec_not _ _ rfl true rfl) ?_
            go_frame
            refine y_yield 23 (some 60) (.bool false) rfl (by kernel_rfl) (by kernel_rfl) (by kernel_rfl) (fun _ _ _ h => h) rfl rfl ⟨hB, h0⟩ (fun w' h' => exec_pick _ _ _ rfl false rfl (.bool false) rfl) ?_
            go_frame
            refine y_yield 24 (some 61) (.bool false) rfl (by kernel_rfl) (by kernel_rfl) (by kernel_rfl) (fun _ _ _ h => h) rfl rfl ⟨hB, h0⟩ (fun w' h' => exec_move _ rfl (.bool false) rfl) ?_
            go_frame
            refine y_yield 25 (some 62) (.pointer (some ⟨w.heap.size, 0, none⟩)) rfl (by kernel_rfl) (by kernel_rfl) (by kernel_rfl) (fun _ _ _ h => h) rfl rfl ⟨hB, h0⟩ (fun w' h' => exec_fieldAddr 33 _ 0 rfl _ (by kernel_rfl)) ?_
            go_frame
            refine y_yield 26 (some 63) (.int .i64 p) rfl (by kernel_rfl) (by kernel_rfl) (by kernel_rfl) (fun _ _ _ h => h) rfl rfl ⟨hB, h0⟩ (fun w' h' => exec_load_one 2 _ rfl w.heap.size 0 rfl (.int .i64 p) _ Try.underlying2 rfl (h'.2.at_ 0)) ?_
            go_frame
            refine y_yield 27 (some 64) (.pointer (some ⟨w.heap.size, 4, none⟩)) rfl (by kernel_rfl) (by kernel_rfl) (by kernel_rfl) (fun _ _ _ h => h) rfl rfl ⟨hB, h0⟩ (fun w' h' => exec_fieldAddr 33 _ 4 rfl _ (by kernel_rfl)) ?_
            go_frame
            refine y_yield 28 (some 65) (.slice (some ⟨b, off, none⟩) ts.length c) rfl (by kernel_rfl) (by kernel_rfl) (by kernel_rfl) (fun _ _ _ h => h) rfl rfl ⟨hB, h0⟩ (fun w' h' => exec_load_one 31 _ rfl w.heap.size 4 rfl (.slice (some ⟨b, off, none⟩) ts.length c) _ Try.underlying31 rfl (h'.2.at_ 4)) ?_
            go_frame
            refine y_yield 29 (some 66) (.int .i64 i) rfl (by kernel_rfl) (by kernel_rfl) (by kernel_rfl) (fun _ _ _ h => h) rfl rfl ⟨hB, h0⟩ (fun w' h' => exec_move _ rfl (.int .i64 i) rfl) ?_
            go_frame
            refine y_yield 30 (some 67) (.pointer (some ⟨b, off + i * 108, none⟩)) rfl (by kernel_rfl) (by kernel_rfl) (by kernel_rfl) (fun _ _ _ h => h) rfl rfl ⟨hB, h0⟩ (fun w' h' => exec_index_slice _ 52 _ _ rfl b off ts.length c i 108 rfl rfl Try.underlying31 (by kernel_rfl) (by omega)) ?_
            go_frame
            refine y_yield 31 (some 68) (.pointer (some ⟨b, off + i * 108 + 72, none⟩)) rfl (by kernel_rfl) (by kernel_rfl) (by kernel_rfl) (fun _ _ _ h => h) rfl rfl ⟨hB, h0⟩ (fun w' h' => exec_fieldAddr 52 _ 2 rfl _ (by kernel_rfl)) ?_
            go_frame
            refine y_yield 32 (some 69) (.agg (u8s (segm ts[i] 72 36))) rfl (by kernel_rfl) (by kernel_rfl) (by kernel_rfl) (fun _ _ _ h => h) rfl rfl ⟨hB, h0⟩ (fun w' h' => exec_load_cells 50 _ rfl b (off + i * 108 + 72) rfl (segm ts[i] 72 36) _ 36 (RdT.seg (hR.keep h'.1) hlt 72 (by omega)) Try.underlying50 rfl (by kernel_rfl) (segm_bytes hb (by omega)).len) ?_
            go_frame
            refine y_yield 33 (some 70) (.int .i64 (n * k)) rfl (by kernel_rfl) (by kernel_rfl) (by kernel_rfl) (fun _ _ _ h => h) rfl rfl ⟨hB, h0⟩ (fun w' h' => exec_move _ rfl (.int .i64 (n * k)) rfl) ?_
            go_frame
            refine y_oper 34 (by kernel_rfl) rfl rfl (fun K' hK' => ?_)
            have lz43 := hB.size
            have lz44 := h0.lt
            refine wp_call3 (some 71) rfl 49 _ _ _ _ rfl (fun args w => by kernel_rfl) _ _ _ rfl rfl rfl _ (l08Series_c p (segm ts[i] 72 36) ((n * k)) (segm_bytes hb (by omega)) _) (fun e Wz41 h => ?_)
            obtain ⟨rfl, bz42⟩ := h
            replace hB := below_after hB bz42
            replace h0 := h0.after bz42
            rw [HSc.out]
            clear bz42
            refine ⟨_, rfl, ?_⟩
            refine hK' _ _ ⟨hB, h0⟩ (fun _ => trivial) ?_
            clear hK' K'
            go_frame
            refine y_yield 35 (some 72) (.bool true) rfl (by kernel_rfl) (by kernel_rfl) (by kernel_rfl) (fun _ _ _ h => h) rfl rfl ⟨hB, h0⟩ (fun w' h' => exec_not _ _ rfl false rfl) ?_
            go_frame
            refine y_yield 36 (some 73) (.bool true) rfl (by kernel_rfl) (by kernel_rfl) (by kernel_rfl) (fun _ _ _ h => h) rfl rfl ⟨hB, h0⟩ (fun w' h' => exec_pick _ _ _ rfl false rfl (.bool true) rfl) ?_
            go_frame
            refine y_done (by kernel_rfl) ?_ _
            go_upto_region 8 with (fail)
            refine wp_region_lit ?_
            refine ls_ex (some 2) (.bool false) rfl rfl (exec_assign _ rfl (.bool false) rfl) ?_
            go_frame
            refine wpList_nil ?_
            go_wp2_with fail
            go_ret
            exact ⟨by rw [HNo.out]; rfl, hB⟩
          | true =>
            have HY : Hid (twigsB p n m k ts (i + 1) = true) := Lib.hid (twigsB_step hlt HG.out (by unfold twigB; rw [ha, hb2, hc2]; rfl))
            have HSa := Lib.hid ha
            have HSb := Lib.hid hb2
            have HSc := Lib.hid hc2
            clear ha hb2 hc2
            go_upto_region 5 with (fail)
            refine wp_region_lit ?_
            refine ls_ex (some 30) (.int .i64 i) rfl rfl (exec_move _ rfl (.int .i64 i) rfl) ?_
            go_frame
            refine ls_ex (some 31) (.pointer (some ⟨w.heap.size, 4, none⟩)) rfl rfl (exec_fieldAddr 33 _ 4 rfl _ (by kernel_rfl)) ?_
            go_frame
            refine ls_ex (some 32) (.slice (some ⟨b, off, none⟩) ts.length c) rfl rfl (exec_load_one 31 _ rfl w.heap.size 4 rfl (.slice (some ⟨b, off, none⟩) ts.length c) _ Try.underlying31 rfl (h0.at_ 4)) ?_
            go_frame
            refine ls_ex (some 33) (.int .i64 ts.length) rfl rfl (exec_len _ 31 52 rfl ((some ⟨b, off, none⟩)) ts.length c rfl Try.underlying31) ?_
            go_frame
            refine ls_ex (some 34) (.bool true) rfl rfl (exec_lss _ _ _ _ rfl i ts.length rfl rfl true (decide_eq_true (by omega))) ?_
            go_frame
            refine wpList_nil ?_
            go_upto_region 7 with (fail)
            refine wp_region_y (zs := []) (S := fun w' => Below w.heap.size w w' ∧ At w' w.heap.size (.cells #[.int .i64 p, .int .i64 n, .int .i64 m, .int .i64 k, .slice (some ⟨b, off, none⟩) ts.length c] 33 (0, 0))) (S2 := fun w' => True) (by kernel_rfl) ?_
            change wpAnyY _ _ _ _ _ _ _ _ _ _ (World.drew _)
            generalize hwdz45 : World.drew _ = wdz45
            replace hB : Below w.heap.size w wdz45 := by rw [← hwdz45]; exact hB.drew
            replace h0 : At wdz45 w.heap.size (.cells #[.int .i64 p, .int .i64 n, .int .i64 m, .int .i64 k, .slice (some ⟨b, off, none⟩) ts.length c] 33 (0, 0)) := by rw [← hwdz45]; exact h0
            clear hwdz45
            refine y_yield 0 (some 37) (.pointer (some ⟨w.heap.size, 0, none⟩)) rfl (by kernel_rfl) (by kernel_rfl) (by kernel_rfl) (fun _ _ _ h => h) rfl rfl ⟨hB, h0⟩ (fun w' h' => exec_fieldAddr 33 _ 0 rfl _ (by kernel_rfl)) ?_
            go_frame
            refine y_yield 1 (some 38) (.int .i64 p) rfl (by kernel_rfl) (by kernel_rfl) (by kernel_rfl) (fun _ _ _ h => h) rfl rfl ⟨hB, h0⟩ (fun w' h' => exec_load_one 2 _ rfl w.heap.size 0 rfl (.int .i64 p) _ Try.underlying2 rfl (h'.2.at_ 0)) ?_
            go_frame
            refine y_yield 2 (some 39) (.pointer (some ⟨w.heap.size, 4, none⟩)) rfl (by kernel_rfl) (by kernel_rfl) (by kernel_rfl) (fun _ _ _ h => h) rfl rfl ⟨hB, h0⟩ (fun w' h' => exec_fieldAddr 33 _ 4 rfl _ (by kernel_rfl)) ?_
            go_frame
            refine y_yield 3 (some 40) (.slice (some ⟨b, off, none⟩) ts.length c) rfl (by kernel_rfl) (by kernel_rfl) (by kernel_rfl) (fun _ _ _ h => h) rfl rfl ⟨hB, h0⟩ (fun w' h' => exec_load_one 31 _ rfl w.heap.size 4 rfl (.slice (some ⟨b, off, none⟩) ts.length c) _ Try.underlying31 rfl (h'.2.at_ 4)) ?_
            go_frame
            refine y_yield 4 (some 41) (.int .i64 i) rfl (by kernel_rfl) (by kernel_rfl) (by kernel_rfl) (fun _ _ _ h => h) rfl rfl ⟨hB, h0⟩ (fun w' h' => exec_move _ rfl (.int .i64 i) rfl) ?_
            go_frame
            refine y_yield 5 (some 42) (.pointer (some ⟨b, off + i * 108, none⟩)) rfl (by kernel_rfl) (by kernel_rfl) (by kernel_rfl) (fun _ _ _ h => h) rfl rfl ⟨hB, h0⟩ (fun w' h' => exec_index_slice _ 52 _ _ rfl b off ts.length c i 108 rfl rfl Try.underlying31 (by kernel_rfl) (by omega)) ?_
            go_frame
            refine y_yield 6 (some 43) (.pointer (some ⟨b, off + i * 108, none⟩)) rfl (by kernel_rfl) (by kernel_rfl) (by kernel_rfl) (fun _ _ _ h => h) rfl rfl ⟨hB, h0⟩ (fun w' h' => exec_fieldAddr 52 _ 0 rfl _ (by kernel_rfl)) ?_
            go_frame
            refine y_yield 7 (some 44) (.agg (u8s (segm ts[i] 0 36))) rfl (by kernel_rfl) (by kernel_rfl) (by kernel_rfl) (fun _ _ _ h => h) rfl rfl ⟨hB, h0⟩ (fun w' h' => exec_load_cells 50 _ rfl b (off + i * 108) rfl (segm ts[i] 0 36) _ 36 (RdT.seg0 (hR.keep h'.1) hlt) Try.underlying50 rfl (by kernel_rfl) (segm_bytes hb (by omega)).len) ?_
            go_frame
            refine y_yield 8 (some 45) (.int .i64 (n * m)) rfl (by kernel_rfl) (by kernel_rfl) (by kernel_rfl) (fun _ _ _ h => h) rfl rfl ⟨hB, h0⟩ (fun w' h' => exec_move _ rfl (.int .i64 (n * m)) rfl) ?_
            go_frame
            refine y_oper 9 (by kernel_rfl) rfl rfl (fun K' hK' => ?_)
            have lz48 := hB.size
            have lz49 := h0.lt
            refine wp_call3 (some 46) rfl 49 _ _ _ _ rfl (fun args w => by kernel_rfl) _ _ _ rfl rfl rfl _ (l08Series_c p (segm ts[i] 0 36) ((n * m)) (segm_bytes hb (by omega)) _) (fun e Wz46 h => ?_)
            obtain ⟨rfl, bz47⟩ := h
            replace hB := below_after hB bz47
            replace h0 := h0.after bz47
            rw [HSa.out]
            clear bz47
            refine ⟨_, rfl, ?_⟩
            refine hK' _ _ ⟨hB, h0⟩ (fun _ => trivial) ?_
            clear hK' K'
            go_frame
            refine y_yield 10 (some 47) (.bool false) rfl (by kernel_rfl) (by kernel_rfl) (by kernel_rfl) (fun _ _ _ h => h) rfl rfl ⟨hB, h0⟩ (fun w' h' => exec_not _ _ rfl true rfl) ?_
            go_frame
            refine y_yield 11 (some 48) (.bool false) rfl (by kernel_rfl) (by kernel_rfl) (by kernel_rfl) (fun _ _ _ h => h) rfl rfl ⟨hB, h0⟩ (fun w' h' => exec_move _ rfl (.bool false) rfl) ?_
            go_frame
            refine y_yield 12 (some 49) (.pointer (some ⟨w.heap.size, 0, none⟩)) rfl (by kernel_rfl) (by kernel_rfl) (by kernel_rfl) (fun _ _ _ h => h) rfl rfl ⟨hB, h0⟩ (fun w' h' => exec_fieldAddr 33 _ 0 rfl _ (by kernel_rfl)) ?_
            go_frame
            refine y_yield 13 (some 50) (.int .i64 p) rfl (by kernel_rfl) (by kernel_rfl) (by kernel_rfl) (fun _ _ _ h => h) rfl rfl ⟨hB, h0⟩ (fun w' h' => exec_load_one 2 _ rfl w.heap.size 0 rfl (.int .i64 p) _ Try.underlying2 rfl (h'.2.at_ 0)) ?_
            go_frame
            refine y_yield 14 (some 51) (.pointer (some ⟨w.heap.size, 4, none⟩)) rfl (by kernel_rfl) (by kernel_rfl) (by kernel_rfl) (fun _ _ _ h => h) rfl rfl ⟨hB, h0⟩ (fun w' h' => exec_fieldAddr 33 _ 4 rfl _ (by kernel_rfl)) ?_
            go_frame
            refine y_yield 15 (some 52) (.slice (some ⟨b, off, none⟩) ts.length c) rfl (by kernel_rfl) (by kernel_rfl) (by kernel_rfl) (fun _ _ _ h => h) rfl rfl ⟨hB, h0⟩ (fun w' h' => exec_load_one 31 _ rfl w.heap.size 4 rfl (.slice (some ⟨b, off, none⟩) ts.length c) _ Try.underlying31 rfl (h'.2.at_ 4)) ?_
            go_frame
            refine y_yield 16 (some 53) (.int .i64 i) rfl (by kernel_rfl) (by kernel_rfl) (by kernel_rfl) (fun _ _ _ h => h) rfl rfl ⟨hB, h0⟩ (fun w' h' => exec_move _ rfl (.int .i64 i) rfl) ?_
            go_frame
            refine y_yield 17 (some 54) (.pointer (some ⟨b, off + i * 108, none⟩)) rfl (by kernel_rfl) (by kernel_rfl) (by kernel_rfl) (fun _ _ _ h => h) rfl rfl ⟨hB, h0⟩ (fun w' h' => exec_index_slice _ 52 _ _ rfl b off ts.length c i 108 rfl rfl Try.underlying31 (by kernel_rfl) (by omega)) ?_
            go_frame
            refine y_yield 18 (some 55) (.pointer (some ⟨b, off + i * 108 + 36, none⟩)) rfl (by kernel_rfl) (by kernel_rfl) (by kernel_rfl) (fun _ _ _ h => h) rfl rfl ⟨hB, h0⟩ (fun w' h' => exec_fieldAddr 52 _ 1 rfl _ (by kernel_rfl)) ?_
            go_frame
            refine y_yield 19 (some 56) (.agg (u8s (segm ts[i] 36 36))) rfl (by kernel_rfl) (by kernel_rfl) (by kernel_rfl) (fun _ _ _ h => h) rfl rfl ⟨hB, h0⟩ (fun w' h' => exec_load_cells 50 _ rfl b (off + i * 108 + 36) rfl (segm ts[i] 36 36) _ 36 (RdT.seg (hR.keep h'.1) hlt 36 (by omega)) Try.underlying50 rfl (by kernel_rfl) (segm_bytes hb (by omega)).len) ?_
            go_frame
            refine y_yield 20 (some 57) (.int .i64 (m * k)) rfl (by kernel_rfl) (by kernel_rfl) (by kernel_rfl) (fun _ _ _ h => h) rfl rfl ⟨hB, h0⟩ (fun w' h' => exec_move _ rfl (.int .i64 (m * k)) rfl) ?_
            go_frame
            refine y_oper 21 (by kernel_rfl) rfl rfl (fun K' hK' => ?_)
            have lz52 := hB.size
            have lz53 := h0.lt
            refine wp_call3 (some 58) rfl 49 _ _ _ _ rfl (fun args w => by kernel_rfl) _ _ _ rfl rfl rfl _ (l08Series_c p (segm ts[i] 36 36) ((m * k)) (segm_bytes hb (by omega)) _) (fun e Wz50 h => ?_)
            obtain ⟨rfl, bz51⟩ := h
            replace hB := below_after hB bz51
            replace h0 := h0.after bz51
            rw [HSb.out]
            clear bz51
            refine ⟨_, rfl, ?_⟩
            refine hK' _ _ ⟨hB, h0⟩ (fun _ => trivial) ?_
            clear hK' K'
            go_frame
            refine y_yield 22 (some 59) (.bool false) rfl (by kernel_rfl) (by kernel_rfl) (by kernel_rfl) (fun _ _ _ h => h) rfl rfl ⟨hB, h0⟩ (fun w' h' => exec_not _ _ rfl true rfl) ?_
            go_frame
            refine y_yield 23 (some 60) (.bool false) rfl (by kernel_rfl) (by kernel_rfl) (by kernel_rfl) (fun _ _ _ h => h) rfl rfl ⟨hB, h0⟩ (fun w' h' => exec_pick _ _ _ rfl false rfl (.bool false) rfl) ?_
            go_frame
            refine y_yield 24 (some 61) (.bool false) rfl (by kernel_rfl) (by kernel_rfl) (by kernel_rfl) (fun _ _ _ h => h) rfl rfl ⟨hB, h0⟩ (fun w' h' => exec_move _ rfl (.bool false) rfl) ?_
            go_frame
            refine y_yield 25 (some 62) (.pointer (some ⟨w.heap.size, 0, none⟩)) rfl (by kernel_rfl) (by kernel_rfl) (by kernel_rfl) (fun _ _ _ h => h) rfl rfl ⟨hB, h0⟩ (fun w' h' => exec_fieldAddr 33 _ 0 rfl _ (by kernel_rfl)) ?_
            go_frame
            refine y_yield 26 (some 63) (.int .i64 p) rfl (by kernel_rfl) (by kernel_rfl) (by kernel_rfl) (fun _ _ _ h => h) rfl rfl ⟨hB, h0⟩ (fun w' h' => exec_load_one 2 _ rfl w.heap.size 0 rfl (.int .i64 p) _ Try.underlying2 rfl (h'.2.at_ 0)) ?_
            go_frame
            refine y_yield 27 (some 64) (.pointer (some ⟨w.heap.size, 4, none⟩)) rfl (by kernel_rfl) (by kernel_rfl) (by kernel_rfl) (fun _ _ _ h => h) rfl rfl ⟨hB, h0⟩ (fun w' h' => exec_fieldAddr 33 _ 4 rfl _ (by kernel_rfl)) ?_
            go_frame
            refine y_yield 28 (some 65) (.slice (some ⟨b, off, none⟩) ts.length c) rfl (by kernel_rfl) (by kernel_rfl) (by kernel_rfl) (fun _ _ _ h => h) rfl rfl ⟨hB, h0⟩ (fun w' h' => exec_load_one 31 _ rfl w.heap.size 4 rfl (.slice (some ⟨b, off, none⟩) ts.length c) _ Try.underlying31 rfl (h'.2.at_ 4)) ?_
            go_frame
            refine y_yield 29 (some 66) (.int .i64 i) rfl (by kernel_rfl) (by kernel_rfl) (by kernel_rfl) (fun _ _ _ h => h) rfl rfl ⟨hB, h0⟩ (fun w' h' => exec_move _ rfl (.int .i64 i) rfl) ?_
            go_frame
            refine y_yield 30 (some 67) (.pointer (some ⟨b, off + i * 108, none⟩)) rfl (by kernel_rfl) (by kernel_rfl) (by kernel_rfl) (fun _ _ _ h => h) rfl rfl ⟨hB, h0⟩ (fun w' h' => exec_index_slice _ 52 _ _ rfl b off ts.length c i 108 rfl rfl Try.underlying31 (by kernel_rfl) (by omega)) ?_
            go_frame
            refine y_yield 31 (some 68) (.pointer (some ⟨b, off + i * 108 + 72, none⟩)) rfl (by kernel_rfl) (by kernel_rfl) (by kernel_rfl) (fun _ _ _ h => h) rfl rfl ⟨hB, h0⟩ (fun w' h' => exec_fieldAddr 52 _ 2 rfl _ (by kernel_rfl)) ?_
            go_frame
            refine y_yield 32 (some 69) (.agg (u8s (segm ts[i] 72 36))) rfl (by kernel_rfl) (by kernel_rfl) (by kernel_rfl) (fun _ _ _ h => h) rfl rfl ⟨hB, h0⟩ (fun w' h' => exec_load_cells 50 _ rfl b (off + i * 108 + 72) rfl (segm ts[i] 72 36) _ 36 (RdT.seg (hR.keep h'.1) hlt 72 (by omega)) Try.underlying50 rfl (by kernel_rfl) (segm_bytes hb (by omega)).len) ?_
            go_frame
            refine y_yield 33 (some 70) (.int .i64 (n * k)) rfl (by kernel_rfl) (by kernel_rfl) (by kernel_rfl) (fun _ _ _ h => h) rfl rfl ⟨hB, h0⟩ (fun w' h' => exec_move _ rfl (.int .i64 (n * k)) rfl) ?_
            go_frame
            refine y_oper 34 (by kernel_rfl) rfl rfl (fun K' hK' => ?_)
            have lz56 := hB.size
            have lz57 := h0.lt
            refine wp_call3 (some 71) rfl 49 _ _ _ _ rfl (fun args w => by kernel_rfl) _ _ _ rfl rfl rfl _ (l08Series_c p (segm ts[i] 72 36) ((n * k)) (segm_bytes hb (by omega)) _) (fun e Wz54 h => ?_)
            obtain ⟨rfl, bz55⟩ := h
            replace hB := below_after hB bz55
            replace h0 := h0.after bz55
            rw [HSc.out]
            clear bz55
            refine ⟨_, rfl, ?_⟩
            refine hK' _ _ ⟨hB, h0⟩ (fun _ => trivial) ?_
            clear hK' K'
            go_frame
            refine y_yield 35 (some 72) (.bool false) rfl (by kernel_rfl) (by kernel_rfl) (by kernel_rfl) (fun _ _ _ h => h) rfl rfl ⟨hB, h0⟩ (fun w' h' => exec_not _ _ rfl true rfl) ?_
            go_frame
            refine y_yield 36 (some 73) (.bool false) rfl (by kernel_rfl) (by kernel_rfl) (by kernel_rfl) (fun _ _ _ h => h) rfl rfl ⟨hB, h0⟩ (fun w' h' => exec_pick _ _ _ rfl false rfl (.bool false) rfl) ?_
            go_frame
            refine y_done (by kernel_rfl) ?_ _
            go_upto_region 6 with (fail)
            refine wp_region_lit ?_
            refine ls_ex (some 35) (.int .i64 i) rfl rfl (exec_move _ rfl (.int .i64 i) rfl) ?_
            go_frame
            refine ls_ex (some 36) (.int .i64 (i + 1)) rfl rfl (exec_add _ _ _ _ rfl i 1 (i + 1) rfl rfl (IntWalk.i64_in _ (by omega))) ?_
            go_frame
            refine ls_ex (some 6) (.int .i64 (i + 1)) rfl rfl (exec_assign _ rfl (.int .i64 (i + 1)) rfl) ?_
            go_frame
            refine wpList_nil ?_
            go_wp2_with fail
            go_roundw
            case rel => exact ⟨i + 1, by omega, by go_num, HY, hB, h0⟩
            case measure => simp [intOf]; omega
    · have HYes : Hid (borderB p n m k ts = true) := Lib.hid (borderB_yes HP.out (by omega) (by rw [← show i = ts.length by omega]; exact HG.out))
      clear HG
      go_upto_region 5 with (fail)
      refine wp_region_lit ?_
      refine ls_ex (some 30) (.int .i64 i) rfl rfl (exec_move _ rfl (.int .i64 i) rfl) ?_
      go_frame
      refine ls_ex (some 31) (.pointer (some ⟨w.heap.size, 4, none⟩)) rfl rfl (exec_fieldAddr 33 _ 4 rfl _ (by kernel_rfl)) ?_
      go_frame
      refine ls_ex (some 32) (.slice A ts.length c) rfl rfl (exec_load_one 31 _ rfl w.heap.size 4 rfl (.slice A ts.length c) _ Try.underlying31 rfl (h0.at_ 4)) ?_
      go_frame
      refine ls_ex (some 33) (.int .i64 ts.length) rfl rfl (exec_len _ 31 52 rfl A ts.length c rfl Try.underlying31) ?_
      go_frame
      refine ls_ex (some 34) (.bool false) rfl rfl (exec_lss _ _ _ _ rfl i ts.length rfl rfl false (decide_eq_false (by omega))) ?_
      go_frame
      refine wpList_nil ?_
      go_upto_region 9 with (fail)
      refine wp_region_lit ?_
      refine ls_ex (some 2) (.bool true) rfl rfl (exec_assign _ rfl (.bool true) rfl) ?_
      go_frame
      refine wpList_nil ?_
      go_wp2_with fail
      go_ret
      exact ⟨by rw [HYes.out]; rfl, hB⟩
theorem l08Is_c (p n m k : Int) (A : Option Addr) (c : Nat) (ts : List (List Nat)) (w : World) (hR : RdT w A ts) (hlen : ts.length ≤ 1048576) : Calls Try.prog 23 #[.agg #[.int .i64 p, .int .i64 n, .int .i64 m, .int .i64 k, .slice A ts.length c]] w (fun e w' => e = .returned (.bool (borderB p n m k ts)) ∧ Below w.heap.size w w') := by
  cases hs : sizesB p n m k with
  | false => exact l08Is_a p n m k A c ts w hR hlen hs
  | true =>
    by_cases hl : ts.length ≤ 30
    · exact l08Is_f p n m k A c ts w hR hlen hs hl
    · exact l08Is_b p n m k A c ts w hR hlen hs (by omega)
end Go.Proofs.Ytnlidegmllcdhaa
