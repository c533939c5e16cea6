/-
  RunProgram of both sides. (Made by mkpg9.py.)
-/
import Derived.Test.YtoaibfbamecdlaaPg8
namespace Go.Proofs.Ytoaibfbamecdlaa
open Go.RowKit
set_option maxRecDepth 100000
attribute [local irreducible] wpList
def rpCode (p n : Int) (ss os : List (List Int)) (xs : List Int) : Int := if progB p n ss os = true then (if (numsB p xs && ((xs.length : Int) == n)) = true then 0 else 2) else 1
def rpL (p n : Int) (ss os : List (List Int)) (xs : List Int) : List Int := if rpCode p n ss os xs = 0 then runL p ss os xs else []
set_option maxHeartbeats 4000000 in
theorem specRun_a (p n : Int) (As Ao : Option Addr) (cs co : Nat) (ss os : List (List Int)) (Ax : Option Addr) (cx : Nat) (xs : List Int) (w : World) (hs : RdK 3 w As ss) (ho : RdK 2 w Ao os) (hns : ss.length ≤ 1048576) (hno : os.length ≤ 1048576) (hx : RdI w Ax xs) (hnx : xs.length ≤ 1048576) (hpr : progB p n ss os = false) :
    Calls Try.prog 6 #[.agg #[.int .i64 p, .int .i64 n, .slice As ss.length cs, .slice Ao os.length co], .slice Ax xs.length cx] w (ResI w (rpL p n ss os xs) (rpCode p n ss os xs)) := by
  have hB := Below.refl w.heap.size w
  have _u0 := hx
  have _u1 := hnx
  clear _u0 _u1
  have Hc : Hid (rpCode p n ss os xs = 1) := Lib.hid (by unfold rpCode; rw [hpr]; rfl)
  have Hr : Hid (rpL p n ss os xs = []) := Lib.hid (by unfold rpL; rw [Hc.out]; rfl)
  have HP := Lib.hid hpr
  clear hpr
  go_enter Try.func6, Try.ntmps6
  go_upto_region 0 with (fail)
  refine wp_region_lit ?_
  refine ls_op rfl (fun K' hK' => ?_)
  have lz1 := hB.size
  refine wp_new (some 2) rfl (exec_box 33 _ rfl (#[.int .i64 p, .int .i64 n, .slice As ss.length cs, .slice Ao os.length co]) rfl) (fun Wz2 nnz3 => ?_)
  have bz4 := nnz3.below (Below.refl _ _) (Nat.le_refl _)
  replace hB := below_after hB bz4
  have hz5 : At Wz2 w.heap.size (.cells #[.int .i64 p, .int .i64 n, .slice As ss.length cs, .slice Ao os.length co] 33 (0, 0)) := nnz3.at_
  refine hK' _ _ ?_
  clear hK' K' nnz3 bz4
  go_frame
  refine ls_ex (some 4) (.slice none 0 0) rfl rfl (exec_assign _ rfl (.slice none 0 0) rfl) ?_
  go_frame
  refine ls_ex (some 5) (.int .i64 0) rfl rfl (exec_assign _ rfl (.int .i64 0) rfl) ?_
  go_frame
  refine wpList_nil ?_
  go_upto_region 1 with (fail)
  refine wp_region_lit ?_
  refine ls_ex (some 7) (.agg #[.int .i64 p, .int .i64 n, .slice As ss.length cs, .slice Ao os.length co]) rfl rfl (exec_load_all 33 _ rfl w.heap.size rfl _ _ _ hz5 Try.underlying33 rfl 4 (by kernel_rfl) rfl) ?_
  go_frame
  refine ls_op rfl (fun K' hK' => ?_)
  have lz8 := hB.size
  have lz9 := hz5.lt
  refine wp_call1 (some 8) rfl 24 _ _ rfl (fun args w => by kernel_rfl) _ rfl _ (l07Is_c p n As Ao cs co ss os _ (hs.keep hB) (ho.keep hB) hns hno) (fun e Wz6 h => ?_)
  obtain ⟨rfl, bz7⟩ := h
  replace hB := below_after hB bz7
  replace hz5 := hz5.after bz7
  rw [HP.out]
  clear bz7
  refine ⟨_, rfl, ?_⟩
  refine hK' _ _ ?_
  clear hK' K'
  go_frame
  refine ls_ex (some 9) (.bool true) rfl rfl (exec_not _ _ rfl false rfl) ?_
  go_frame
  refine ls_ex (some 6) (.bool true) rfl rfl (exec_assign _ rfl (.bool true) rfl) ?_
  go_frame
  refine wpList_nil ?_
  go_upto_region 2 with (fail)
  refine wp_region_lit ?_
  refine ls_ex (some 4) (.slice none 0 0) rfl rfl (exec_assign _ rfl (.slice none 0 0) rfl) ?_
  go_frame
  refine ls_ex (some 5) (.int .i64 1) rfl rfl (exec_assign _ rfl (.int .i64 1) rfl) ?_
  go_frame
  refine wpList_nil ?_
  go_wp2_with fail
  go_ret2
  exact ⟨_, by rw [Hc.out]; rfl, by rw [Hr.out]; exact OwnI.nil _ _, hB⟩
set_option maxHeartbeats 4000000 in
theorem specRun_b (p n : Int) (As Ao : Option Addr) (cs co : Nat) (ss os : List (List Int)) (Ax : Option Addr) (cx : Nat) (xs : List Int) (w : World) (hs : RdK 3 w As ss) (ho : RdK 2 w Ao os) (hns : ss.length ≤ 1048576) (hno : os.length ≤ 1048576) (hx : RdI w Ax xs) (hnx : xs.length ≤ 1048576) (hpr : progB p n ss os = true) (hq : (numsB p xs && ((xs.length : Int) == n)) = false) :
    Calls Try.prog 6 #[.agg #[.int .i64 p, .int .i64 n, .slice As ss.length cs, .slice Ao os.length co], .slice Ax xs.length cx] w (ResI w (rpL p n ss os xs) (rpCode p n ss os xs)) := by
  have hB := Below.refl w.heap.size w
  have Hc : Hid (rpCode p n ss os xs = 2) := Lib.hid (by unfold rpCode; rw [if_pos hpr, hq]; rfl)
  have Hr : Hid (rpL p n ss os xs = []) := Lib.hid (by unfold rpL; rw [Hc.out]; rfl)
  have hp5 := primeB_bounds (progB_parts hpr).1
  have HP := Lib.hid hpr
  have HQ := Lib.hid hq
  clear hpr hq
  go_enter Try.func6, Try.ntmps6
  go_upto_region 0 with (fail)
  refine wp_region_lit ?_
  refine ls_op rfl (fun K' hK' => ?_)
  have lz1 := hB.size
  refine wp_new (some 2) rfl (exec_box 33 _ rfl (#[.int .i64 p, .int .i64 n, .slice As ss.length cs, .slice Ao os.length co]) rfl) (fun Wz2 nnz3 => ?_)
  have bz4 := nnz3.below (Below.refl _ _) (Nat.le_refl _)
  replace hB := below_after hB bz4
  have hz5 : At Wz2 w.heap.size (.cells #[.int .i64 p, .int .i64 n, .slice As ss.length cs, .slice Ao os.length co] 33 (0, 0)) := nnz3.at_
  refine hK' _ _ ?_
  clear hK' K' nnz3 bz4
  go_frame
  refine ls_ex (some 4) (.slice none 0 0) rfl rfl (exec_assign _ rfl (.slice none 0 0) rfl) ?_
  go_frame
  refine ls_ex (some 5) (.int .i64 0) rfl rfl (exec_assign _ rfl (.int .i64 0) rfl) ?_
  go_frame
  refine wpList_nil ?_
  go_upto_region 1 with (fail)
  refine wp_region_lit ?_
  refine ls_ex (some 7) (.agg #[.int .i64 p, .int .i64 n, .slice As ss.length cs, .slice Ao os.length co]) rfl rfl (exec_load_all 33 _ rfl w.heap.size rfl _ _ _ hz5 Try.underlying33 rfl 4 (by kernel_rfl) rfl) ?_
  go_frame
  refine ls_op rfl (fun K' hK' => ?_)
  have lz8 := hB.size
  have lz9 := hz5.lt
  refine wp_call1 (some 8) rfl 24 _ _ rfl (fun args w => by kernel_rfl) _ rfl _ (l07Is_c p n As Ao cs co ss os _ (hs.keep hB) (ho.keep hB) hns hno) (fun e Wz6 h => ?_)
  obtain ⟨rfl, bz7⟩ := h
  replace hB := below_after hB bz7
  replace hz5 := hz5.after bz7
  rw [HP.out]
  clear bz7
  refine ⟨_, rfl, ?_⟩
  refine hK' _ _ ?_
  clear hK' K'
  go_frame
  refine ls_ex (some 9) (.bool false) rfl rfl (exec_not _ _ rfl true rfl) ?_
  go_frame
  refine ls_ex (some 6) (.bool false) rfl rfl (exec_assign _ rfl (.bool false) rfl) ?_
  go_frame
  refine wpList_nil ?_
  go_upto_region 3 with (fail)
  refine wp_region_lit ?_
  refine ls_ex (some 11) (.pointer (some ⟨w.heap.size, 0, none⟩)) rfl rfl (exec_fieldAddr 33 _ 0 rfl _ (by kernel_rfl)) ?_
  go_frame
  refine ls_ex (some 12) (.int .i64 p) rfl rfl (exec_load_one 2 _ rfl w.heap.size 0 rfl (.int .i64 p) _ Try.underlying2 rfl (hz5.at_ 0)) ?_
  go_frame
  refine ls_ex (some 13) (.slice Ax xs.length cx) rfl rfl (exec_move _ rfl (.slice Ax xs.length cx) rfl) ?_
  go_frame
  refine ls_ex (some 14) (.pointer (some ⟨w.heap.size, 1, none⟩)) rfl rfl (exec_fieldAddr 33 _ 1 rfl _ (by kernel_rfl)) ?_
  go_frame
  refine ls_ex (some 15) (.int .i64 n) rfl rfl (exec_load_one 2 _ rfl w.heap.size 1 rfl (.int .i64 n) _ Try.underlying2 rfl (hz5.at_ 1)) ?_
  go_frame
  refine ls_op rfl (fun K' hK' => ?_)
  have lz12 := hB.size
  have lz13 := hz5.lt
  refine wp_call3 (some 16) rfl 25 _ _ _ _ rfl (fun args w => by kernel_rfl) _ _ _ rfl rfl rfl _ (l05Numbers_c p n Ax cx xs _ (by omega) (hx.keep hB) hnx) (fun e Wz10 h => ?_)
  obtain ⟨rfl, bz11⟩ := h
  replace hB := below_after hB bz11
  replace hz5 := hz5.after bz11
  rw [HQ.out]
  clear bz11
  refine ⟨_, rfl, ?_⟩
  refine hK' _ _ ?_
  clear hK' K'
  go_frame
  refine ls_ex (some 17) (.bool true) rfl rfl (exec_not _ _ rfl false rfl) ?_
  go_frame
  refine ls_ex (some 10) (.bool true) rfl rfl (exec_assign _ rfl (.bool true) rfl) ?_
  go_frame
  refine wpList_nil ?_
  go_upto_region 4 with (fail)
  refine wp_region_lit ?_
  refine ls_ex (some 4) (.slice none 0 0) rfl rfl (exec_assign _ rfl (.slice none 0 0) rfl) ?_
  go_frame
  refine ls_ex (some 5) (.int .i64 2) rfl rfl (exec_assign _ rfl (.int .i64 2) rfl) ?_
  go_frame
  refine wpList_nil ?_
  go_wp2_with fail
  go_ret2
  exact ⟨_, by rw [Hc.out]; rfl, by rw [Hr.out]; exact OwnI.nil _ _, hB⟩
set_option maxHeartbeats 4000000 in
theorem specRun_c (p : Int) (N : Nat) (As Ao : Option Addr) (cs co : Nat) (ss os : List (List Int)) (Ax : Option Addr) (cx : Nat) (xs : List Int) (w : World) (hs : RdK 3 w As ss) (ho : RdK 2 w Ao os) (hns : ss.length ≤ 1048576) (hno : os.length ≤ 1048576) (hx : RdI w Ax xs) (hnx : xs.length ≤ 1048576) (hpr : progB p (N : Int) ss os = true) (hq : (numsB p xs && ((xs.length : Int) == (N : Int))) = true) :
    Calls Try.prog 6 #[.agg #[.int .i64 p, .int .i64 (N : Int), .slice As ss.length cs, .slice Ao os.length co], .slice Ax xs.length cx] w (ResI w (rpL p (N : Int) ss os xs) (rpCode p (N : Int) ss os xs)) := by
  have hB := Below.refl w.heap.size w
  have Hc : Hid (rpCode p (N : Int) ss os xs = 0) := Lib.hid (by unfold rpCode; rw [if_pos hpr, if_pos hq])
  have Hr : Hid (rpL p (N : Int) ss os xs = runL p ss os xs) := Lib.hid (by unfold rpL; rw [Hc.out]; rfl)
  have hq2 := hq
  simp only [Bool.and_eq_true, beq_iff_eq] at hq2
  have hp5 := primeB_bounds (progB_parts hpr).1
  have hN9 := (progB_parts hpr).2.1
  have HX := Lib.hid (NumsP.of_numsB hq2.1 (by omega))
  have HL : Hid ((xs.length : Int) = (N : Int)) := Lib.hid hq2.2
  have HP := Lib.hid hpr
  have HQ := Lib.hid hq
  clear hpr hq hq2
  go_enter Try.func6, Try.ntmps6
  go_upto_region 0 with (fail)
  refine wp_region_lit ?_
  refine ls_op rfl (fun K' hK' => ?_)
  have lz1 := hB.size
  refine wp_new (some 2) rfl (exec_box 33 _ rfl (#[.int .i64 p, .int .i64 (N : Int), .slice As ss.length cs, .slice Ao os.length co]) rfl) (fun Wz2 nnz3 => ?_)
  have bz4 := nnz3.below (Below.refl _ _) (Nat.le_refl _)
  replace hB := below_after hB bz4
  have hz5 : At Wz2 w.heap.size (.cells #[.int .i64 p, .int .i64 (N : Int), .slice As ss.length cs, .slice Ao os.length co] 33 (0, 0)) := nnz3.at_
  refine hK' _ _ ?_
  clear hK' K' nnz3 bz4
  go_frame
  refine ls_ex (some 4) (.slice none 0 0) rfl rfl (exec_assign _ rfl (.slice none 0 0) rfl) ?_
  go_frame
  refine ls_ex (some 5) (.int .i64 0) rfl rfl (exec_assign _ rfl (.int .i64 0) rfl) ?_
  go_frame
  refine wpList_nil ?_
  go_upto_region 1 with (fail)
  refine wp_region_lit ?_
  refine ls_ex (some 7) (.agg #[.int .i64 p, .int .i64 (N : Int), .slice As ss.length cs, .slice Ao os.length co]) rfl rfl (exec_load_all 33 _ rfl w.heap.size rfl _ _ _ hz5 Try.underlying33 rfl 4 (by kernel_rfl) rfl) ?_
  go_frame
  refine ls_op rfl (fun K' hK' => ?_)
  have lz8 := hB.size
  have lz9 := hz5.lt
  refine wp_call1 (some 8) rfl 24 _ _ rfl (fun args w => by kernel_rfl) _ rfl _ (l07Is_c p (N : Int) As Ao cs co ss os _ (hs.keep hB) (ho.keep hB) hns hno) (fun e Wz6 h => ?_)
  obtain ⟨rfl, bz7⟩ := h
  replace hB := below_after hB bz7
  replace hz5 := hz5.after bz7
  rw [HP.out]
  clear bz7
  refine ⟨_, rfl, ?_⟩
  refine hK' _ _ ?_
  clear hK' K'
  go_frame
  refine ls_ex (some 9) (.bool false) rfl rfl (exec_not _ _ rfl true rfl) ?_
  go_frame
  refine ls_ex (some 6) (.bool false) rfl rfl (exec_assign _ rfl (.bool false) rfl) ?_
  go_frame
  refine wpList_nil ?_
  go_upto_region 3 with (fail)
  refine wp_region_lit ?_
  refine ls_ex (some 11) (.pointer (some ⟨w.heap.size, 0, none⟩)) rfl rfl (exec_fieldAddr 33 _ 0 rfl _ (by kernel_rfl)) ?_
  go_frame
  refine ls_ex (some 12) (.int .i64 p) rfl rfl (exec_load_one 2 _ rfl w.heap.size 0 rfl (.int .i64 p) _ Try.underlying2 rfl (hz5.at_ 0)) ?_
  go_frame
  refine ls_ex (some 13) (.slice Ax xs.length cx) rfl rfl (exec_move _ rfl (.slice Ax xs.length cx) rfl) ?_
  go_frame
  refine ls_ex (some 14) (.pointer (some ⟨w.heap.size, 1, none⟩)) rfl rfl (exec_fieldAddr 33 _ 1 rfl _ (by kernel_rfl)) ?_
  go_frame
  refine ls_ex (some 15) (.int .i64 (N : Int)) rfl rfl (exec_load_one 2 _ rfl w.heap.size 1 rfl (.int .i64 (N : Int)) _ Try.underlying2 rfl (hz5.at_ 1)) ?_
  go_frame
  refine ls_op rfl (fun K' hK' => ?_)
  have lz12 := hB.size
  have lz13 := hz5.lt
  refine wp_call3 (some 16) rfl 25 _ _ _ _ rfl (fun args w => by kernel_rfl) _ _ _ rfl rfl rfl _ (l05Numbers_c p (N : Int) Ax cx xs _ (by omega) (hx.keep hB) hnx) (fun e Wz10 h => ?_)
  obtain ⟨rfl, bz11⟩ := h
  replace hB := below_after hB bz11
  replace hz5 := hz5.after bz11
  rw [HQ.out]
  clear bz11
  refine ⟨_, rfl, ?_⟩
  refine hK' _ _ ?_
  clear hK' K'
  go_frame
  refine ls_ex (some 17) (.bool false) rfl rfl (exec_not _ _ rfl true rfl) ?_
  go_frame
  refine ls_ex (some 10) (.bool false) rfl rfl (exec_assign _ rfl (.bool false) rfl) ?_
  go_frame
  refine wpList_nil ?_
  go_upto_region 5 with (fail)
  refine wp_region_lit ?_
  refine ls_ex (some 18) (.agg #[.int .i64 p, .int .i64 (N : Int), .slice As ss.length cs, .slice Ao os.length co]) rfl rfl (exec_load_all 33 _ rfl w.heap.size rfl _ _ _ hz5 Try.underlying33 rfl 4 (by kernel_rfl) rfl) ?_
  go_frame
  refine ls_ex (some 19) (.slice Ax xs.length cx) rfl rfl (exec_move _ rfl (.slice Ax xs.length cx) rfl) ?_
  go_frame
  refine ls_op rfl (fun K' hK' => ?_)
  have lz16 := hB.size
  have lz17 := hz5.lt
  refine wp_call2 (some 20) rfl 26 _ _ _ rfl (fun args w => by kernel_rfl) _ _ rfl rfl _ (l07Run_c p (N : Int) As Ao cs co ss os _ (hs.keep hB) (ho.keep hB) Ax cx xs (hx.keep hB) hnx HP.out HL.out HX.out) (fun e Wz14 h => ?_)
  obtain ⟨v, rfl, hv, bz15⟩ := h
  replace hB := below_after hB bz15
  replace hz5 := hz5.after bz15
  clear bz15
  refine ⟨_, rfl, ?_⟩
  refine hK' _ _ ?_
  clear hK' K'
  go_frame
  refine ls_ex (some 4) (v) rfl rfl (exec_assign _ rfl (v) rfl) ?_
  go_frame
  refine ls_ex (some 5) (.int .i64 0) rfl rfl (exec_assign _ rfl (.int .i64 0) rfl) ?_
  go_frame
  refine wpList_nil ?_
  go_wp2_with fail
  go_ret2
  exact ⟨_, by rw [Hc.out]; rfl, by rw [Hr.out]; exact hv.mono (by omega), hB⟩
set_option maxHeartbeats 4000000 in
theorem implRun_a (p n : Int) (As Ao : Option Addr) (cs co : Nat) (ss os : List (List Int)) (Ax : Option Addr) (cx : Nat) (xs : List Int) (w : World) (hs : RdK 3 w As ss) (ho : RdK 2 w Ao os) (hns : ss.length ≤ 1048576) (hno : os.length ≤ 1048576) (hx : RdI w Ax xs) (hnx : xs.length ≤ 1048576) (hpr : progB p n ss os = false) :
    Calls Try.prog 9 #[.agg #[.int .i64 p, .int .i64 n, .slice As ss.length cs, .slice Ao os.length co], .slice Ax xs.length cx] w (ResI w (rpL p n ss os xs) (rpCode p n ss os xs)) := by
  have hB := Below.refl w.heap.size w
  have _u0 := hx
  have _u1 := hnx
  clear _u0 _u1
  have Hc : Hid (rpCode p n ss os xs = 1) := Lib.hid (by unfold rpCode; rw [hpr]; rfl)
  have Hr : Hid (rpL p n ss os xs = []) := Lib.hid (by unfold rpL; rw [Hc.out]; rfl)
  have HP := Lib.hid hpr
  clear hpr
  go_enter Try.func9, Try.ntmps9
  go_upto_region 0 with (fail)
  refine wp_region_lit ?_
  refine ls_op rfl (fun K' hK' => ?_)
  have lz1 := hB.size
  refine wp_new (some 2) rfl (exec_box 33 _ rfl (#[.int .i64 p, .int .i64 n, .slice As ss.length cs, .slice Ao os.length co]) rfl) (fun Wz2 nnz3 => ?_)
  have bz4 := nnz3.below (Below.refl _ _) (Nat.le_refl _)
  replace hB := below_after hB bz4
  have hz5 : At Wz2 w.heap.size (.cells #[.int .i64 p, .int .i64 n, .slice As ss.length cs, .slice Ao os.length co] 33 (0, 0)) := nnz3.at_
  refine hK' _ _ ?_
  clear hK' K' nnz3 bz4
  go_frame
  refine ls_ex (some 4) (.slice none 0 0) rfl rfl (exec_assign _ rfl (.slice none 0 0) rfl) ?_
  go_frame
  refine ls_ex (some 5) (.int .i64 0) rfl rfl (exec_assign _ rfl (.int .i64 0) rfl) ?_
  go_frame
  refine wpList_nil ?_
  go_upto_region 1 with (fail)
  refine wp_region_lit ?_
  refine ls_ex (some 6) (.agg #[.int .i64 p, .int .i64 n, .slice As ss.length cs, .slice Ao os.length co]) rfl rfl (exec_load_all 33 _ rfl w.heap.size rfl _ _ _ hz5 Try.underlying33 rfl 4 (by kernel_rfl) rfl) ?_
  go_frame
  refine ls_op rfl (fun K' hK' => ?_)
  have lz8 := hB.size
  have lz9 := hz5.lt
  refine wp_call1 (some 7) rfl 29 _ _ rfl (fun args w => by kernel_rfl) _ rfl _ (implIsProgram_c p n As Ao cs co ss os _ (hs.keep hB) (ho.keep hB) hns hno) (fun e Wz6 h => ?_)
  obtain ⟨rfl, bz7⟩ := h
  replace hB := below_after hB bz7
  replace hz5 := hz5.after bz7
  rw [HP.out]
  clear bz7
  refine ⟨_, rfl, ?_⟩
  refine hK' _ _ ?_
  clear hK' K'
  go_frame
  refine ls_ex (some 8) (.bool true) rfl rfl (exec_not _ _ rfl false rfl) ?_
  go_frame
  refine wpList_nil ?_
  go_upto_region 2 with (fail)
  refine wp_region_lit ?_
  refine ls_ex (some 4) (.slice none 0 0) rfl rfl (exec_assign _ rfl (.slice none 0 0) rfl) ?_
  go_frame
  refine ls_ex (some 5) (.int .i64 1) rfl rfl (exec_assign _ rfl (.int .i64 1) rfl) ?_
  go_frame
  refine wpList_nil ?_
  go_wp2_with fail
  go_ret2
  exact ⟨_, by rw [Hc.out]; rfl, by rw [Hr.out]; exact OwnI.nil _ _, hB⟩
theorem listB_and (p n : Int) (xs : List Int) : listB p n xs = (numsB p xs && ((xs.length : Int) == n)) := by
  unfold listB
  rw [Bool.and_comm]
  rfl
set_option maxHeartbeats 4000000 in
theorem implRun_b (p n : Int) (As Ao : Option Addr) (cs co : Nat) (ss os : List (List Int)) (Ax : Option Addr) (cx : Nat) (xs : List Int) (w : World) (hs : RdK 3 w As ss) (ho : RdK 2 w Ao os) (hns : ss.length ≤ 1048576) (hno : os.length ≤ 1048576) (hx : RdI w Ax xs) (hnx : xs.length ≤ 1048576) (hpr : progB p n ss os = true) (hq : (numsB p xs && ((xs.length : Int) == n)) = false) :
    Calls Try.prog 9 #[.agg #[.int .i64 p, .int .i64 n, .slice As ss.length cs, .slice Ao os.length co], .slice Ax xs.length cx] w (ResI w (rpL p n ss os xs) (rpCode p n ss os xs)) := by
  have hB := Below.refl w.heap.size w
  have Hc : Hid (rpCode p n ss os xs = 2) := Lib.hid (by unfold rpCode; rw [if_pos hpr, hq]; rfl)
  have Hr : Hid (rpL p n ss os xs = []) := Lib.hid (by unfold rpL; rw [Hc.out]; rfl)
  have HP := Lib.hid hpr
  have HQ : Hid (listB p n xs = false) := Lib.hid (by rw [listB_and, hq])
  clear hpr hq
  go_enter Try.func9, Try.ntmps9
  go_upto_region 0 with (fail)
  refine wp_region_lit ?_
  refine ls_op rfl (fun K' hK' => ?_)
  have lz1 := hB.size
  refine wp_new (some 2) rfl (exec_box 33 _ rfl (#[.int .i64 p, .int .i64 n, .slice As ss.length cs, .slice Ao os.length co]) rfl) (fun Wz2 nnz3 => ?_)
  have bz4 := nnz3.below (Below.refl _ _) (Nat.le_refl _)
  replace hB := below_after hB bz4
  have hz5 : At Wz2 w.heap.size (.cells #[.int .i64 p, .int .i64 n, .slice As ss.length cs, .slice Ao os.length co] 33 (0, 0)) := nnz3.at_
  refine hK' _ _ ?_
  clear hK' K' nnz3 bz4
  go_frame
  refine ls_ex (some 4) (.slice none 0 0) rfl rfl (exec_assign _ rfl (.slice none 0 0) rfl) ?_
  go_frame
  refine ls_ex (some 5) (.int .i64 0) rfl rfl (exec_assign _ rfl (.int .i64 0) rfl) ?_
  go_frame
  refine wpList_nil ?_
  go_upto_region 1 with (fail)
  refine wp_region_lit ?_
  refine ls_ex (some 6) (.agg #[.int .i64 p, .int .i64 n, .slice As ss.length cs, .slice Ao os.length co]) rfl rfl (exec_load_all 33 _ rfl w.heap.size rfl _ _ _ hz5 Try.underlying33 rfl 4 (by kernel_rfl) rfl) ?_
  go_frame
  refine ls_op rfl (fun K' hK' => ?_)
  have lz8 := hB.size
  have lz9 := hz5.lt
  refine wp_call1 (some 7) rfl 29 _ _ rfl (fun args w => by kernel_rfl) _ rfl _ (implIsProgram_c p n As Ao cs co ss os _ (hs.keep hB) (ho.keep hB) hns hno) (fun e Wz6 h => ?_)
  obtain ⟨rfl, bz7⟩ := h
  replace hB := below_after hB bz7
  replace hz5 := hz5.after bz7
  rw [HP.out]
  clear bz7
  refine ⟨_, rfl, ?_⟩
  refine hK' _ _ ?_
  clear hK' K'
  go_frame
  refine ls_ex (some 8) (.bool false) rfl rfl (exec_not _ _ rfl true rfl) ?_
  go_frame
  refine wpList_nil ?_
  go_upto_region 3 with (fail)
  refine wp_region_lit ?_
  refine ls_ex (some 9) (.pointer (some ⟨w.heap.size, 0, none⟩)) rfl rfl (exec_fieldAddr 33 _ 0 rfl _ (by kernel_rfl)) ?_
  go_frame
  refine ls_ex (some 10) (.int .i64 p) rfl rfl (exec_load_one 2 _ rfl w.heap.size 0 rfl (.int .i64 p) _ Try.underlying2 rfl (hz5.at_ 0)) ?_
  go_frame
  refine ls_ex (some 11) (.pointer (some ⟨w.heap.size, 1, none⟩)) rfl rfl (exec_fieldAddr 33 _ 1 rfl _ (by kernel_rfl)) ?_
  go_frame
  refine ls_ex (some 12) (.int .i64 n) rfl rfl (exec_load_one 2 _ rfl w.heap.size 1 rfl (.int .i64 n) _ Try.underlying2 rfl (hz5.at_ 1)) ?_
  go_frame
  refine ls_ex (some 13) (.slice Ax xs.length cx) rfl rfl (exec_move _ rfl (.slice Ax xs.length cx) rfl) ?_
  go_frame
  refine ls_op rfl (fun K' hK' => ?_)
  have lz12 := hB.size
  have lz13 := hz5.lt
  refine wp_call3 (some 14) rfl 30 _ _ _ _ rfl (fun args w => by kernel_rfl) _ _ _ rfl rfl rfl _ (isList_c Ax cx p n xs _ (hx.keep hB) hnx) (fun e Wz10 h => ?_)
  obtain ⟨rfl, bz11⟩ := h
  replace hB := below_after hB bz11
  replace hz5 := hz5.after bz11
  rw [HQ.out]
  clear bz11
  refine ⟨_, rfl, ?_⟩
  refine hK' _ _ ?_
  clear hK' K'
  go_frame
  refine ls_ex (some 15) (.bool true) rfl rfl (exec_not _ _ rfl false rfl) ?_
  go_frame
  refine wpList_nil ?_
  go_upto_region 4 with (fail)
  refine wp_region_lit ?_
  refine ls_ex (some 4) (.slice none 0 0) rfl rfl (exec_assign _ rfl (.slice none 0 0) rfl) ?_
  go_frame
  refine ls_ex (some 5) (.int .i64 2) rfl rfl (exec_assign _ rfl (.int .i64 2) rfl) ?_
  go_frame
  refine wpList_nil ?_
  go_wp2_with fail
  go_ret2
  exact ⟨_, by rw [Hc.out]; rfl, by rw [Hr.out]; exact OwnI.nil _ _, hB⟩
set_option maxHeartbeats 4000000 in
theorem implRun_c (p : Int) (N : Nat) (As Ao : Option Addr) (cs co : Nat) (ss os : List (List Int)) (Ax : Option Addr) (cx : Nat) (xs : List Int) (w : World) (hs : RdK 3 w As ss) (ho : RdK 2 w Ao os) (hns : ss.length ≤ 1048576) (hno : os.length ≤ 1048576) (hx : RdI w Ax xs) (hnx : xs.length ≤ 1048576) (hpr : progB p (N : Int) ss os = true) (hq : (numsB p xs && ((xs.length : Int) == (N : Int))) = true) :
    Calls Try.prog 9 #[.agg #[.int .i64 p, .int .i64 (N : Int), .slice As ss.length cs, .slice Ao os.length co], .slice Ax xs.length cx] w (ResI w (rpL p (N : Int) ss os xs) (rpCode p (N : Int) ss os xs)) := by
  have hB := Below.refl w.heap.size w
  have Hc : Hid (rpCode p (N : Int) ss os xs = 0) := Lib.hid (by unfold rpCode; rw [if_pos hpr, if_pos hq])
  have Hr : Hid (rpL p (N : Int) ss os xs = runL p ss os xs) := Lib.hid (by unfold rpL; rw [Hc.out]; rfl)
  have hq2 := hq
  simp only [Bool.and_eq_true, beq_iff_eq] at hq2
  have hp5 := primeB_bounds (progB_parts hpr).1
  have hN9 := (progB_parts hpr).2.1
  have HX := Lib.hid (NumsP.of_numsB hq2.1 (by omega))
  have HL : Hid (xs.length = N) := Lib.hid (by omega)
  have HP := Lib.hid hpr
  have HQ : Hid (listB p (N : Int) xs = true) := Lib.hid (by rw [listB_and, hq])
  obtain ⟨M, hM⟩ : ∃ M, N + ss.length = M := ⟨_, rfl⟩
  have HM := Lib.hid hM
  clear hpr hq hq2 hM
  go_enter Try.func9, Try.ntmps9
  go_upto_region 0 with (fail)
  refine wp_region_lit ?_
  refine ls_op rfl (fun K' hK' => ?_)
  have lz1 := hB.size
  refine wp_new (some 2) rfl (exec_box 33 _ rfl (#[.int .i64 p, .int .i64 (N : Int), .slice As ss.length cs, .slice Ao os.length co]) rfl) (fun Wz2 nnz3 => ?_)
  have bz4 := nnz3.below (Below.refl _ _) (Nat.le_refl _)
  replace hB := below_after hB bz4
  have hz5 : At Wz2 w.heap.size (.cells #[.int .i64 p, .int .i64 (N : Int), .slice As ss.length cs, .slice Ao os.length co] 33 (0, 0)) := nnz3.at_
  refine hK' _ _ ?_
  clear hK' K' nnz3 bz4
  go_frame
  refine ls_ex (some 4) (.slice none 0 0) rfl rfl (exec_assign _ rfl (.slice none 0 0) rfl) ?_
  go_frame
  refine ls_ex (some 5) (.int .i64 0) rfl rfl (exec_assign _ rfl (.int .i64 0) rfl) ?_
  go_frame
  refine wpList_nil ?_
  go_upto_region 1 with (fail)
  refine wp_region_lit ?_
  refine ls_ex (some 6) (.agg #[.int .i64 p, .int .i64 (N : Int), .slice As ss.length cs, .slice Ao os.length co]) rfl rfl (exec_load_all 33 _ rfl w.heap.size rfl _ _ _ hz5 Try.underlying33 rfl 4 (by kernel_rfl) rfl) ?_
  go_frame
  refine ls_op rfl (fun K' hK' => ?_)
  have lz8 := hB.size
  have lz9 := hz5.lt
  refine wp_call1 (some 7) rfl 29 _ _ rfl (fun args w => by kernel_rfl) _ rfl _ (implIsProgram_c p (N : Int) As Ao cs co ss os _ (hs.keep hB) (ho.keep hB) hns hno) (fun e Wz6 h => ?_)
  obtain ⟨rfl, bz7⟩ := h
  replace hB := below_after hB bz7
  replace hz5 := hz5.after bz7
  rw [HP.out]
  clear bz7
  refine ⟨_, rfl, ?_⟩
  refine hK' _ _ ?_
  clear hK' K'
  go_frame
  refine ls_ex (some 8) (.bool false) rfl rfl (exec_not _ _ rfl true rfl) ?_
  go_frame
  refine wpList_nil ?_
  go_upto_region 3 with (fail)
  refine wp_region_lit ?_
  refine ls_ex (some 9) (.pointer (some ⟨w.heap.size, 0, none⟩)) rfl rfl (exec_fieldAddr 33 _ 0 rfl _ (by kernel_rfl)) ?_
  go_frame
  refine ls_ex (some 10) (.int .i64 p) rfl rfl (exec_load_one 2 _ rfl w.heap.size 0 rfl (.int .i64 p) _ Try.underlying2 rfl (hz5.at_ 0)) ?_
  go_frame
  refine ls_ex (some 11) (.pointer (some ⟨w.heap.size, 1, none⟩)) rfl rfl (exec_fieldAddr 33 _ 1 rfl _ (by kernel_rfl)) ?_
  go_frame
  refine ls_ex (some 12) (.int .i64 (N : Int)) rfl rfl (exec_load_one 2 _ rfl w.heap.size 1 rfl (.int .i64 (N : Int)) _ Try.underlying2 rfl (hz5.at_ 1)) ?_
  go_frame
  refine ls_ex (some 13) (.slice Ax xs.length cx) rfl rfl (exec_move _ rfl (.slice Ax xs.length cx) rfl) ?_
  go_frame
  refine ls_op rfl (fun K' hK' => ?_)
  have lz12 := hB.size
  have lz13 := hz5.lt
  refine wp_call3 (some 14) rfl 30 _ _ _ _ rfl (fun args w => by kernel_rfl) _ _ _ rfl rfl rfl _ (isList_c Ax cx p (N : Int) xs _ (hx.keep hB) hnx) (fun e Wz10 h => ?_)
  obtain ⟨rfl, bz11⟩ := h
  replace hB := below_after hB bz11
  replace hz5 := hz5.after bz11
  rw [HQ.out]
  clear bz11
  refine ⟨_, rfl, ?_⟩
  refine hK' _ _ ?_
  clear hK' K'
  go_frame
  refine ls_ex (some 15) (.bool false) rfl rfl (exec_not _ _ rfl true rfl) ?_
  go_frame
  refine wpList_nil ?_
  go_upto_region 5 with (fail)
  refine wp_region_lit ?_
  refine ls_ex (some 16) (.agg #[.int .i64 p, .int .i64 (N : Int), .slice As ss.length cs, .slice Ao os.length co]) rfl rfl (exec_load_all 33 _ rfl w.heap.size rfl _ _ _ hz5 Try.underlying33 rfl 4 (by kernel_rfl) rfl) ?_
  go_frame
  refine ls_ex (some 17) (.slice Ax xs.length cx) rfl rfl (exec_move _ rfl (.slice Ax xs.length cx) rfl) ?_
  go_frame
  refine ls_op rfl (fun K' hK' => ?_)
  have lz16 := hB.size
  have lz17 := hz5.lt
  refine wp_call2 (some 18) rfl 31 _ _ _ rfl (fun args w => by kernel_rfl) _ _ rfl rfl _ (outputsFor_c p N M As Ao cs co ss os _ Ax cx xs (hs.keep hB) (ho.keep hB) (hx.keep hB) HP.out HL.out HX.out HM.out) (fun e Wz14 h => ?_)
  obtain ⟨v, rfl, hv, bz15⟩ := h
  replace hB := below_after hB bz15
  replace hz5 := hz5.after bz15
  clear bz15
  refine ⟨_, rfl, ?_⟩
  refine hK' _ _ ?_
  clear hK' K'
  go_frame
  refine ls_ex (some 4) (v) rfl rfl (exec_assign _ rfl (v) rfl) ?_
  go_frame
  refine ls_ex (some 5) (.int .i64 0) rfl rfl (exec_assign _ rfl (.int .i64 0) rfl) ?_
  go_frame
  refine wpList_nil ?_
  go_wp2_with fail
  go_ret2
  exact ⟨_, by rw [Hc.out]; rfl, by rw [Hr.out]; exact hv.mono (by omega), hB⟩
theorem specRunProgram_c (p n : Int) (As Ao : Option Addr) (cs co : Nat) (ss os : List (List Int)) (Ax : Option Addr) (cx : Nat) (xs : List Int) (w : World) (hs : RdK 3 w As ss) (ho : RdK 2 w Ao os) (hns : ss.length ≤ 1048576) (hno : os.length ≤ 1048576) (hx : RdI w Ax xs) (hnx : xs.length ≤ 1048576) : Calls Try.prog 6 #[.agg #[.int .i64 p, .int .i64 n, .slice As ss.length cs, .slice Ao os.length co], .slice Ax xs.length cx] w (ResI w (rpL p n ss os xs) (rpCode p n ss os xs)) := by
  cases hpr : progB p n ss os with
  | false => exact specRun_a p n As Ao cs co ss os Ax cx xs w hs ho hns hno hx hnx hpr
  | true =>
    cases hq : (numsB p xs && ((xs.length : Int) == n)) with
    | false => exact specRun_b p n As Ao cs co ss os Ax cx xs w hs ho hns hno hx hnx hpr hq
    | true =>
      obtain ⟨N, rfl⟩ := Int.eq_ofNat_of_zero_le (show 0 ≤ n by have := (progB_parts hpr).2.1; omega)
      exact specRun_c p N As Ao cs co ss os Ax cx xs w hs ho hns hno hx hnx hpr hq
theorem implRunProgram_c (p n : Int) (As Ao : Option Addr) (cs co : Nat) (ss os : List (List Int)) (Ax : Option Addr) (cx : Nat) (xs : List Int) (w : World) (hs : RdK 3 w As ss) (ho : RdK 2 w Ao os) (hns : ss.length ≤ 1048576) (hno : os.length ≤ 1048576) (hx : RdI w Ax xs) (hnx : xs.length ≤ 1048576) : Calls Try.prog 9 #[.agg #[.int .i64 p, .int .i64 n, .slice As ss.length cs, .slice Ao os.length co], .slice Ax xs.length cx] w (ResI w (rpL p n ss os xs) (rpCode p n ss os xs)) := by
  cases hpr : progB p n ss os with
  | false => exact implRun_a p n As Ao cs co ss os Ax cx xs w hs ho hns hno hx hnx hpr
  | true =>
    cases hq : (numsB p xs && ((xs.length : Int) == n)) with
    | false => exact implRun_b p n As Ao cs co ss os Ax cx xs w hs ho hns hno hx hnx hpr hq
    | true =>
      obtain ⟨N, rfl⟩ := Int.eq_ofNat_of_zero_le (show 0 ≤ n by have := (progB_parts hpr).2.1; omega)
      exact implRun_c p N As Ao cs co ss os Ax cx xs w hs ho hns hno hx hnx hpr hq
theorem rpL_len (p n : Int) (ss os : List (List Int)) (xs : List Int) : (rpL p n ss os xs).length ≤ 1048576 := by
  unfold rpL
  split
  · rename_i h
    unfold rpCode at h
    split at h
    · rename_i hp
      have := (progB_parts hp).2.2.2.1
      unfold runL; rw [outsL_len]; omega
    · cases h
  · simp
end Go.Proofs.Ytoaibfbamecdlaa
