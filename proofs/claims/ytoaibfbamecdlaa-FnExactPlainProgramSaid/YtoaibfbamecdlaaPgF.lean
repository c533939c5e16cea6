/-
  PlainProgram of both sides: the tops. (Made by mkpgf.py.)
-/
import Derived.Test.YtoaibfbamecdlaaPgE
namespace Go.Proofs.Ytoaibfbamecdlaa
open Go.RowKit
set_option maxRecDepth 100000
attribute [local irreducible] wpList
theorem pe_build_shp {o : Oper} {a : Act} {w : World} (x y : Operand) (ho : o.op = .build 89 #[(0, x), (1, y)]) (n m : Int) (hx : a.eval x = .int .i64 n) (hy : a.eval y = .int .i64 m) :
    (execOp a.eval o).run Try.prog w = .ok (.value (.agg #[.int .i64 n, .int .i64 m])) w := by
  have hb : Try.prog.built 89 [(0, .int .i64 n), (1, .int .i64 m)] = some #[.int .i64 n, .int .i64 m] := by kernel_rfl
  have h := run_build (P := Try.prog) w 89 _ _ hb
  unfold execOp
  simp [ho, hx, hy, h]
theorem exec_build_prog2 {o : Oper} {a : Act} {w : World} (x y : Operand) (ho : o.op = .build 33 #[(0, x), (1, y)]) (p n : Int) (hx : a.eval x = .int .i64 p) (hy : a.eval y = .int .i64 n) :
    (execOp a.eval o).run Try.prog w = .ok (.value (.agg #[.int .i64 p, .int .i64 n, .slice none 0 0, .slice none 0 0])) w := by
  have hb : Try.prog.built 33 [(0, .int .i64 p), (1, .int .i64 n)] = some #[.int .i64 p, .int .i64 n, .slice none 0 0, .slice none 0 0] := by kernel_rfl
  have h := run_build (P := Try.prog) w 33 _ _ hb
  unfold execOp
  simp [ho, hx, hy, h]
def ppP (p n : Int) (K : Nat) (row : Nat → List Int) : Int := if listsB p n K row = true then p else 0
def ppN (p n : Int) (K : Nat) (row : Nat → List Int) : Int := if listsB p n K row = true then n else 0
def ppS (p n : Int) (K : Nat) (row : Nat → List Int) : List (List Int) := if listsB p n K row = true then (plSt p n.toNat row K).1 else []
def ppO (p n : Int) (K : Nat) (row : Nat → List Int) : List (List Int) := if listsB p n K row = true then (plSt p n.toNat row K).2 else []
theorem matB_rows {p n : Int} {K : Nat} {row : Nat → List Int} : matB p (K : Int) n K row = (List.range K).all fun i => numsB p (row i) && (((row i).length : Int) == n) := by
  unfold matB
  rw [decide_eq_true rfl, Bool.true_and]
  congr 1
  funext i
  unfold rowB
  rw [Bool.and_comm]
  rfl
theorem al_impl_shape {o : Oper} {a : Act} {w : World} (ho : o.op = .alloc 89) : (execOp a.eval o).run Try.prog w = .ok (.value (.pointer (some ⟨w.heap.size, 0, none⟩))) (w.alloc (.cells #[.int .i64 0, .int .i64 0] 89 (0, 0))) := by
  unfold execOp
  rw [ho]
  kernel_rfl
set_option maxHeartbeats 4000000 in
theorem specPlain_n (p n : Int) (A : Option Addr) (c K : Nat) (row : Nat → List Int) (w : World) (hm : RdM w A K row) (hK : K ≤ 1048576) (hrl : ∀ i, i < K → (row i).length ≤ 1048576) (hq : listsB p n K row = false) :
    Calls Try.prog 16 #[.int .i64 p, .int .i64 n, .slice A K c] w (ResG w (ppP p n K row) (ppN p n K row) (ppS p n K row) (ppO p n K row) (lsCode p n K row)) := by
  have hB := Below.refl w.heap.size w
  have Hc : Hid (lsCode p n K row = 2) := Lib.hid (lsCode_no hq)
  have Hp : Hid (ppP p n K row = 0) := Lib.hid (by unfold ppP; rw [hq]; rfl)
  have Hn : Hid (ppN p n K row = 0) := Lib.hid (by unfold ppN; rw [hq]; rfl)
  have Hs : Hid (ppS p n K row = []) := Lib.hid (by unfold ppS; rw [hq]; rfl)
  have Ho : Hid (ppO p n K row = []) := Lib.hid (by unfold ppO; rw [hq]; rfl)
  clear hq
  go_enter Try.func16, Try.ntmps16
  go_upto_region 0 with (fail)
  refine wp_region_lit ?_
  refine ls_op rfl (fun K' hK' => ?_)
  have lz1 := hB.size
  refine wp_new (some 6) rfl (al_impl_Program rfl) (fun Wz2 nnz3 => ?_)
  have bz4 := nnz3.below (Below.refl _ _) (Nat.le_refl _)
  replace hB := below_after hB bz4
  have hz5 : At Wz2 w.heap.size (.cells #[.int .i64 0, .int .i64 0, .slice none 0 0, .slice none 0 0] 33 (0, 0)) := nnz3.at_
  refine hK' _ _ ?_
  clear hK' K' nnz3 bz4
  go_frame
  refine ls_ex (some 7) (.int .i64 0) rfl rfl (exec_assign _ rfl (.int .i64 0) rfl) ?_
  go_frame
  refine wpList_nil ?_
  go_upto_region 1 with (fail)
  refine wp_region_lit ?_
  refine ls_ex (some 9) (.int .i64 p) rfl rfl (exec_move _ rfl (.int .i64 p) rfl) ?_
  go_frame
  refine ls_ex (some 10) (.int .i64 n) rfl rfl (exec_move _ rfl (.int .i64 n) rfl) ?_
  go_frame
  refine ls_ex (some 11) (.slice A K c) rfl rfl (exec_move _ rfl (.slice A K c) rfl) ?_
  go_frame
  refine ls_op rfl (fun K' hK' => ?_)
  have lz8 := hB.size
  have lz9 := hz5.lt
  refine wp_call3 (some 12) rfl 37 _ _ _ _ rfl (fun args w => by kernel_rfl) _ _ _ rfl rfl rfl _ (l07Lists_c p n A c K row _ (hm.keep hB) hK hrl) (fun e Wz6 h => ?_)
  obtain ⟨rfl, bz7⟩ := h
  replace hB := below_after hB bz7
  replace hz5 := hz5.after bz7
  rw [Hc.out]
  clear bz7
  refine ⟨_, rfl, ?_⟩
  refine hK' _ _ ?_
  clear hK' K'
  go_frame
  refine ls_ex (some 8) (.int .i64 2) rfl rfl (exec_assign _ rfl (.int .i64 2) rfl) ?_
  go_frame
  refine wpList_nil ?_
  go_upto_region 2 with (fail)
  refine wp_region_lit ?_
  refine ls_ex (some 13) (.int .i64 2) rfl rfl (exec_move _ rfl (.int .i64 2) rfl) ?_
  go_frame
  refine ls_ex (some 14) (.bool true) rfl rfl (exec_neq _ _ _ _ rfl 2 0 rfl rfl true rfl) ?_
  go_frame
  refine wpList_nil ?_
  go_upto_region 3 with (fail)
  refine wp_region_lit ?_
  refine ls_ex (some 15) (.agg #[.int .i64 0, .int .i64 0, .slice none 0 0, .slice none 0 0]) rfl rfl (exec_build_nil 33 rfl _ (by kernel_rfl)) ?_
  go_frame
  refine ls_ex (some 16) (.int .i64 2) rfl rfl (exec_move _ rfl (.int .i64 2) rfl) ?_
  go_frame
  refine ls_op rfl (fun K' hK' => ?_)
  refine wp_store_all 33 _ _ rfl rfl w.heap.size rfl #[.int .i64 0, .int .i64 0, .slice none 0 0, .slice none 0 0] rfl _ _ hz5 4 (by kernel_rfl) rfl rfl (by intro x hx; simp at hx; rcases hx with rfl | rfl | rfl | rfl <;> rfl) (fun Wz10 pz11 => ?_)
  replace hB := pz11.below hB (by omega)
  replace hz5 : At Wz10 w.heap.size (.cells #[.int .i64 0, .int .i64 0, .slice none 0 0, .slice none 0 0] 33 (0, 0)) := pz11.at_
  refine hK' _ _ ?_
  clear hK' K' pz11
  refine ls_ex (some 7) (.int .i64 2) rfl rfl (exec_assign _ rfl (.int .i64 2) rfl) ?_
  go_frame
  refine wpList_nil ?_
  go_wp2_with fail
  refine bodyPost_ret (results_at2 rfl _ _ w.heap.size _ _ _ rfl (.int .i64 2) rfl hz5 Try.underlying33 rfl 4 (by kernel_rfl) rfl) rfl ?_
  exact ⟨_, _, by rw [Hp.out, Hn.out, Hc.out], by rw [Hs.out]; exact OwnK.nil _ _ _ _, by rw [Ho.out]; exact OwnK.nil _ _ _ _, hB⟩
set_option maxHeartbeats 4000000 in
theorem specPlain_y (p : Int) (N : Nat) (A : Option Addr) (c K : Nat) (row : Nat → List Int) (w : World) (hm : RdM w A K row) (hK : K ≤ 1048576) (hrl : ∀ i, i < K → (row i).length ≤ 1048576) (hq : listsB p (N : Int) K row = true) :
    Calls Try.prog 16 #[.int .i64 p, .int .i64 (N : Int), .slice A K c] w (ResG w (ppP p (N : Int) K row) (ppN p (N : Int) K row) (ppS p (N : Int) K row) (ppO p (N : Int) K row) (lsCode p (N : Int) K row)) := by
  have hB := Below.refl w.heap.size w
  have Hc : Hid (lsCode p (N : Int) K row = 0) := Lib.hid (lsCode_yes hq)
  have Hp : Hid (ppP p (N : Int) K row = p) := Lib.hid (by unfold ppP; rw [hq]; rfl)
  have Hn : Hid (ppN p (N : Int) K row = (N : Int)) := Lib.hid (by unfold ppN; rw [hq]; rfl)
  have Hs : Hid (ppS p (N : Int) K row = (plSt p N row K).1) := Lib.hid (by unfold ppS; rw [hq]; rfl)
  have Ho : Hid (ppO p (N : Int) K row = (plSt p N row K).2) := Lib.hid (by unfold ppO; rw [hq]; rfl)
  have HQ := Lib.hid hq
  clear hq
  go_enter Try.func16, Try.ntmps16
  go_upto_region 0 with (fail)
  refine wp_region_lit ?_
  refine ls_op rfl (fun K' hK' => ?_)
  have lz1 := hB.size
  refine wp_new (some 6) rfl (al_impl_Program rfl) (fun Wz2 nnz3 => ?_)
  have bz4 := nnz3.below (Below.refl _ _) (Nat.le_refl _)
  replace hB := below_after hB bz4
  have hz5 : At Wz2 w.heap.size (.cells #[.int .i64 0, .int .i64 0, .slice none 0 0, .slice none 0 0] 33 (0, 0)) := nnz3.at_
  refine hK' _ _ ?_
  clear hK' K' nnz3 bz4
  go_frame
  refine ls_ex (some 7) (.int .i64 0) rfl rfl (exec_assign _ rfl (.int .i64 0) rfl) ?_
  go_frame
  refine wpList_nil ?_
  go_upto_region 1 with (fail)
  refine wp_region_lit ?_
  refine ls_ex (some 9) (.int .i64 p) rfl rfl (exec_move _ rfl (.int .i64 p) rfl) ?_
  go_frame
  refine ls_ex (some 10) (.int .i64 (N : Int)) rfl rfl (exec_move _ rfl (.int .i64 (N : Int)) rfl) ?_
  go_frame
  refine ls_ex (some 11) (.slice A K c) rfl rfl (exec_move _ rfl (.slice A K c) rfl) ?_
  go_frame
  refine ls_op rfl (fun K' hK' => ?_)
  have lz8 := hB.size
  have lz9 := hz5.lt
  refine wp_call3 (some 12) rfl 37 _ _ _ _ rfl (fun args w => by kernel_rfl) _ _ _ rfl rfl rfl _ (l07Lists_c p (N : Int) A c K row _ (hm.keep hB) hK hrl) (fun e Wz6 h => ?_)
  obtain ⟨rfl, bz7⟩ := h
  replace hB := below_after hB bz7
  replace hz5 := hz5.after bz7
  rw [Hc.out]
  clear bz7
  refine ⟨_, rfl, ?_⟩
  refine hK' _ _ ?_
  clear hK' K'
  go_frame
  refine ls_ex (some 8) (.int .i64 0) rfl rfl (exec_assign _ rfl (.int .i64 0) rfl) ?_
  go_frame
  refine wpList_nil ?_
  go_upto_region 2 with (fail)
  refine wp_region_lit ?_
  refine ls_ex (some 13) (.int .i64 0) rfl rfl (exec_move _ rfl (.int .i64 0) rfl) ?_
  go_frame
  refine ls_ex (some 14) (.bool false) rfl rfl (exec_neq _ _ _ _ rfl 0 0 rfl rfl false rfl) ?_
  go_frame
  refine wpList_nil ?_
  go_upto_region 4 with (fail)
  refine wp_region_lit ?_
  refine ls_ex (some 17) (.int .i64 p) rfl rfl (exec_move _ rfl (.int .i64 p) rfl) ?_
  go_frame
  refine ls_ex (some 18) (.int .i64 (N : Int)) rfl rfl (exec_move _ rfl (.int .i64 (N : Int)) rfl) ?_
  go_frame
  refine ls_ex (some 19) (.slice A K c) rfl rfl (exec_move _ rfl (.slice A K c) rfl) ?_
  go_frame
  refine ls_op rfl (fun K' hK' => ?_)
  have lz12 := hB.size
  have lz13 := hz5.lt
  refine wp_call3 (some 20) rfl 38 _ _ _ _ rfl (fun args w => by kernel_rfl) _ _ _ rfl rfl rfl _ (l07Plain_c p N A c K row _ (hm.keep hB) HQ.out) (fun e Wz10 h => ?_)
  obtain ⟨v, u, rfl, hv, hu, bz11⟩ := h
  replace hB := below_after hB bz11
  replace hz5 := hz5.after bz11
  obtain ⟨n7, hn71, hn72⟩ : ∃ n7, n7 ≤ (plSt p N row K).1.length ∧ (plSt p N row K).1.length ≤ n7 := ⟨_, Nat.le_refl _, Nat.le_refl _⟩
  obtain ⟨An7, cn7, rfl⟩ := OwnK.rdN hv (n := n7) (by omega)
  obtain ⟨An8, cn8, rfl⟩ := OwnK.rdN hu (n := K) (plSt_len2 p N row K)
  clear bz11
  refine ⟨_, rfl, ?_⟩
  refine hK' _ _ ?_
  clear hK' K'
  go_frame
  refine ls_op rfl (fun K' hK' => ?_)
  refine wp_store_all 33 _ _ rfl rfl w.heap.size rfl #[.int .i64 p, .int .i64 (N : Int), .slice An7 n7 cn7, .slice An8 K cn8] rfl _ _ hz5 4 (by kernel_rfl) rfl rfl (by intro x hx; simp at hx; rcases hx with rfl | rfl | rfl | rfl <;> rfl) (fun Wz14 pz15 => ?_)
  replace hB := pz15.below hB (by omega)
  replace hv := hv.put pz15 (hv.off hz5 (by decide))
  replace hu := hu.put pz15 (hu.off hz5 (by decide))
  replace hz5 : At Wz14 w.heap.size (.cells #[.int .i64 p, .int .i64 (N : Int), .slice An7 n7 cn7, .slice An8 K cn8] 33 (0, 0)) := pz15.at_
  refine hK' _ _ ?_
  clear hK' K' pz15
  refine ls_ex (some 7) (.int .i64 0) rfl rfl (exec_assign _ rfl (.int .i64 0) rfl) ?_
  go_frame
  refine wpList_nil ?_
  go_wp2_with fail
  refine bodyPost_ret (results_at2 rfl _ _ w.heap.size _ _ _ rfl (.int .i64 0) rfl hz5 Try.underlying33 rfl 4 (by kernel_rfl) rfl) rfl ?_
  exact ⟨_, _, by rw [Hp.out, Hn.out, Hc.out], by rw [Hs.out]; exact hv.mono (by omega), by rw [Ho.out]; exact hu.mono (by omega), hB⟩
set_option maxHeartbeats 4000000 in
theorem programFor_a (p n : Int) (A : Option Addr) (c K : Nat) (row : Nat → List Int) (w : World) (hm : RdM w A K row) (hK : K ≤ 1048576) (hrl : ∀ i, i < K → (row i).length ≤ 1048576) (hp : primeB p = false) :
    Calls Try.prog 39 #[.int .i64 p, .int .i64 n, .slice A K c, .bool false] w (ResG w (ppP p n K row) (ppN p n K row) (ppS p n K row) (ppO p n K row) (lsCode p n K row)) := by
  have hB := Below.refl w.heap.size w
  have _u0 := hm
  have _u1 := hK
  have _u2 := hrl
  clear _u0 _u1 _u2
  have hq : listsB p n K row = false := by simp [listsB, hp]
  have Hc : Hid (lsCode p n K row = 2) := Lib.hid (lsCode_no hq)
  have Hp : Hid (ppP p n K row = 0) := Lib.hid (by unfold ppP; rw [hq]; rfl)
  have Hn : Hid (ppN p n K row = 0) := Lib.hid (by unfold ppN; rw [hq]; rfl)
  have Hs : Hid (ppS p n K row = []) := Lib.hid (by unfold ppS; rw [hq]; rfl)
  have Ho : Hid (ppO p n K row = []) := Lib.hid (by unfold ppO; rw [hq]; rfl)
  have HP := Lib.hid hp
  clear hp hq
  go_enter Try.func39, Try.ntmps39
  go_upto_region 0 with (fail)
  refine wp_region_lit ?_
  refine ls_op rfl (fun K' hK' => ?_)
  have lz1 := hB.size
  refine wp_new (some 8) rfl (al_impl_Program rfl) (fun Wz2 nnz3 => ?_)
  have bz4 := nnz3.below (Below.refl _ _) (Nat.le_refl _)
  replace hB := below_after hB bz4
  have hz5 : At Wz2 w.heap.size (.cells #[.int .i64 0, .int .i64 0, .slice none 0 0, .slice none 0 0] 33 (0, 0)) := nnz3.at_
  refine hK' _ _ ?_
  clear hK' K' nnz3 bz4
  go_frame
  refine ls_ex (some 9) (.int .i64 0) rfl rfl (exec_assign _ rfl (.int .i64 0) rfl) ?_
  go_frame
  refine wpList_nil ?_
  go_upto_region 1 with (fail)
  refine wp_region_lit ?_
  refine ls_ex (some 15) (.slice A K c) rfl rfl (exec_move _ rfl (.slice A K c) rfl) ?_
  go_frame
  refine ls_ex (some 16) (.int .i64 K) rfl rfl (exec_len _ 41 26 rfl A K c rfl Try.underlying41) ?_
  go_frame
  refine ls_ex (some 17) (.int .i64 n) rfl rfl (exec_move _ rfl (.int .i64 n) rfl) ?_
  go_frame
  refine ls_ex (some 18) (.agg #[.int .i64 K, .int .i64 n]) rfl rfl (pe_build_shp _ _ rfl (K : Int) n rfl rfl) ?_
  go_frame
  refine ls_op rfl (fun K' hK' => ?_)
  have lz6 := hB.size
  have lz7 := hz5.lt
  refine wp_new (some 10) rfl (al_impl_shape rfl) (fun Wz8 nnz9 => ?_)
  have bz10 := nnz9.below (Below.refl _ _) (Nat.le_refl _)
  replace hB := below_after hB bz10
  replace hz5 := hz5.after bz10
  have hz11 : At Wz8 Wz2.heap.size (.cells #[.int .i64 0, .int .i64 0] 89 (0, 0)) := nnz9.at_
  refine hK' _ _ ?_
  clear hK' K' nnz9 bz10
  go_frame
  refine ls_op rfl (fun K' hK' => ?_)
  refine wp_store_all 89 _ _ rfl rfl Wz2.heap.size rfl #[.int .i64 K, .int .i64 n] rfl _ _ hz11 2 (by kernel_rfl) rfl rfl (by intro x hx; simp at hx; rcases hx with rfl | rfl <;> rfl) (fun Wz12 pz13 => ?_)
  replace hB := pz13.below hB (by omega)
  replace hz5 := pz13.other hz5 (by omega)
  replace hz11 : At Wz12 Wz2.heap.size (.cells #[.int .i64 K, .int .i64 n] 89 (0, 0)) := pz13.at_
  refine hK' _ _ ?_
  clear hK' K' pz13
  refine wpList_nil ?_
  go_upto_region 2 with (fail)
  refine wp_region_lit ?_
  refine ls_ex (some 19) (.int .i64 p) rfl rfl (exec_move _ rfl (.int .i64 p) rfl) ?_
  go_frame
  refine ls_op rfl (fun K' hK' => ?_)
  have lz16 := hB.size
  have lz17 := hz5.lt
  have lz18 := hz11.lt
  refine wp_call1 (some 20) rfl 47 _ _ rfl (fun args w => by kernel_rfl) _ rfl _ (isPrime_c p _) (fun e Wz14 h => ?_)
  obtain ⟨rfl, rfl⟩ := h
  rw [HP.out]
  refine ⟨_, rfl, ?_⟩
  refine hK' _ _ ?_
  clear hK' K'
  go_frame
  refine ls_ex (some 21) (.bool true) rfl rfl (exec_not _ _ rfl false rfl) ?_
  go_frame
  refine ls_ex (some 22) (.bool true) rfl rfl (exec_move _ rfl (.bool true) rfl) ?_
  go_frame
  refine ls_skip_g (some 23) rfl rfl ?_
  go_frame
  refine ls_skip_g (some 24) rfl rfl ?_
  go_frame
  refine ls_skip_g (some 25) rfl rfl ?_
  go_frame
  refine ls_skip_g (some 26) rfl rfl ?_
  go_frame
  refine ls_ex (some 27) (.bool true) rfl rfl (exec_pick _ _ _ rfl true rfl (.bool true) rfl) ?_
  go_frame
  refine ls_ex (some 28) (.bool true) rfl rfl (exec_move _ rfl (.bool true) rfl) ?_
  go_frame
  refine ls_skip_g (some 29) rfl rfl ?_
  go_frame
  refine ls_skip_g (some 30) rfl rfl ?_
  go_frame
  refine ls_skip_g (some 31) rfl rfl ?_
  go_frame
  refine ls_skip_g (some 32) rfl rfl ?_
  go_frame
  refine ls_ex (some 33) (.bool true) rfl rfl (exec_pick _ _ _ rfl true rfl (.bool true) rfl) ?_
  go_frame
  refine ls_ex (some 34) (.bool true) rfl rfl (exec_move _ rfl (.bool true) rfl) ?_
  go_frame
  refine ls_skip_g (some 35) rfl rfl ?_
  go_frame
  refine ls_skip_g (some 36) rfl rfl ?_
  go_frame
  refine ls_skip_g (some 37) rfl rfl ?_
  go_frame
  refine ls_skip_g (some 38) rfl rfl ?_
  go_frame
  refine ls_skip_g (some 39) rfl rfl ?_
  go_frame
  refine ls_ex (some 40) (.bool true) rfl rfl (exec_pick _ _ _ rfl true rfl (.bool true) rfl) ?_
  go_frame
  refine wpList_nil ?_
  go_upto_region 3 with (fail)
  refine wp_region_lit ?_
  refine ls_ex (some 41) (.agg #[.int .i64 0, .int .i64 0, .slice none 0 0, .slice none 0 0]) rfl rfl (exec_build_nil 33 rfl _ (by kernel_rfl)) ?_
  go_frame
  refine ls_op rfl (fun K' hK' => ?_)
  refine wp_store_all 33 _ _ rfl rfl w.heap.size rfl #[.int .i64 0, .int .i64 0, .slice none 0 0, .slice none 0 0] rfl _ _ hz5 4 (by kernel_rfl) rfl rfl (by intro x hx; simp at hx; rcases hx with rfl | rfl | rfl | rfl <;> rfl) (fun Wz19 pz20 => ?_)
  replace hB := pz20.below hB (by omega)
  replace hz11 := pz20.other hz11 (by omega)
  replace hz5 : At Wz19 w.heap.size (.cells #[.int .i64 0, .int .i64 0, .slice none 0 0, .slice none 0 0] 33 (0, 0)) := pz20.at_
  refine hK' _ _ ?_
  clear hK' K' pz20
  refine ls_ex (some 9) (.int .i64 2) rfl rfl (exec_assign _ rfl (.int .i64 2) rfl) ?_
  go_frame
  refine wpList_nil ?_
  go_wp2_with fail
  refine bodyPost_ret (results_at2 rfl _ _ w.heap.size _ _ _ rfl (.int .i64 2) rfl hz5 Try.underlying33 rfl 4 (by kernel_rfl) rfl) rfl ?_
  exact ⟨_, _, by rw [Hp.out, Hn.out, Hc.out], by rw [Hs.out]; exact OwnK.nil _ _ _ _, by rw [Ho.out]; exact OwnK.nil _ _ _ _, hB⟩
set_option maxHeartbeats 4000000 in
theorem programFor_b (p n : Int) (A : Option Addr) (c K : Nat) (row : Nat → List Int) (w : World) (hm : RdM w A K row) (hK : K ≤ 1048576) (hrl : ∀ i, i < K → (row i).length ≤ 1048576) (hp : primeB p = true) (h1 : ¬ (1 ≤ K ∧ K ≤ 30)) :
    Calls Try.prog 39 #[.int .i64 p, .int .i64 n, .slice A K c, .bool false] w (ResG w (ppP p n K row) (ppN p n K row) (ppS p n K row) (ppO p n K row) (lsCode p n K row)) := by
  have hB := Below.refl w.heap.size w
  have _u0 := hm
  have _u1 := hK
  have _u2 := hrl
  clear _u0 _u1 _u2
  have hq : listsB p n K row = false := by (unfold listsB; rw [show (decide (1 ≤ K) && decide (K ≤ 30)) = false by rw [Bool.eq_false_iff]; simp only [ne_eq, Bool.and_eq_true, decide_eq_true_eq]; exact h1]; simp)
  have Hc : Hid (lsCode p n K row = 2) := Lib.hid (lsCode_no hq)
  have Hp : Hid (ppP p n K row = 0) := Lib.hid (by unfold ppP; rw [hq]; rfl)
  have Hn : Hid (ppN p n K row = 0) := Lib.hid (by unfold ppN; rw [hq]; rfl)
  have Hs : Hid (ppS p n K row = []) := Lib.hid (by unfold ppS; rw [hq]; rfl)
  have Ho : Hid (ppO p n K row = []) := Lib.hid (by unfold ppO; rw [hq]; rfl)
  have HP := Lib.hid hp
  have HKc : Hid ((decide (1 ≤ (K : Int)) && decide ((K : Int) ≤ 30)) = false) := Lib.hid (by rw [Bool.eq_false_iff]; simp only [ne_eq, Bool.and_eq_true, decide_eq_true_eq]; omega)
  clear hp hq
  go_enter Try.func39, Try.ntmps39
  go_upto_region 0 with (fail)
  refine wp_region_lit ?_
  refine ls_op rfl (fun K' hK' => ?_)
  have lz1 := hB.size
  refine wp_new (some 8) rfl (al_impl_Program rfl) (fun Wz2 nnz3 => ?_)
  have bz4 := nnz3.below (Below.refl _ _) (Nat.le_refl _)
  replace hB := below_after hB bz4
  have hz5 : At Wz2 w.heap.size (.cells #[.int .i64 0, .int .i64 0, .slice none 0 0, .slice none 0 0] 33 (0, 0)) := nnz3.at_
  refine hK' _ _ ?_
  clear hK' K' nnz3 bz4
  go_frame
  refine ls_ex (some 9) (.int .i64 0) rfl rfl (exec_assign _ rfl (.int .i64 0) rfl) ?_
  go_frame
  refine wpList_nil ?_
  go_upto_region 1 with (fail)
  refine wp_region_lit ?_
  refine ls_ex (some 15) (.slice A K c) rfl rfl (exec_move _ rfl (.slice A K c) rfl) ?_
  go_frame
  refine ls_ex (some 16) (.int .i64 K) rfl rfl (exec_len _ 41 26 rfl A K c rfl Try.underlying41) ?_
  go_frame
  refine ls_ex (some 17) (.int .i64 n) rfl rfl (exec_move _ rfl (.int .i64 n) rfl) ?_
  go_frame
  refine ls_ex (some 18) (.agg #[.int .i64 K, .int .i64 n]) rfl rfl (pe_build_shp _ _ rfl (K : Int) n rfl rfl) ?_
  go_frame
  refine ls_op rfl (fun K' hK' => ?_)
  have lz6 := hB.size
  have lz7 := hz5.lt
  refine wp_new (some 10) rfl (al_impl_shape rfl) (fun Wz8 nnz9 => ?_)
  have bz10 := nnz9.below (Below.refl _ _) (Nat.le_refl _)
  replace hB := below_after hB bz10
  replace hz5 := hz5.after bz10
  have hz11 : At Wz8 Wz2.heap.size (.cells #[.int .i64 0, .int .i64 0] 89 (0, 0)) := nnz9.at_
  refine hK' _ _ ?_
  clear hK' K' nnz9 bz10
  go_frame
  refine ls_op rfl (fun K' hK' => ?_)
  refine wp_store_all 89 _ _ rfl rfl Wz2.heap.size rfl #[.int .i64 K, .int .i64 n] rfl _ _ hz11 2 (by kernel_rfl) rfl rfl (by intro x hx; simp at hx; rcases hx with rfl | rfl <;> rfl) (fun Wz12 pz13 => ?_)
  replace hB := pz13.below hB (by omega)
  replace hz5 := pz13.other hz5 (by omega)
  replace hz11 : At Wz12 Wz2.heap.size (.cells #[.int .i64 K, .int .i64 n] 89 (0, 0)) := pz13.at_
  refine hK' _ _ ?_
  clear hK' K' pz13
  refine wpList_nil ?_
  go_upto_region 2 with (fail)
  refine wp_region_lit ?_
  refine ls_ex (some 19) (.int .i64 p) rfl rfl (exec_move _ rfl (.int .i64 p) rfl) ?_
  go_frame
  refine ls_op rfl (fun K' hK' => ?_)
  have lz16 := hB.size
  have lz17 := hz5.lt
  have lz18 := hz11.lt
  refine wp_call1 (some 20) rfl 47 _ _ rfl (fun args w => by kernel_rfl) _ rfl _ (isPrime_c p _) (fun e Wz14 h => ?_)
  obtain ⟨rfl, rfl⟩ := h
  rw [HP.out]
  refine ⟨_, rfl, ?_⟩
  refine hK' _ _ ?_
  clear hK' K'
  go_frame
  refine ls_ex (some 21) (.bool false) rfl rfl (exec_not _ _ rfl true rfl) ?_
  go_frame
  refine ls_ex (some 22) (.bool false) rfl rfl (exec_move _ rfl (.bool false) rfl) ?_
  go_frame
  refine ls_ex_g (some 23) (.pointer (some ⟨Wz2.heap.size, 0, none⟩)) rfl rfl (exec_fieldAddr 89 _ 0 rfl _ (by kernel_rfl)) ?_
  go_frame
  refine ls_ex_g (some 24) (.int .i64 K) rfl rfl (exec_load_one 2 _ rfl Wz2.heap.size 0 rfl (.int .i64 K) _ Try.underlying2 rfl (hz11.at_ 0)) ?_
  go_frame
  refine ls_op_g rfl (fun K' hK' => ?_)
  have lz21 := hB.size
  have lz22 := hz5.lt
  have lz23 := hz11.lt
  refine wp_call1 (some 25) rfl 48 _ _ rfl (fun args w => by kernel_rfl) _ rfl _ (isInputCount_c (K : Int) _) (fun e Wz19 h => ?_)
  obtain ⟨rfl, rfl⟩ := h
  rw [HKc.out]
  refine ⟨_, rfl, ?_⟩
  refine hK' _ _ ?_
  clear hK' K'
  go_frame
  refine ls_ex_g (some 26) (.bool true) rfl rfl (exec_not _ _ rfl false rfl) ?_
  go_frame
  refine ls_ex (some 27) (.bool true) rfl rfl (exec_pick _ _ _ rfl false rfl (.bool true) rfl) ?_
  go_frame
  refine ls_ex (some 28) (.bool true) rfl rfl (exec_move _ rfl (.bool true) rfl) ?_
  go_frame
  refine ls_skip_g (some 29) rfl rfl ?_
  go_frame
  refine ls_skip_g (some 30) rfl rfl ?_
  go_frame
  refine ls_skip_g (some 31) rfl rfl ?_
  go_frame
  refine ls_skip_g (some 32) rfl rfl ?_
  go_frame
  refine ls_ex (some 33) (.bool true) rfl rfl (exec_pick _ _ _ rfl true rfl (.bool true) rfl) ?_
  go_frame
  refine ls_ex (some 34) (.bool true) rfl rfl (exec_move _ rfl (.bool true) rfl) ?_
  go_frame
  refine ls_skip_g (some 35) rfl rfl ?_
  go_frame
  refine ls_skip_g (some 36) rfl rfl ?_
  go_frame
  refine ls_skip_g (some 37) rfl rfl ?_
  go_frame
  refine ls_skip_g (some 38) rfl rfl ?_
  go_frame
  refine ls_skip_g (some 39) rfl rfl ?_
  go_frame
  refine ls_ex (some 40) (.bool true) rfl rfl (exec_pick _ _ _ rfl true rfl (.bool true) rfl) ?_
  go_frame
  refine wpList_nil ?_
  go_upto_region 3 with (fail)
  refine wp_region_lit ?_
  refine ls_ex (some 41) (.agg #[.int .i64 0, .int .i64 0, .slice none 0 0, .slice none 0 0]) rfl rfl (exec_build_nil 33 rfl _ (by kernel_rfl)) ?_
  go_frame
  refine ls_op rfl (fun K' hK' => ?_)
  refine wp_store_all 33 _ _ rfl rfl w.heap.size rfl #[.int .i64 0, .int .i64 0, .slice none 0 0, .slice none 0 0] rfl _ _ hz5 4 (by kernel_rfl) rfl rfl (by intro x hx; simp at hx; rcases hx with rfl | rfl | rfl | rfl <;> rfl) (fun Wz24 pz25 => ?_)
  replace hB := pz25.below hB (by omega)
  replace hz11 := pz25.other hz11 (by omega)
  replace hz5 : At Wz24 w.heap.size (.cells #[.int .i64 0, .int .i64 0, .slice none 0 0, .slice none 0 0] 33 (0, 0)) := pz25.at_
  refine hK' _ _ ?_
  clear hK' K' pz25
  refine ls_ex (some 9) (.int .i64 2) rfl rfl (exec_assign _ rfl (.int .i64 2) rfl) ?_
  go_frame
  refine wpList_nil ?_
  go_wp2_with fail
  refine bodyPost_ret (results_at2 rfl _ _ w.heap.size _ _ _ rfl (.int .i64 2) rfl hz5 Try.underlying33 rfl 4 (by kernel_rfl) rfl) rfl ?_
  exact ⟨_, _, by rw [Hp.out, Hn.out, Hc.out], by rw [Hs.out]; exact OwnK.nil _ _ _ _, by rw [Ho.out]; exact OwnK.nil _ _ _ _, hB⟩
set_option maxHeartbeats 4000000 in
theorem programFor_c_ (p n : Int) (A : Option Addr) (c K : Nat) (row : Nat → List Int) (w : World) (hm : RdM w A K row) (hK : K ≤ 1048576) (hrl : ∀ i, i < K → (row i).length ≤ 1048576) (hp : primeB p = true) (h1 : 1 ≤ K ∧ K ≤ 30) (hn : (decide (1 ≤ n) && decide (n ≤ 30)) = false) :
    Calls Try.prog 39 #[.int .i64 p, .int .i64 n, .slice A K c, .bool false] w (ResG w (ppP p n K row) (ppN p n K row) (ppS p n K row) (ppO p n K row) (lsCode p n K row)) := by
  have hB := Below.refl w.heap.size w
  have _u0 := hm
  have _u1 := hK
  have _u2 := hrl
  clear _u0 _u1 _u2
  have hq : listsB p n K row = false := by (simp only [listsB, hn]; simp)
  have Hc : Hid (lsCode p n K row = 2) := Lib.hid (lsCode_no hq)
  have Hp : Hid (ppP p n K row = 0) := Lib.hid (by unfold ppP; rw [hq]; rfl)
  have Hn : Hid (ppN p n K row = 0) := Lib.hid (by unfold ppN; rw [hq]; rfl)
  have Hs : Hid (ppS p n K row = []) := Lib.hid (by unfold ppS; rw [hq]; rfl)
  have Ho : Hid (ppO p n K row = []) := Lib.hid (by unfold ppO; rw [hq]; rfl)
  have HP := Lib.hid hp
  have HN := Lib.hid hn
  have HKc : Hid ((decide (1 ≤ (K : Int)) && decide ((K : Int) ≤ 30)) = true) := Lib.hid (by rw [decide_eq_true (show (1 : Int) ≤ K by omega), decide_eq_true (show (K : Int) ≤ 30 by omega)]; rfl)
  clear hp hq hn
  go_enter Try.func39, Try.ntmps39
  go_upto_region 0 with (fail)
  refine wp_region_lit ?_
  refine ls_op rfl (fun K' hK' => ?_)
  have lz1 := hB.size
  refine wp_new (some 8) rfl (al_impl_Program rfl) (fun Wz2 nnz3 => ?_)
  have bz4 := nnz3.below (Below.refl _ _) (Nat.le_refl _)
  replace hB := below_after hB bz4
  have hz5 : At Wz2 w.heap.size (.cells #[.int .i64 0, .int .i64 0, .slice none 0 0, .slice none 0 0] 33 (0, 0)) := nnz3.at_
  refine hK' _ _ ?_
  clear hK' K' nnz3 bz4
  go_frame
  refine ls_ex (some 9) (.int .i64 0) rfl rfl (exec_assign _ rfl (.int .i64 0) rfl) ?_
  go_frame
  refine wpList_nil ?_
  go_upto_region 1 with (fail)
  refine wp_region_lit ?_
  refine ls_ex (some 15) (.slice A K c) rfl rfl (exec_move _ rfl (.slice A K c) rfl) ?_
  go_frame
  refine ls_ex (some 16) (.int .i64 K) rfl rfl (exec_len _ 41 26 rfl A K c rfl Try.underlying41) ?_
  go_frame
  refine ls_ex (some 17) (.int .i64 n) rfl rfl (exec_move _ rfl (.int .i64 n) rfl) ?_
  go_frame
  refine ls_ex (some 18) (.agg #[.int .i64 K, .int .i64 n]) rfl rfl (pe_build_shp _ _ rfl (K : Int) n rfl rfl) ?_
  go_frame
  refine ls_op rfl (fun K' hK' => ?_)
  have lz6 := hB.size
  have lz7 := hz5.lt
  refine wp_new (some 10) rfl (al_impl_shape rfl) (fun Wz8 nnz9 => ?_)
  have bz10 := nnz9.below (Below.refl _ _) (Nat.le_refl _)
  replace hB := below_after hB bz10
  replace hz5 := hz5.after bz10
  have hz11 : At Wz8 Wz2.heap.size (.cells #[.int .i64 0, .int .i64 0] 89 (0, 0)) := nnz9.at_
  refine hK' _ _ ?_
  clear hK' K' nnz9 bz10
  go_frame
  refine ls_op rfl (fun K' hK' => ?_)
  refine wp_store_all 89 _ _ rfl rfl Wz2.heap.size rfl #[.int .i64 K, .int .i64 n] rfl _ _ hz11 2 (by kernel_rfl) rfl rfl (by intro x hx; simp at hx; rcases hx with rfl | rfl <;> rfl) (fun Wz12 pz13 => ?_)
  replace hB := pz13.below hB (by omega)
  replace hz5 := pz13.other hz5 (by omega)
  replace hz11 : At Wz12 Wz2.heap.size (.cells #[.int .i64 K, .int .i64 n] 89 (0, 0)) := pz13.at_
  refine hK' _ _ ?_
  clear hK' K' pz13
  refine wpList_nil ?_
  go_upto_region 2 with (fail)
  refine wp_region_lit ?_
  refine ls_ex (some 19) (.int .i64 p) rfl rfl (exec_move _ rfl (.int .i64 p) rfl) ?_
  go_frame
  refine ls_op rfl (fun K' hK' => ?_)
  have lz16 := hB.size
  have lz17 := hz5.lt
  have lz18 := hz11.lt
  refine wp_call1 (some 20) rfl 47 _ _ rfl (fun args w => by kernel_rfl) _ rfl _ (isPrime_c p _) (fun e Wz14 h => ?_)
  obtain ⟨rfl, rfl⟩ := h
  rw [HP.out]
  refine ⟨_, rfl, ?_⟩
  refine hK' _ _ ?_
  clear hK' K'
  go_frame
  refine ls_ex (some 21) (.bool false) rfl rfl (exec_not _ _ rfl true rfl) ?_
  go_frame
  refine ls_ex (some 22) (.bool false) rfl rfl (exec_move _ rfl (.bool false) rfl) ?_
  go_frame
  refine ls_ex_g (some 23) (.pointer (some ⟨Wz2.heap.size, 0, none⟩)) rfl rfl (exec_fieldAddr 89 _ 0 rfl _ (by kernel_rfl)) ?_
  go_frame
  refine ls_ex_g (some 24) (.int .i64 K) rfl rfl (exec_load_one 2 _ rfl Wz2.heap.size 0 rfl (.int .i64 K) _ Try.underlying2 rfl (hz11.at_ 0)) ?_
  go_frame
  refine ls_op_g rfl (fun K' hK' => ?_)
  have lz21 := hB.size
  have lz22 := hz5.lt
  have lz23 := hz11.lt
  refine wp_call1 (some 25) rfl 48 _ _ rfl (fun args w => by kernel_rfl) _ rfl _ (isInputCount_c (K : Int) _) (fun e Wz19 h => ?_)
  obtain ⟨rfl, rfl⟩ := h
  rw [HKc.out]
  refine ⟨_, rfl, ?_⟩
  refine hK' _ _ ?_
  clear hK' K'
  go_frame
  refine ls_ex_g (some 26) (.bool false) rfl rfl (exec_not _ _ rfl true rfl) ?_
  go_frame
  refine ls_ex (some 27) (.bool false) rfl rfl (exec_pick _ _ _ rfl false rfl (.bool false) rfl) ?_
  go_frame
  refine ls_ex (some 28) (.bool false) rfl rfl (exec_move _ rfl (.bool false) rfl) ?_
  go_frame
  refine ls_ex_g (some 29) (.pointer (some ⟨Wz2.heap.size, 1, none⟩)) rfl rfl (exec_fieldAddr 89 _ 1 rfl _ (by kernel_rfl)) ?_
  go_frame
  refine ls_ex_g (some 30) (.int .i64 n) rfl rfl (exec_load_one 2 _ rfl Wz2.heap.size 1 rfl (.int .i64 n) _ Try.underlying2 rfl (hz11.at_ 1)) ?_
  go_frame
  refine ls_op_g rfl (fun K' hK' => ?_)
  have lz26 := hB.size
  have lz27 := hz5.lt
  have lz28 := hz11.lt
  refine wp_call1 (some 31) rfl 48 _ _ rfl (fun args w => by kernel_rfl) _ rfl _ (isInputCount_c n _) (fun e Wz24 h => ?_)
  obtain ⟨rfl, rfl⟩ := h
  rw [HN.out]
  refine ⟨_, rfl, ?_⟩
  refine hK' _ _ ?_
  clear hK' K'
  go_frame
  refine ls_ex_g (some 32) (.bool true) rfl rfl (exec_not _ _ rfl false rfl) ?_
  go_frame
  refine ls_ex (some 33) (.bool true) rfl rfl (exec_pick _ _ _ rfl false rfl (.bool true) rfl) ?_
  go_frame
  refine ls_ex (some 34) (.bool true) rfl rfl (exec_move _ rfl (.bool true) rfl) ?_
  go_frame
  refine ls_skip_g (some 35) rfl rfl ?_
  go_frame
  refine ls_skip_g (some 36) rfl rfl ?_
  go_frame
  refine ls_skip_g (some 37) rfl rfl ?_
  go_frame
  refine ls_skip_g (some 38) rfl rfl ?_
  go_frame
  refine ls_skip_g (some 39) rfl rfl ?_
  go_frame
  refine ls_ex (some 40) (.bool true) rfl rfl (exec_pick _ _ _ rfl true rfl (.bool true) rfl) ?_
  go_frame
  refine wpList_nil ?_
  go_upto_region 3 with (fail)
  refine wp_region_lit ?_
  refine ls_ex (some 41) (.agg #[.int .i64 0, .int .i64 0, .slice none 0 0, .slice none 0 0]) rfl rfl (exec_build_nil 33 rfl _ (by kernel_rfl)) ?_
  go_frame
  refine ls_op rfl (fun K' hK' => ?_)
  refine wp_store_all 33 _ _ rfl rfl w.heap.size rfl #[.int .i64 0, .int .i64 0, .slice none 0 0, .slice none 0 0] rfl _ _ hz5 4 (by kernel_rfl) rfl rfl (by intro x hx; simp at hx; rcases hx with rfl | rfl | rfl | rfl <;> rfl) (fun Wz29 pz30 => ?_)
  replace hB := pz30.below hB (by omega)
  replace hz11 := pz30.other hz11 (by omega)
  replace hz5 : At Wz29 w.heap.size (.cells #[.int .i64 0, .int .i64 0, .slice none 0 0, .slice none 0 0] 33 (0, 0)) := pz30.at_
  refine hK' _ _ ?_
  clear hK' K' pz30
  refine ls_ex (some 9) (.int .i64 2) rfl rfl (exec_assign _ rfl (.int .i64 2) rfl) ?_
  go_frame
  refine wpList_nil ?_
  go_wp2_with fail
  refine bodyPost_ret (results_at2 rfl _ _ w.heap.size _ _ _ rfl (.int .i64 2) rfl hz5 Try.underlying33 rfl 4 (by kernel_rfl) rfl) rfl ?_
  exact ⟨_, _, by rw [Hp.out, Hn.out, Hc.out], by rw [Hs.out]; exact OwnK.nil _ _ _ _, by rw [Ho.out]; exact OwnK.nil _ _ _ _, hB⟩
set_option maxHeartbeats 4000000 in
theorem programFor_d (p n : Int) (A : Option Addr) (c K : Nat) (row : Nat → List Int) (w : World) (hm : RdM w A K row) (hK : K ≤ 1048576) (hrl : ∀ i, i < K → (row i).length ≤ 1048576) (hp : primeB p = true) (h1 : 1 ≤ K ∧ K ≤ 30) (hn : (decide (1 ≤ n) && decide (n ≤ 30)) = true) (hmt : matB p (K : Int) n K row = false) :
    Calls Try.prog 39 #[.int .i64 p, .int .i64 n, .slice A K c, .bool false] w (ResG w (ppP p n K row) (ppN p n K row) (ppS p n K row) (ppO p n K row) (lsCode p n K row)) := by
  have hB := Below.refl w.heap.size w
  have hq : listsB p n K row = false := by (unfold listsB; rw [← matB_rows, hmt]; simp)
  have Hc : Hid (lsCode p n K row = 2) := Lib.hid (lsCode_no hq)
  have Hp : Hid (ppP p n K row = 0) := Lib.hid (by unfold ppP; rw [hq]; rfl)
  have Hn : Hid (ppN p n K row = 0) := Lib.hid (by unfold ppN; rw [hq]; rfl)
  have Hs : Hid (ppS p n K row = []) := Lib.hid (by unfold ppS; rw [hq]; rfl)
  have Ho : Hid (ppO p n K row = []) := Lib.hid (by unfold ppO; rw [hq]; rfl)
  have HP := Lib.hid hp
  have HN := Lib.hid hn
  have HMt := Lib.hid hmt
  have HKc : Hid ((decide (1 ≤ (K : Int)) && decide ((K : Int) ≤ 30)) = true) := Lib.hid (by rw [decide_eq_true (show (1 : Int) ≤ K by omega), decide_eq_true (show (K : Int) ≤ 30 by omega)]; rfl)
  clear hp hq hn hmt
  go_enter Try.func39, Try.ntmps39
  go_upto_region 0 with (fail)
  refine wp_region_lit ?_
  refine ls_op rfl (fun K' hK' => ?_)
  have lz1 := hB.size
  refine wp_new (some 8) rfl (al_impl_Program rfl) (fun Wz2 nnz3 => ?_)
  have bz4 := nnz3.below (Below.refl _ _) (Nat.le_refl _)
  replace hB := below_after hB bz4
  have hz5 : At Wz2 w.heap.size (.cells #[.int .i64 0, .int .i64 0, .slice none 0 0, .slice none 0 0] 33 (0, 0)) := nnz3.at_
  refine hK' _ _ ?_
  clear hK' K' nnz3 bz4
  go_frame
  refine ls_ex (some 9) (.int .i64 0) rfl rfl (exec_assign _ rfl (.int .i64 0) rfl) ?_
  go_frame
  refine wpList_nil ?_
  go_upto_region 1 with (fail)
  refine wp_region_lit ?_
  refine ls_ex (some 15) (.slice A K c) rfl rfl (exec_move _ rfl (.slice A K c) rfl) ?_
  go_frame
  refine ls_ex (some 16) (.int .i64 K) rfl rfl (exec_len _ 41 26 rfl A K c rfl Try.underlying41) ?_
  go_frame
  refine ls_ex (some 17) (.int .i64 n) rfl rfl (exec_move _ rfl (.int .i64 n) rfl) ?_
  go_frame
  refine ls_ex (some 18) (.agg #[.int .i64 K, .int .i64 n]) rfl rfl (pe_build_shp _ _ rfl (K : Int) n rfl rfl) ?_
  go_frame
  refine ls_op rfl (fun K' hK' => ?_)
  have lz6 := hB.size
  have lz7 := hz5.lt
  refine wp_new (some 10) rfl (al_impl_shape rfl) (fun Wz8 nnz9 => ?_)
  have bz10 := nnz9.below (Below.refl _ _) (Nat.le_refl _)
  replace hB := below_after hB bz10
  replace hz5 := hz5.after bz10
  have hz11 : At Wz8 Wz2.heap.size (.cells #[.int .i64 0, .int .i64 0] 89 (0, 0)) := nnz9.at_
  refine hK' _ _ ?_
  clear hK' K' nnz9 bz10
  go_frame
  refine ls_op rfl (fun K' hK' => ?_)
  refine wp_store_all 89 _ _ rfl rfl Wz2.heap.size rfl #[.int .i64 K, .int .i64 n] rfl _ _ hz11 2 (by kernel_rfl) rfl rfl (by intro x hx; simp at hx; rcases hx with rfl | rfl <;> rfl) (fun Wz12 pz13 => ?_)
  replace hB := pz13.below hB (by omega)
  replace hz5 := pz13.other hz5 (by omega)
  replace hz11 : At Wz12 Wz2.heap.size (.cells #[.int .i64 K, .int .i64 n] 89 (0, 0)) := pz13.at_
  refine hK' _ _ ?_
  clear hK' K' pz13
  refine wpList_nil ?_
  go_upto_region 2 with (fail)
  refine wp_region_lit ?_
  refine ls_ex (some 19) (.int .i64 p) rfl rfl (exec_move _ rfl (.int .i64 p) rfl) ?_
  go_frame
  refine ls_op rfl (fun K' hK' => ?_)
  have lz16 := hB.size
  have lz17 := hz5.lt
  have lz18 := hz11.lt
  refine wp_call1 (some 20) rfl 47 _ _ rfl (fun args w => by kernel_rfl) _ rfl _ (isPrime_c p _) (fun e Wz14 h => ?_)
  obtain ⟨rfl, rfl⟩ := h
  rw [HP.out]
  refine ⟨_, rfl, ?_⟩
  refine hK' _ _ ?_
  clear hK' K'
  go_frame
  refine ls_ex (some 21) (.bool false) rfl rfl (exec_not _ _ rfl true rfl) ?_
  go_frame
  refine ls_ex (some 22) (.bool false) rfl rfl (exec_move _ rfl (.bool false) rfl) ?_
  go_frame
  refine ls_ex_g (some 23) (.pointer (some ⟨Wz2.heap.size, 0, none⟩)) rfl rfl (exec_fieldAddr 89 _ 0 rfl _ (by kernel_rfl)) ?_
  go_frame
  refine ls_ex_g (some 24) (.int .i64 K) rfl rfl (exec_load_one 2 _ rfl Wz2.heap.size 0 rfl (.int .i64 K) _ Try.underlying2 rfl (hz11.at_ 0)) ?_
  go_frame
  refine ls_op_g rfl (fun K' hK' => ?_)
  have lz21 := hB.size
  have lz22 := hz5.lt
  have lz23 := hz11.lt
  refine wp_call1 (some 25) rfl 48 _ _ rfl (fun args w => by kernel_rfl) _ rfl _ (isInputCount_c (K : Int) _) (fun e Wz19 h => ?_)
  obtain ⟨rfl, rfl⟩ := h
  rw [HKc.out]
  refine ⟨_, rfl, ?_⟩
  refine hK' _ _ ?_
  clear hK' K'
  go_frame
  refine ls_ex_g (some 26) (.bool false) rfl rfl (exec_not _ _ rfl true rfl) ?_
  go_frame
  refine ls_ex (some 27) (.bool false) rfl rfl (exec_pick _ _ _ rfl false rfl (.bool false) rfl) ?_
  go_frame
  refine ls_ex (some 28) (.bool false) rfl rfl (exec_move _ rfl (.bool false) rfl) ?_
  go_frame
  refine ls_ex_g (some 29) (.pointer (some ⟨Wz2.heap.size, 1, none⟩)) rfl rfl (exec_fieldAddr 89 _ 1 rfl _ (by kernel_rfl)) ?_
  go_frame
  refine ls_ex_g (some 30) (.int .i64 n) rfl rfl (exec_load_one 2 _ rfl Wz2.heap.size 1 rfl (.int .i64 n) _ Try.underlying2 rfl (hz11.at_ 1)) ?_
  go_frame
  refine ls_op_g rfl (fun K' hK' => ?_)
  have lz26 := hB.size
  have lz27 := hz5.lt
  have lz28 := hz11.lt
  refine wp_call1 (some 31) rfl 48 _ _ rfl (fun args w => by kernel_rfl) _ rfl _ (isInputCount_c n _) (fun e Wz24 h => ?_)
  obtain ⟨rfl, rfl⟩ := h
  rw [HN.out]
  refine ⟨_, rfl, ?_⟩
  refine hK' _ _ ?_
  clear hK' K'
  go_frame
  refine ls_ex_g (some 32) (.bool false) rfl rfl (exec_not _ _ rfl true rfl) ?_
  go_frame
  refine ls_ex (some 33) (.bool false) rfl rfl (exec_pick _ _ _ rfl false rfl (.bool false) rfl) ?_
  go_frame
  refine ls_ex (some 34) (.bool false) rfl rfl (exec_move _ rfl (.bool false) rfl) ?_
  go_frame
  refine ls_ex_g (some 35) (.int .i64 p) rfl rfl (exec_move _ rfl (.int .i64 p) rfl) ?_
  go_frame
  refine ls_ex_g (some 36) (.agg #[.int .i64 K, .int .i64 n]) rfl rfl (exec_load_all 89 _ rfl Wz2.heap.size rfl _ _ _ hz11 Try.underlying89 rfl 2 (by kernel_rfl) rfl) ?_
  go_frame
  refine ls_ex_g (some 37) (.slice A K c) rfl rfl (exec_move _ rfl (.slice A K c) rfl) ?_
  go_frame
  refine ls_op_g rfl (fun K' hK' => ?_)
  have lz31 := hB.size
  have lz32 := hz5.lt
  have lz33 := hz11.lt
  refine wp_call3 (some 38) rfl 61 _ _ _ _ rfl (fun args w => by kernel_rfl) _ _ _ rfl rfl rfl _ (isMatrix_c p (K : Int) n A c K row _ (hm.keep hB) hK hrl) (fun e Wz29 h => ?_)
  obtain ⟨rfl, bz30⟩ := h
  replace hB := below_after hB bz30
  replace hz5 := hz5.after bz30
  replace hz11 := hz11.after bz30
  rw [HMt.out]
  clear bz30
  refine ⟨_, rfl, ?_⟩
  refine hK' _ _ ?_
  clear hK' K'
  go_frame
  refine ls_ex_g (some 39) (.bool true) rfl rfl (exec_not _ _ rfl false rfl) ?_
  go_frame
  refine ls_ex (some 40) (.bool true) rfl rfl (exec_pick _ _ _ rfl false rfl (.bool true) rfl) ?_
  go_frame
  refine wpList_nil ?_
  go_upto_region 3 with (fail)
  refine wp_region_lit ?_
  refine ls_ex (some 41) (.agg #[.int .i64 0, .int .i64 0, .slice none 0 0, .slice none 0 0]) rfl rfl (exec_build_nil 33 rfl _ (by kernel_rfl)) ?_
  go_frame
  refine ls_op rfl (fun K' hK' => ?_)
  refine wp_store_all 33 _ _ rfl rfl w.heap.size rfl #[.int .i64 0, .int .i64 0, .slice none 0 0, .slice none 0 0] rfl _ _ hz5 4 (by kernel_rfl) rfl rfl (by intro x hx; simp at hx; rcases hx with rfl | rfl | rfl | rfl <;> rfl) (fun Wz34 pz35 => ?_)
  replace hB := pz35.below hB (by omega)
  replace hz11 := pz35.other hz11 (by omega)
  replace hz5 : At Wz34 w.heap.size (.cells #[.int .i64 0, .int .i64 0, .slice none 0 0, .slice none 0 0] 33 (0, 0)) := pz35.at_
  refine hK' _ _ ?_
  clear hK' K' pz35
  refine ls_ex (some 9) (.int .i64 2) rfl rfl (exec_assign _ rfl (.int .i64 2) rfl) ?_
  go_frame
  refine wpList_nil ?_
  go_wp2_with fail
  refine bodyPost_ret (results_at2 rfl _ _ w.heap.size _ _ _ rfl (.int .i64 2) rfl hz5 Try.underlying33 rfl 4 (by kernel_rfl) rfl) rfl ?_
  exact ⟨_, _, by rw [Hp.out, Hn.out, Hc.out], by rw [Hs.out]; exact OwnK.nil _ _ _ _, by rw [Ho.out]; exact OwnK.nil _ _ _ _, hB⟩
set_option maxHeartbeats 25600000 in
theorem programFor_e (p : Int) (N : Nat) (A : Option Addr) (c K : Nat) (row : Nat → List Int) (w : World) (hm : RdM w A K row) (hK : K ≤ 1048576) (hrl : ∀ i, i < K → (row i).length ≤ 1048576) (hp : primeB p = true) (h1 : 1 ≤ K ∧ K ≤ 30) (hn : (decide (1 ≤ (N : Int)) && decide ((N : Int) ≤ 30)) = true) (hmt : matB p (K : Int) (N : Int) K row = true) :
    Calls Try.prog 39 #[.int .i64 p, .int .i64 (N : Int), .slice A K c, .bool false] w (ResG w (ppP p (N : Int) K row) (ppN p (N : Int) K row) (ppS p (N : Int) K row) (ppO p (N : Int) K row) (lsCode p (N : Int) K row)) := by
  have hB := Below.refl w.heap.size w
  have hq : listsB p (N : Int) K row = true := by (unfold listsB; rw [← matB_rows, hmt, hp, hn, decide_eq_true h1.1, decide_eq_true h1.2]; rfl)
  have Hc : Hid (lsCode p (N : Int) K row = 0) := Lib.hid (lsCode_yes hq)
  have Hp : Hid (ppP p (N : Int) K row = p) := Lib.hid (by unfold ppP; rw [hq]; rfl)
  have Hn : Hid (ppN p (N : Int) K row = (N : Int)) := Lib.hid (by unfold ppN; rw [hq]; rfl)
  have Hs : Hid (ppS p (N : Int) K row = (plSt p N row K).1) := Lib.hid (by unfold ppS; rw [hq]; rfl)
  have Ho : Hid (ppO p (N : Int) K row = (plSt p N row K).2) := Lib.hid (by unfold ppO; rw [hq]; rfl)
  have HP := Lib.hid hp
  have HN := Lib.hid hn
  have HMt := Lib.hid hmt
  have HKc : Hid ((decide (1 ≤ (K : Int)) && decide ((K : Int) ≤ 30)) = true) := Lib.hid (by rw [decide_eq_true (show (1 : Int) ≤ K by omega), decide_eq_true (show (K : Int) ≤ 30 by omega)]; rfl)
  have hll := listsB_parts hq
  have hp5 := primeB_bounds hp
  have HPr := Lib.hid hp
  have hn9 := hll.2.1
  have HRow := Lib.hid hll.2.2.2
  have HM := Lib.hid hm
  clear hll hp hn hmt hq
  go_enter Try.func39, Try.ntmps39
  go_upto_region 0 with (fail)
  refine wp_region_lit ?_
  refine ls_op rfl (fun K' hK' => ?_)
  have lz1 := hB.size
  refine wp_new (some 8) rfl (al_impl_Program rfl) (fun Wz2 nnz3 => ?_)
  have bz4 := nnz3.below (Below.refl _ _) (Nat.le_refl _)
  replace hB := below_after hB bz4
  have hz5 : At Wz2 w.heap.size (.cells #[.int .i64 0, .int .i64 0, .slice none 0 0, .slice none 0 0] 33 (0, 0)) := nnz3.at_
  refine hK' _ _ ?_
  clear hK' K' nnz3 bz4
  go_frame
  refine ls_ex (some 9) (.int .i64 0) rfl rfl (exec_assign _ rfl (.int .i64 0) rfl) ?_
  go_frame
  refine wpList_nil ?_
  go_upto_region 1 with (fail)
  refine wp_region_lit ?_
  refine ls_ex (some 15) (.slice A K c) rfl rfl (exec_move _ rfl (.slice A K c) rfl) ?_
  go_frame
  refine ls_ex (some 16) (.int .i64 K) rfl rfl (exec_len _ 41 26 rfl A K c rfl Try.underlying41) ?_
  go_frame
  refine ls_ex (some 17) (.int .i64 (N : Int)) rfl rfl (exec_move _ rfl (.int .i64 (N : Int)) rfl) ?_
  go_frame
  refine ls_ex (some 18) (.agg #[.int .i64 K, .int .i64 (N : Int)]) rfl rfl (pe_build_shp _ _ rfl (K : Int) (N : Int) rfl rfl) ?_
  go_frame
  refine ls_op rfl (fun K' hK' => ?_)
  have lz6 := hB.size
  have lz7 := hz5.lt
  refine wp_new (some 10) rfl (al_impl_shape rfl) (fun Wz8 nnz9 => ?_)
  have bz10 := nnz9.below (Below.refl _ _) (Nat.le_refl _)
  replace hB := below_after hB bz10
  replace hz5 := hz5.after bz10
  have hz11 : At Wz8 Wz2.heap.size (.cells #[.int .i64 0, .int .i64 0] 89 (0, 0)) := nnz9.at_
  refine hK' _ _ ?_
  clear hK' K' nnz9 bz10
  go_frame
  refine ls_op rfl (fun K' hK' => ?_)
  refine wp_store_all 89 _ _ rfl rfl Wz2.heap.size rfl #[.int .i64 K, .int .i64 (N : Int)] rfl _ _ hz11 2 (by kernel_rfl) rfl rfl (by intro x hx; simp at hx; rcases hx with rfl | rfl <;> rfl) (fun Wz12 pz13 => ?_)
  replace hB := pz13.below hB (by omega)
  replace hz5 := pz13.other hz5 (by omega)
  replace hz11 : At Wz12 Wz2.heap.size (.cells #[.int .i64 K, .int .i64 (N : Int)] 89 (0, 0)) := pz13.at_
  refine hK' _ _ ?_
  clear hK' K' pz13
  refine wpList_nil ?_
  go_upto_region 2 with (fail)
  refine wp_region_lit ?_
  refine ls_ex (some 19) (.int .i64 p) rfl rfl (exec_move _ rfl (.int .i64 p) rfl) ?_
  go_frame
  refine ls_op rfl (fun K' hK' => ?_)
  have lz16 := hB.size
  have lz17 := hz5.lt
  have lz18 := hz11.lt
  refine wp_call1 (some 20) rfl 47 _ _ rfl (fun args w => by kernel_rfl) _ rfl _ (isPrime_c p _) (fun e Wz14 h => ?_)
  obtain ⟨rfl, rfl⟩ := h
  rw [HP.out]
  refine ⟨_, rfl, ?_⟩
  refine hK' _ _ ?_
  clear hK' K'
  go_frame
  refine ls_ex (some 21) (.bool false) rfl rfl (exec_not _ _ rfl true rfl) ?_
  go_frame
  refine ls_ex (some 22) (.bool false) rfl rfl (exec_move _ rfl (.bool false) rfl) ?_
  go_frame
  refine ls_ex_g (some 23) (.pointer (some ⟨Wz2.heap.size, 0, none⟩)) rfl rfl (exec_fieldAddr 89 _ 0 rfl _ (by kernel_rfl)) ?_
  go_frame
  refine ls_ex_g (some 24) (.int .i64 K) rfl rfl (exec_load_one 2 _ rfl Wz2.heap.size 0 rfl (.int .i64 K) _ Try.underlying2 rfl (hz11.at_ 0)) ?_
  go_frame
  refine ls_op_g rfl (fun K' hK' => ?_)
  have lz21 := hB.size
  have lz22 := hz5.lt
  have lz23 := hz11.lt
  refine wp_call1 (some 25) rfl 48 _ _ rfl (fun args w => by kernel_rfl) _ rfl _ (isInputCount_c (K : Int) _) (fun e Wz19 h => ?_)
  obtain ⟨rfl, rfl⟩ := h
  rw [HKc.out]
  refine ⟨_, rfl, ?_⟩
  refine hK' _ _ ?_
  clear hK' K'
  go_frame
  refine ls_ex_g (some 26) (.bool false) rfl rfl (exec_not _ _ rfl true rfl) ?_
  go_frame
  refine ls_ex (some 27) (.bool false) rfl rfl (exec_pick _ _ _ rfl false rfl (.bool false) rfl) ?_
  go_frame
  refine ls_ex (some 28) (.bool false) rfl rfl (exec_move _ rfl (.bool false) rfl) ?_
  go_frame
  refine ls_ex_g (some 29) (.pointer (some ⟨Wz2.heap.size, 1, none⟩)) rfl rfl (exec_fieldAddr 89 _ 1 rfl _ (by kernel_rfl)) ?_
  go_frame
  refine ls_ex_g (some 30) (.int .i64 (N : Int)) rfl rfl (exec_load_one 2 _ rfl Wz2.heap.size 1 rfl (.int .i64 (N : Int)) _ Try.underlying2 rfl (hz11.at_ 1)) ?_
  go_frame
  refine ls_op_g rfl (fun K' hK' => ?_)
  have lz26 := hB.size
  have lz27 := hz5.lt
  have lz28 := hz11.lt
  refine wp_call1 (some 31) rfl 48 _ _ rfl (fun args w => by kernel_rfl) _ rfl _ (isInputCount_c (N : Int) _) (fun e Wz24 h => ?_)
  obtain ⟨rfl, rfl⟩ := h
  rw [HN.out]
  refine ⟨_, rfl, ?_⟩
  refine hK' _ _ ?_
  clear hK' K'
  go_frame
  refine ls_ex_g (some 32) (.bool false) rfl rfl (exec_not _ _ rfl true rfl) ?_
  go_frame
  refine ls_ex (some 33) (.bool false) rfl rfl (exec_pick _ _ _ rfl false rfl (.bool false) rfl) ?_
  go_frame
  refine ls_ex (some 34) (.bool false) rfl rfl (exec_move _ rfl (.bool false) rfl) ?_
  go_frame
  refine ls_ex_g (some 35) (.int .i64 p) rfl rfl (exec_move _ rfl (.int .i64 p) rfl) ?_
  go_frame
  refine ls_ex_g (some 36) (.agg #[.int .i64 K, .int .i64 (N : Int)]) rfl rfl (exec_load_all 89 _ rfl Wz2.heap.size rfl _ _ _ hz11 Try.underlying89 rfl 2 (by kernel_rfl) rfl) ?_
  go_frame
  refine ls_ex_g (some 37) (.slice A K c) rfl rfl (exec_move _ rfl (.slice A K c) rfl) ?_
  go_frame
  refine ls_op_g rfl (fun K' hK' => ?_)
  have lz31 := hB.size
  have lz32 := hz5.lt
  have lz33 := hz11.lt
  refine wp_call3 (some 38) rfl 61 _ _ _ _ rfl (fun args w => by kernel_rfl) _ _ _ rfl rfl rfl _ (isMatrix_c p (K : Int) (N : Int) A c K row _ (hm.keep hB) hK hrl) (fun e Wz29 h => ?_)
  obtain ⟨rfl, bz30⟩ := h
  replace hB := below_after hB bz30
  replace hz5 := hz5.after bz30
  replace hz11 := hz11.after bz30
  rw [HMt.out]
  clear bz30
  refine ⟨_, rfl, ?_⟩
  refine hK' _ _ ?_
  clear hK' K'
  go_frame
  refine ls_ex_g (some 39) (.bool false) rfl rfl (exec_not _ _ rfl true rfl) ?_
  go_frame
  refine ls_ex (some 40) (.bool false) rfl rfl (exec_pick _ _ _ rfl false rfl (.bool false) rfl) ?_
  go_frame
  refine wpList_nil ?_
  go_upto_region 4 with (fail)
  refine wp_region_lit ?_
  refine ls_ex (some 42) (.int .i64 p) rfl rfl (exec_move _ rfl (.int .i64 p) rfl) ?_
  go_frame
  refine ls_ex (some 43) (.int .i64 (N : Int)) rfl rfl (exec_move _ rfl (.int .i64 (N : Int)) rfl) ?_
  go_frame
  refine ls_ex (some 44) (.agg #[.int .i64 p, .int .i64 (N : Int), .slice none 0 0, .slice none 0 0]) rfl rfl (exec_build_prog2 _ _ rfl p (N : Int) rfl rfl) ?_
  go_frame
  refine ls_op rfl (fun K' hK' => ?_)
  have lz34 := hB.size
  have lz35 := hz5.lt
  have lz36 := hz11.lt
  refine wp_new (some 11) rfl (al_impl_Program rfl) (fun Wz37 nnz38 => ?_)
  have bz39 := nnz38.below (Below.refl _ _) (Nat.le_refl _)
  replace hB := below_after hB bz39
  replace hz5 := hz5.after bz39
  replace hz11 := hz11.after bz39
  have hz40 : At Wz37 Wz29.heap.size (.cells #[.int .i64 0, .int .i64 0, .slice none 0 0, .slice none 0 0] 33 (0, 0)) := nnz38.at_
  refine hK' _ _ ?_
  clear hK' K' nnz38 bz39
  go_frame
  refine ls_op rfl (fun K' hK' => ?_)
  refine wp_store_all 33 _ _ rfl rfl Wz29.heap.size rfl #[.int .i64 p, .int .i64 (N : Int), .slice none 0 0, .slice none 0 0] rfl _ _ hz40 4 (by kernel_rfl) rfl rfl (by intro x hx; simp at hx; rcases hx with rfl | rfl | rfl | rfl <;> rfl) (fun Wz41 pz42 => ?_)
  replace hB := pz42.below hB (by omega)
  replace hz5 := pz42.other hz5 (by omega)
  replace hz11 := pz42.other hz11 (by omega)
  replace hz40 : At Wz41 Wz29.heap.size (.cells #[.int .i64 p, .int .i64 (N : Int), .slice none 0 0, .slice none 0 0] 33 (0, 0)) := pz42.at_
  refine hK' _ _ ?_
  clear hK' K' pz42
  refine wpList_nil ?_
  go_upto_region 5 with (fail)
  refine wp_region_lit ?_
  refine ls_ex (some 45) (.bool false) rfl rfl (exec_move _ rfl (.bool false) rfl) ?_
  go_frame
  refine wpList_nil ?_
  go_upto_region 9 with (fail)
  refine wp_region_lit ?_
  refine ls_ex (some 57) (.slice A K c) rfl rfl (exec_move _ rfl (.slice A K c) rfl) ?_
  go_frame
  refine ls_ex (some 58) (.int .i64 K) rfl rfl (exec_len _ 41 26 rfl A K c rfl Try.underlying41) ?_
  go_frame
  refine ls_ex (some 59) (.int .i64 0) rfl rfl (exec_move _ rfl (.int .i64 0) rfl) ?_
  go_frame
  refine wpList_nil ?_
  go_wp2_with fail
  go_loopw [59] (fun s59 wr => ∃ (i : Nat) (vv uu : Value), i ≤ K ∧ s59 = .int .i64 i ∧ Below w.heap.size w wr ∧ At wr w.heap.size (.cells #[.int .i64 0, .int .i64 0, .slice none 0 0, .slice none 0 0] 33 (0, 0)) ∧ At wr Wz29.heap.size (.cells #[.int .i64 p, .int .i64 (N : Int), vv, uu] 33 (0, 0)) ∧ OwnK 66 3 wr Wz29.heap.size vv (plSt p N row i).1 ∧ OwnK 68 2 wr Wz29.heap.size uu (plSt p N row i).2) (fun s59 _ => K - (intOf s59).toNat)
  case atStart => exact ⟨0, _, _, by omega, rfl, hB, hz5, hz40, OwnK.nil _ _ _ _, OwnK.nil _ _ _ _⟩
  case round =>
    clear hB hz5 hz11 hz40
    obtain ⟨i, vv, uu, hi, rfl, hB, hR, hg, hv, hu⟩ := hrel
    by_cases hlt : i < K
    · obtain ⟨b, off, bx, offx, cx, rfl, hc, hI⟩ := rdM_row HM.out hlt (HRow.out i hlt).1 (by omega)
      have Hc := Lib.hid hc
      have HI := Lib.hid hI
      have hpl := plSt_len p N row i
      have hpo := plSt_len2 p N row i
      have hiN : i * N ≤ 30 * 30 := Nat.mul_le_mul (by omega) (by omega)
      have HRl9 := (HRow.out i hlt).1
      have HRN := Lib.hid (HRow.out i hlt).2
      clear hc hI
      have HPS : Hid ((plSt p N row (i + 1)) = ((rowSt p N (row i) (plSt p N row i).1 N).ss, (plSt p N row i).2 ++ [[(rowSt p N (row i) (plSt p N row i).1 N).v, (rowSt p N (row i) (plSt p N row i).1 N).f]])) := Lib.hid rfl
      go_upto_region 10 with (fail)
      refine wp_region_lit ?_
      refine ls_ex (some 60) (.bool true) rfl rfl (exec_lss _ _ _ _ rfl i K rfl rfl true (decide_eq_true (by omega))) ?_
      go_frame
      refine wpList_nil ?_
      go_upto_region 11 with (fail)
      refine wp_region_lit ?_
      refine ls_ex (some 61) (.pointer (some ⟨b, off + i * 1, none⟩)) rfl rfl (exec_index_slice _ 26 _ _ rfl b off K c i 1 rfl rfl Try.underlying41 (by kernel_rfl) (by omega)) ?_
      go_frame
      refine ls_ex (some 62) (.slice (some ⟨bx, offx, none⟩) N cx) rfl rfl (exec_load_one 26 _ rfl b (off + i * 1) rfl (.slice (some ⟨bx, offx, none⟩) N cx) _ Try.underlying26 rfl (by rw [Nat.mul_one]; exact cell_keepB hB Hc.out)) ?_
      go_frame
      refine ls_ex (some 14) (.slice (some ⟨bx, offx, none⟩) N cx) rfl rfl (exec_assign _ rfl (.slice (some ⟨bx, offx, none⟩) N cx) rfl) ?_
      go_frame
      refine wpList_nil ?_
      go_upto_region 12 with (fail)
      refine wp_region_lit ?_
      refine ls_ex (some 63) (.slice (some ⟨bx, offx, none⟩) N cx) rfl rfl (exec_move _ rfl (.slice (some ⟨bx, offx, none⟩) N cx) rfl) ?_
      go_frame
      refine ls_op rfl (fun K' hK' => ?_)
      have lz44 := hB.size
      have lz45 := hR.lt
      have lz46 := hg.lt
      refine wp_call2 (some 64) rfl 65 _ _ _ rfl (fun args w => by kernel_rfl) _ _ rfl rfl _ (by have h9 := addRow_c p N Wz29.heap.size Wz29.heap.size vv uu (plSt p N row i).1 (plSt p N row i).2 bx offx cx (row i) _ hv hu hg (Nat.le_refl _) (fun w' hb => HI.out.keep (hB.trans (below_mono hb (by omega)))) HPr.out (by omega) (by omega) (by omega) (by omega) HRN.out; rw [HRl9] at h9; exact h9) (fun e Wz43 h => ?_)
      obtain ⟨r9, v2, u2, rfl, hg2, hv2, hu2, hL2, hF2⟩ := h
      replace hB := hB.trans (below_mono hL2 (by omega))
      replace hR := hF2 _ _ _ hR (by omega) (by decide) (by decide)
      replace hg := hg2
      replace hv := hv2
      replace hu := hu2
      clear hL2 hF2 hv2 hu2 hg2
      refine ⟨_, rfl, ?_⟩
      refine hK' _ _ ?_
      clear hK' K'
      go_frame
      refine wpList_nil ?_
      go_upto_region 13 with (fail)
      refine wp_region_lit ?_
      refine ls_ex (some 65) (.int .i64 (i + 1)) rfl rfl (exec_add _ _ _ _ rfl i 1 (i + 1) rfl rfl (IntWalk.i64_in _ (by omega))) ?_
      go_frame
      refine ls_ex (some 59) (.int .i64 (i + 1)) rfl rfl (exec_move _ rfl (.int .i64 (i + 1)) rfl) ?_
      go_frame
      refine wpList_nil ?_
      go_wp2_with fail
      go_roundw
      case rel => exact ⟨i + 1, _, _, by omega, by go_num, hB, hR, hg, by rw [HPS.out]; exact hv, by rw [HPS.out]; exact hu⟩
      case measure => simp [intOf]; omega
    · have hiK : i = K := by omega
      rw [hiK] at hv hu
      clear hiK
      obtain ⟨n7, hn71, hn72⟩ : ∃ n7, n7 ≤ (plSt p N row K).1.length ∧ (plSt p N row K).1.length ≤ n7 := ⟨_, Nat.le_refl _, Nat.le_refl _⟩
      obtain ⟨An7, cn7, rfl⟩ := OwnK.rdN hv (n := n7) (by omega)
      obtain ⟨An8, cn8, rfl⟩ := OwnK.rdN hu (n := K) (plSt_len2 p N row K)
      go_upto_region 10 with (fail)
      refine wp_region_lit ?_
      refine ls_ex (some 60) (.bool false) rfl rfl (exec_lss _ _ _ _ rfl i K rfl rfl false (decide_eq_false (by omega))) ?_
      go_frame
      refine wpList_nil ?_
      go_upto_region 14 with (fail)
      refine wp_region_lit ?_
      refine ls_ex (some 66) (.agg #[.int .i64 p, .int .i64 (N : Int), .slice An7 n7 cn7, .slice An8 K cn8]) rfl rfl (exec_load_all 33 _ rfl Wz29.heap.size rfl _ _ _ hg Try.underlying33 rfl 4 (by kernel_rfl) rfl) ?_
      go_frame
      refine ls_op rfl (fun K' hK' => ?_)
      refine wp_store_all 33 _ _ rfl rfl w.heap.size rfl #[.int .i64 p, .int .i64 (N : Int), .slice An7 n7 cn7, .slice An8 K cn8] rfl _ _ hR 4 (by kernel_rfl) rfl rfl (by intro x hx; simp at hx; rcases hx with rfl | rfl | rfl | rfl <;> rfl) (fun Wz47 pz48 => ?_)
      replace hB := pz48.below hB (by omega)
      replace hg := pz48.other hg (by omega)
      replace hv := hv.put pz48 (hv.off hR (by decide))
      replace hu := hu.put pz48 (hu.off hR (by decide))
      replace hR : At Wz47 w.heap.size (.cells #[.int .i64 p, .int .i64 (N : Int), .slice An7 n7 cn7, .slice An8 K cn8] 33 (0, 0)) := pz48.at_
      refine hK' _ _ ?_
      clear hK' K' pz48
      refine ls_ex (some 9) (.int .i64 0) rfl rfl (exec_assign _ rfl (.int .i64 0) rfl) ?_
      go_frame
      refine wpList_nil ?_
      go_wp2_with fail
      refine bodyPost_ret (results_at2 rfl _ _ w.heap.size _ _ _ rfl (.int .i64 0) rfl hR Try.underlying33 rfl 4 (by kernel_rfl) rfl) rfl ?_
      exact ⟨_, _, by rw [Hp.out, Hn.out, Hc.out], by rw [Hs.out]; exact hv.mono (by omega), by rw [Ho.out]; exact hu.mono (by omega), hB⟩
theorem programFor_c (p n : Int) (A : Option Addr) (c K : Nat) (row : Nat → List Int) (w : World) (hm : RdM w A K row) (hK : K ≤ 1048576) (hrl : ∀ i, i < K → (row i).length ≤ 1048576) : Calls Try.prog 39 #[.int .i64 p, .int .i64 n, .slice A K c, .bool false] w (ResG w (ppP p n K row) (ppN p n K row) (ppS p n K row) (ppO p n K row) (lsCode p n K row)) := by
  cases hp : primeB p with
  | false => exact programFor_a p n A c K row w hm hK hrl hp
  | true =>
    by_cases h1 : 1 ≤ K ∧ K ≤ 30
    · cases hn : (decide (1 ≤ n) && decide (n ≤ 30)) with
      | false => exact programFor_c_ p n A c K row w hm hK hrl hp h1 hn
      | true =>
        cases hmt : matB p (K : Int) n K row with
        | false => exact programFor_d p n A c K row w hm hK hrl hp h1 hn hmt
        | true =>
          obtain ⟨N, rfl⟩ := Int.eq_ofNat_of_zero_le (show 0 ≤ n by simp only [Bool.and_eq_true, decide_eq_true_eq] at hn; omega)
          exact programFor_e p N A c K row w hm hK hrl hp h1 hn hmt
    · exact programFor_b p n A c K row w hm hK hrl hp h1
set_option maxHeartbeats 4000000 in
theorem implPlainProgram_c (p n : Int) (A : Option Addr) (c K : Nat) (row : Nat → List Int) (w : World) (hm : RdM w A K row) (hK : K ≤ 1048576) (hrl : ∀ i, i < K → (row i).length ≤ 1048576) :
    Calls Try.prog 18 #[.int .i64 p, .int .i64 n, .slice A K c] w (ResG w (ppP p n K row) (ppN p n K row) (ppS p n K row) (ppO p n K row) (lsCode p n K row)) := by
  have hB := Below.refl w.heap.size w
  skip
  go_enter Try.func18, Try.ntmps18
  go_upto_region 0 with (fail)
  refine wp_region_lit ?_
  refine ls_op rfl (fun K' hK' => ?_)
  have lz1 := hB.size
  refine wp_new (some 6) rfl (al_impl_Program rfl) (fun Wz2 nnz3 => ?_)
  have bz4 := nnz3.below (Below.refl _ _) (Nat.le_refl _)
  replace hB := below_after hB bz4
  have hz5 : At Wz2 w.heap.size (.cells #[.int .i64 0, .int .i64 0, .slice none 0 0, .slice none 0 0] 33 (0, 0)) := nnz3.at_
  refine hK' _ _ ?_
  clear hK' K' nnz3 bz4
  go_frame
  refine ls_ex (some 7) (.int .i64 0) rfl rfl (exec_assign _ rfl (.int .i64 0) rfl) ?_
  go_frame
  refine wpList_nil ?_
  go_upto_region 1 with (fail)
  refine wp_region_lit ?_
  refine ls_ex (some 8) (.int .i64 p) rfl rfl (exec_move _ rfl (.int .i64 p) rfl) ?_
  go_frame
  refine ls_ex (some 9) (.int .i64 n) rfl rfl (exec_move _ rfl (.int .i64 n) rfl) ?_
  go_frame
  refine ls_ex (some 10) (.slice A K c) rfl rfl (exec_move _ rfl (.slice A K c) rfl) ?_
  go_frame
  refine ls_op rfl (fun K' hK' => ?_)
  have lz8 := hB.size
  have lz9 := hz5.lt
  refine wp_call4 (some 11) rfl 39 _ _ _ _ _ rfl (fun args w => by kernel_rfl) _ _ _ _ rfl rfl rfl rfl _ (programFor_c p n A c K row _ (hm.keep hB) hK hrl) (fun e Wz6 h => ?_)
  obtain ⟨v, u, rfl, hv, hu, bz7⟩ := h
  replace hB := below_after hB bz7
  replace hz5 := hz5.after bz7
  obtain ⟨n7, hn7⟩ : ∃ n7, (ppS p n K row).length = n7 := ⟨_, rfl⟩
  obtain ⟨n8, hn8⟩ : ∃ n8, (ppO p n K row).length = n8 := ⟨_, rfl⟩
  obtain ⟨An7, cn7, rfl⟩ := OwnK.rdN hv hn7
  obtain ⟨An8, cn8, rfl⟩ := OwnK.rdN hu hn8
  clear hn7 hn8
  clear bz7
  refine ⟨_, rfl, ?_⟩
  refine hK' _ _ ?_
  clear hK' K'
  go_frame
  refine ls_ex (some 12) (.agg #[.int .i64 (ppP p n K row), .int .i64 (ppN p n K row), .slice An7 n7 cn7, .slice An8 n8 cn8]) rfl rfl (exec_extract _ 0 rfl #[.agg #[.int .i64 (ppP p n K row), .int .i64 (ppN p n K row), .slice An7 n7 cn7, .slice An8 n8 cn8], .int .i64 (lsCode p n K row)] (by rfl) _ rfl) ?_
  go_frame
  refine ls_ex (some 13) (.int .i64 (lsCode p n K row)) rfl rfl (exec_extract _ 1 rfl #[.agg #[.int .i64 (ppP p n K row), .int .i64 (ppN p n K row), .slice An7 n7 cn7, .slice An8 n8 cn8], .int .i64 (lsCode p n K row)] (by rfl) _ rfl) ?_
  go_frame
  refine ls_op rfl (fun K' hK' => ?_)
  refine wp_store_all 33 _ _ rfl rfl w.heap.size rfl #[.int .i64 (ppP p n K row), .int .i64 (ppN p n K row), .slice An7 n7 cn7, .slice An8 n8 cn8] rfl _ _ hz5 4 (by kernel_rfl) rfl rfl (by intro x hx; simp at hx; rcases hx with rfl | rfl | rfl | rfl <;> rfl) (fun Wz10 pz11 => ?_)
  replace hB := pz11.below hB (by omega)
  replace hv := hv.put pz11 (hv.off hz5 (by decide))
  replace hu := hu.put pz11 (hu.off hz5 (by decide))
  replace hz5 : At Wz10 w.heap.size (.cells #[.int .i64 (ppP p n K row), .int .i64 (ppN p n K row), .slice An7 n7 cn7, .slice An8 n8 cn8] 33 (0, 0)) := pz11.at_
  refine hK' _ _ ?_
  clear hK' K' pz11
  refine ls_ex (some 7) (.int .i64 (lsCode p n K row)) rfl rfl (exec_assign _ rfl (.int .i64 (lsCode p n K row)) rfl) ?_
  go_frame
  refine wpList_nil ?_
  go_wp2_with fail
  refine bodyPost_ret (results_at2 rfl _ _ w.heap.size _ _ _ rfl (.int .i64 (lsCode p n K row)) rfl hz5 Try.underlying33 rfl 4 (by kernel_rfl) rfl) rfl ?_
  exact ⟨_, _, rfl, hv.mono (by omega), hu.mono (by omega), hB⟩
theorem specPlainProgram_c (p n : Int) (A : Option Addr) (c K : Nat) (row : Nat → List Int) (w : World) (hm : RdM w A K row) (hK : K ≤ 1048576) (hrl : ∀ i, i < K → (row i).length ≤ 1048576) : Calls Try.prog 16 #[.int .i64 p, .int .i64 n, .slice A K c] w (ResG w (ppP p n K row) (ppN p n K row) (ppS p n K row) (ppO p n K row) (lsCode p n K row)) := by
  cases hq : listsB p n K row with
  | false => exact specPlain_n p n A c K row w hm hK hrl hq
  | true =>
    have hn : 0 ≤ n := by
      simp only [listsB, Bool.and_eq_true, decide_eq_true_eq] at hq
      omega
    obtain ⟨N, rfl⟩ := Int.eq_ofNat_of_zero_le hn
    exact specPlain_y p N A c K row w hm hK hrl hq
theorem pp_small (p n : Int) (K : Nat) (row : Nat → List Int) : (ppS p n K row).length ≤ 1048576 ∧ (ppO p n K row).length ≤ 1048576 := by
  unfold ppS ppO
  cases hq : listsB p n K row with
  | false => simp
  | true =>
    have hn : 0 ≤ n := by
      have h9 := hq
      simp only [listsB, Bool.and_eq_true, decide_eq_true_eq] at h9
      omega
    obtain ⟨N, rfl⟩ := Int.eq_ofNat_of_zero_le hn
    have hll := listsB_parts hq
    have h1 := plSt_len p N row K
    have h2 := plSt_len2 p N row K
    have h3 : K * N ≤ 30 * 30 := Nat.mul_le_mul (by omega) (by omega)
    simp only [if_true, Int.toNat_natCast]
    omega
end Go.Proofs.Ytoaibfbamecdlaa
