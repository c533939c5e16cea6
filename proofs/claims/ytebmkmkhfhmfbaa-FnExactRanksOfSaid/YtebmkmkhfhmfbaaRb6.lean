/-
  impl.RanksOf. (Made by mkrb6.py.)
-/
import Derived.Test.YtebmkmkhfhmfbaaRb5
import Derived.Test.YtebmkmkhfhmfbaaRbK
import Derived.Test.YtebmkmkhfhmfbaaRb4
import Derived.Test.YtebmkmkhfhmfbaaImplIs
import Derived.Test.YtebmkmkhfhmfbaaSizes
import Derived.Test.YtebmkmkhfhmfbaaPln2
import Derived.Test.YtebmkmkhfhmfbaaRowB
namespace Go.Proofs.Ytebmkmkhfhmfbaa
open Go.RowKit
set_option maxRecDepth 100000
attribute [local irreducible] wpList
theorem implIsSchemeN_c (p n m k : Int) (A : Option Addr) (c N : Nat) (qs : List (List Nat)) (w : World) (hN : qs.length = N) (hr : Rd w A qs) (hl : N ≤ 1048576) :
    Calls Try.prog 22 #[.agg #[.int .i64 p, .int .i64 n, .int .i64 m, .int .i64 k, .slice A N c]] w fun e w' => e = .returned (.bool (schemeB p n m k qs)) ∧ Below w.heap.size w w' := by
  subst hN
  exact implIsScheme_c p n m k A c qs w hr hl
theorem iar_sizeR (l : List Int) : (iar l).size = l.length := by simp [iar, i64s]
theorem ownM_pos {w : World} {lo hi N : Nat} {v : Value} {row : Nat → List Int} (h : OwnM w lo hi v N row) (hN : 0 < N) : ∃ g c cs gs, v = .slice (some ⟨g, 0, none⟩) N c ∧ MatB w lo hi g cs gs N row := by
  rcases h with ⟨_, h0⟩ | h
  · omega
  · exact h
theorem OwnM.zero {w : World} {lo hi : Nat} {v : Value} {row row' : Nat → List Int} (h : OwnM w lo hi v 0 row) : OwnM w lo hi v 0 row' := by
  rcases h with h0 | ⟨g, c, cs, gs, rfl, hm⟩
  · exact .inl h0
  · exact .inr ⟨g, c, cs, gs, rfl, hm.out, hm.og, fun i hi => by omega, fun i hi => by omega, fun i j _ hj => by omega⟩
theorem ranksM {w : World} {lo lo' hi m0 m1 m2 g c N : Nat} {Φ : Nat → List Nat → Int → Prop} {cs : Array Value} {gs : Nat → Nat} {R : Nat → List Int} (h : RaS w lo hi m0 m1 m2 Φ g cs gs N (midR R N 0)) (hl : lo' ≤ lo) : OwnM w lo' w.heap.size (.slice (some ⟨g, 0, none⟩) N c) N R := by
  have hm := h.out.mat
  refine OwnM.mono (.inr ⟨g, c, cs, gs, rfl, hm.out, hm.og, fun i hi => ?_, fun i hi => ?_, hm.inj⟩) hl h.out.top
  · have h1 := hm.cell i hi
    rwa [midR_end hi] at h1
  · have h1 := hm.row i hi
    rwa [midR_end hi] at h1
section
variable {p : Int} {n m k r : Nat} {f : List Nat}
theorem raF0 (h : frank p n m f = r) : raF p n m k 0 f ((r : Nat) : Int) := by unfold raF; simp [h]
theorem raF1 (h : frank p m k f = r) : raF p n m k 1 f ((r : Nat) : Int) := by unfold raF; simp [h]
theorem raF2 (h : frank p n k f = r) : raF p n m k 2 f ((r : Nat) : Int) := by unfold raF; simp [h]
theorem raV0 (h : frank p n m f = r) (v : Int) (hv : raF p n m k 0 f v) : v = ((r : Nat) : Int) := by unfold raF at hv; simpa [h] using hv
theorem raV1 (h : frank p m k f = r) (v : Int) (hv : raF p n m k 1 f v) : v = ((r : Nat) : Int) := by unfold raF at hv; simpa [h] using hv
theorem raV2 (h : frank p n k f = r) (v : Int) (hv : raF p n m k 2 f v) : v = ((r : Nat) : Int) := by unfold raF at hv; simpa [h] using hv
end
theorem exec_build_shpR {o : Oper} {a : Act} {w : World} (x y : Operand) (ho : o.op = .build 52 #[(0, x), (1, y)]) (n m : Int) (hx : a.eval x = .int .i64 n) (hy : a.eval y = .int .i64 m) :
    (execOp a.eval o).run Try.prog w = .ok (.value (.agg #[.int .i64 n, .int .i64 m])) w := by
  have hb : Try.prog.built 52 [(0, .int .i64 n), (1, .int .i64 m)] = some #[.int .i64 n, .int .i64 m] := by kernel_rfl
  have h := run_build (P := Try.prog) w 52 _ _ hb
  unfold execOp
  simp [ho, hx, hy, h]
theorem alRw__3_impl_shape {o : Oper} {a : Act} {w : World} (ho : o.op = .alloc 53) : (execOp a.eval o).run Try.prog w = .ok (.value (.pointer (some ⟨w.heap.size, 0, none⟩))) (w.alloc (.cells #[.int .i64 0, .int .i64 0, .int .i64 0, .int .i64 0, .int .i64 0, .int .i64 0] 53 (0, 0))) := by
  unfold execOp
  rw [ho]
  kernel_rfl
theorem alRw__3_map_impl_Form_int64 {o : Oper} {a : Act} {w : World} (ho : o.op = .alloc 56) : (execOp a.eval o).run Try.prog w = .ok (.value (.pointer (some ⟨w.heap.size, 0, none⟩))) (w.alloc (.cells #[.map none, .map none, .map none] 56 (0, 0))) := by
  unfold execOp
  rw [ho]
  kernel_rfl
theorem alRw_impl_Form {o : Oper} {a : Act} {w : World} (ho : o.op = .alloc 45) : (execOp a.eval o).run Try.prog w = .ok (.value (.pointer (some ⟨w.heap.size, 0, none⟩))) (w.alloc (.cells (u8s (List.replicate 9 0)) 45 (0, 0))) := by
  unfold execOp
  rw [ho]
  kernel_rfl
theorem alRw_impl_Product {o : Oper} {a : Act} {w : World} (ho : o.op = .alloc 47) : (execOp a.eval o).run Try.prog w = .ok (.value (.pointer (some ⟨w.heap.size, 0, none⟩))) (w.alloc (.cells (u8s (List.replicate 27 0)) 47 (0, 0))) := by
  unfold execOp
  rw [ho]
  kernel_rfl
set_option maxHeartbeats 4000000 in
theorem implRa_a (p n m k : Int) (AX : Option Addr) (c N : Nat) (qs : List (List Nat)) (w : World) (hR : Rd w AX qs) (hN : qs.length = N) (hlen : N ≤ 1048576) (hx : schemeB p n m k qs = false) :
    Calls Try.prog 8 #[.agg #[.int .i64 p, .int .i64 n, .int .i64 m, .int .i64 k, .slice AX N c]] w (ResM w (raN p n m k qs) (raR p n m k qs) (raCode p n m k qs)) := by
  have hB := Below.refl w.heap.size w
  have HN : Hid (raN p n m k qs = 0) := Lib.hid (by unfold raN; rw [hx]; rfl)
  have HC : Hid (raCode p n m k qs = 1) := Lib.hid (by unfold raCode; rw [hx]; rfl)
  have HNl := Lib.hid hN
  have HX := Lib.hid hx
  clear hx hN
  go_enter Try.func8, Try.ntmps8
  go_upto_region 0 with (fail)
  refine wp_region_lit ?_
  refine ls_op rfl (fun K' hK' => ?_)
  have lz1 := hB.size
  refine wp_new (some 1) rfl (exec_box 31 _ rfl (#[.int .i64 p, .int .i64 n, .int .i64 m, .int .i64 k, .slice AX N c]) rfl) (fun Wz2 nnz3 => ?_)
  have bz4 := nnz3.below (Below.refl _ _) (Nat.le_refl _)
  replace hB := below_after hB bz4
  have hz5 : At Wz2 w.heap.size (.cells #[.int .i64 p, .int .i64 n, .int .i64 m, .int .i64 k, .slice AX N c] 31 (0, 0)) := nnz3.at_
  refine hK' _ _ ?_
  clear hK' K' nnz3 bz4
  go_frame
  refine ls_ex (some 2) (.slice none 0 0) rfl rfl (exec_assign _ rfl (.slice none 0 0) rfl) ?_
  go_frame
  refine ls_ex (some 3) (.int .i64 0) rfl rfl (exec_assign _ rfl (.int .i64 0) rfl) ?_
  go_frame
  refine wpList_nil ?_
  go_upto_region 1 with (fail)
  refine wp_region_lit ?_
  refine ls_ex (some 13) (.agg #[.int .i64 p, .int .i64 n, .int .i64 m, .int .i64 k, .slice AX N c]) rfl rfl (exec_load_all 31 _ rfl w.heap.size rfl _ _ _ hz5 Try.underlying31 rfl 5 (by kernel_rfl) rfl) ?_
  go_frame
  refine ls_op rfl (fun K' hK' => ?_)
  have lz8 := hB.size
  have lz9 := hz5.lt
  refine wp_call1 (some 14) rfl 22 _ _ rfl (fun args w => by kernel_rfl) _ rfl _ (implIsSchemeN_c p n m k AX c N qs _ HNl.out (hR.keep hB) hlen) (fun e Wz6 h => ?_)
  obtain ⟨rfl, bz7⟩ := h
  replace hB := below_after hB bz7
  replace hz5 := hz5.after bz7
  rw [HX.out]
  clear bz7
  refine ⟨_, rfl, ?_⟩
  refine hK' _ _ ?_
  clear hK' K'
  go_frame
  refine ls_ex (some 15) (.bool true) rfl rfl (exec_not _ _ rfl false rfl) ?_
  go_frame
  refine wpList_nil ?_
  go_upto_region 2 with (fail)
  refine wp_region_lit ?_
  refine ls_ex (some 2) (.slice none 0 0) rfl rfl (exec_assign _ rfl (.slice none 0 0) rfl) ?_
  go_frame
  refine ls_ex (some 3) (.int .i64 1) rfl rfl (exec_assign _ rfl (.int .i64 1) rfl) ?_
  go_frame
  refine wpList_nil ?_
  go_wp2_with fail
  go_ret2
  exact ⟨_, by rw [HC.out]; rfl, by rw [HN.out]; exact OwnM.nil _ _ _ _, hB⟩
set_option maxHeartbeats 4000000 in
theorem implRa_0 (p : Int) (n m k : Nat) (AX : Option Addr) (c : Nat) (qs : List (List Nat)) (w : World) (hR : Rd w AX qs) (hN : qs.length = 0) (hlen : 0 ≤ 1048576) (hx : schemeB p n m k qs = true) :
    Calls Try.prog 8 #[.agg #[.int .i64 p, .int .i64 n, .int .i64 m, .int .i64 k, .slice AX 0 c]] w (ResM w (raN p n m k qs) (raR p n m k qs) (raCode p n m k qs)) := by
  have hB := Below.refl w.heap.size w
  have HN : Hid (raN p n m k qs = 0) := Lib.hid (by unfold raN; rw [hx]; exact hN)
  have HC : Hid (raCode p n m k qs = 0) := Lib.hid (by unfold raCode; rw [hx]; rfl)
  have HNl := Lib.hid hN
  have HX := Lib.hid hx
  clear hx hN
  go_enter Try.func8, Try.ntmps8
  go_upto_region 0 with (fail)
  refine wp_region_lit ?_
  refine ls_op rfl (fun K' hK' => ?_)
  have lz1 := hB.size
  refine wp_new (some 1) rfl (exec_box 31 _ rfl (#[.int .i64 p, .int .i64 n, .int .i64 m, .int .i64 k, .slice AX 0 c]) rfl) (fun Wz2 nnz3 => ?_)
  have bz4 := nnz3.below (Below.refl _ _) (Nat.le_refl _)
  replace hB := below_after hB bz4
  have hz5 : At Wz2 w.heap.size (.cells #[.int .i64 p, .int .i64 n, .int .i64 m, .int .i64 k, .slice AX 0 c] 31 (0, 0)) := nnz3.at_
  refine hK' _ _ ?_
  clear hK' K' nnz3 bz4
  go_frame
  refine ls_ex (some 2) (.slice none 0 0) rfl rfl (exec_assign _ rfl (.slice none 0 0) rfl) ?_
  go_frame
  refine ls_ex (some 3) (.int .i64 0) rfl rfl (exec_assign _ rfl (.int .i64 0) rfl) ?_
  go_frame
  refine wpList_nil ?_
  go_upto_region 1 with (fail)
  refine wp_region_lit ?_
  refine ls_ex (some 13) (.agg #[.int .i64 p, .int .i64 n, .int .i64 m, .int .i64 k, .slice AX 0 c]) rfl rfl (exec_load_all 31 _ rfl w.heap.size rfl _ _ _ hz5 Try.underlying31 rfl 5 (by kernel_rfl) rfl) ?_
  go_frame
  refine ls_op rfl (fun K' hK' => ?_)
  have lz8 := hB.size
  have lz9 := hz5.lt
  refine wp_call1 (some 14) rfl 22 _ _ rfl (fun args w => by kernel_rfl) _ rfl _ (implIsSchemeN_c p n m k AX c 0 qs _ HNl.out (hR.keep hB) hlen) (fun e Wz6 h => ?_)
  obtain ⟨rfl, bz7⟩ := h
  replace hB := below_after hB bz7
  replace hz5 := hz5.after bz7
  rw [HX.out]
  clear bz7
  refine ⟨_, rfl, ?_⟩
  refine hK' _ _ ?_
  clear hK' K'
  go_frame
  refine ls_ex (some 15) (.bool false) rfl rfl (exec_not _ _ rfl true rfl) ?_
  go_frame
  refine wpList_nil ?_
  go_upto_region 3 with (fail)
  refine wp_region_lit ?_
  refine ls_ex (some 16) (.agg #[.int .i64 p, .int .i64 n, .int .i64 m, .int .i64 k, .slice AX 0 c]) rfl rfl (exec_load_all 31 _ rfl w.heap.size rfl _ _ _ hz5 Try.underlying31 rfl 5 (by kernel_rfl) rfl) ?_
  go_frame
  refine ls_op rfl (fun K' hK' => ?_)
  have lz12 := hB.size
  have lz13 := hz5.lt
  refine wp_call1 (some 17) rfl 23 _ _ rfl (fun args w => by kernel_rfl) _ rfl _ (shapesOf_c _ _ _ _ _ _) (fun e Wz10 h => ?_)
  obtain ⟨rfl, bz11⟩ := h
  replace hB := below_after hB bz11
  replace hz5 := hz5.after bz11
  clear bz11
  refine ⟨_, rfl, ?_⟩
  refine hK' _ _ ?_
  clear hK' K'
  go_frame
  refine ls_op rfl (fun K' hK' => ?_)
  have lz14 := hB.size
  have lz15 := hz5.lt
  refine wp_new (some 4) rfl (alRw__3_impl_shape rfl) (fun Wz16 nnz17 => ?_)
  have bz18 := nnz17.below (Below.refl _ _) (Nat.le_refl _)
  replace hB := below_after hB bz18
  replace hz5 := hz5.after bz18
  have hz19 : At Wz16 Wz10.heap.size (.cells #[.int .i64 0, .int .i64 0, .int .i64 0, .int .i64 0, .int .i64 0, .int .i64 0] 53 (0, 0)) := nnz17.at_
  refine hK' _ _ ?_
  clear hK' K' nnz17 bz18
  go_frame
  refine ls_op rfl (fun K' hK' => ?_)
  refine wp_store_all 53 _ _ rfl rfl Wz10.heap.size rfl #[.int .i64 n, .int .i64 m, .int .i64 m, .int .i64 k, .int .i64 n, .int .i64 k] rfl _ _ hz19 6 (by kernel_rfl) rfl rfl (by intro x hx; simp at hx; repeat (first | (subst hx; rfl) | (rcases hx with hx | hx; (subst hx; rfl)))) (fun Wz20 pz21 => ?_)
  replace hB := pz21.below hB (by omega)
  replace hz5 := pz21.other hz5 (by omega)
  replace hz19 : At Wz20 Wz10.heap.size (.cells #[.int .i64 n, .int .i64 m, .int .i64 m, .int .i64 k, .int .i64 n, .int .i64 k] 53 (0, 0)) := pz21.at_
  refine hK' _ _ ?_
  clear hK' K' pz21
  refine wpList_nil ?_
  go_upto_region 4 with (fail)
  refine wp_region_lit ?_
  refine ls_op rfl (fun K' hK' => ?_)
  have lz25 := hB.size
  have lz26 := hz5.lt
  have lz27 := hz19.lt
  refine wp_new (some 18) rfl (exec_mkmap rfl) (fun Wz22 nnz23 => ?_)
  have bz24 := nnz23.below (Below.refl _ _) (Nat.le_refl _)
  replace hB := below_after hB bz24
  replace hz5 := hz5.after bz24
  replace hz19 := hz19.after bz24
  obtain ⟨M0, hM0⟩ : ∃ z9, Wz20.heap.size = z9 := ⟨_, rfl⟩
  have hm0 : At Wz22 M0 (.map #[] 0) := by rw [← hM0]; exact nnz23.at_
  refine hK' _ _ ?_
  clear hK' K' nnz23 bz24
  go_frame
  refine ls_op rfl (fun K' hK' => ?_)
  have lz31 := hB.size
  have lz32 := hz5.lt
  have lz33 := hz19.lt
  have lz34 := hm0.lt
  refine wp_new (some 19) rfl (exec_mkmap rfl) (fun Wz28 nnz29 => ?_)
  have bz30 := nnz29.below (Below.refl _ _) (Nat.le_refl _)
  replace hB := below_after hB bz30
  replace hz5 := hz5.after bz30
  replace hz19 := hz19.after bz30
  replace hm0 := hm0.after bz30
  obtain ⟨M1, hM1⟩ : ∃ z9, Wz22.heap.size = z9 := ⟨_, rfl⟩
  have hm1 : At Wz28 M1 (.map #[] 0) := by rw [← hM1]; exact nnz29.at_
  refine hK' _ _ ?_
  clear hK' K' nnz29 bz30
  go_frame
  refine ls_op rfl (fun K' hK' => ?_)
  have lz38 := hB.size
  have lz39 := hz5.lt
  have lz40 := hz19.lt
  have lz41 := hm0.lt
  have lz42 := hm1.lt
  refine wp_new (some 20) rfl (exec_mkmap rfl) (fun Wz35 nnz36 => ?_)
  have bz37 := nnz36.below (Below.refl _ _) (Nat.le_refl _)
  replace hB := below_after hB bz37
  replace hz5 := hz5.after bz37
  replace hz19 := hz19.after bz37
  replace hm0 := hm0.after bz37
  replace hm1 := hm1.after bz37
  obtain ⟨M2, hM2⟩ : ∃ z9, Wz28.heap.size = z9 := ⟨_, rfl⟩
  have hm2 : At Wz35 M2 (.map #[] 0) := by rw [← hM2]; exact nnz36.at_
  refine hK' _ _ ?_
  clear hK' K' nnz36 bz37
  go_frame
  refine ls_ex (some 21) (.agg #[.map (some M0), .map (some M1), .map (some M2)]) rfl rfl (exec_maps3 _ _ _ rfl M0 M1 M2 (by rw [← hM0]; rfl) (by rw [← hM1]; rfl) (by rw [← hM2]; rfl)) ?_
  go_frame
  refine ls_op rfl (fun K' hK' => ?_)
  have lz43 := hB.size
  have lz44 := hz5.lt
  have lz45 := hz19.lt
  have lz46 := hm0.lt
  have lz47 := hm1.lt
  have lz48 := hm2.lt
  refine wp_new (some 5) rfl (alRw__3_map_impl_Form_int64 rfl) (fun Wz49 nnz50 => ?_)
  have bz51 := nnz50.below (Below.refl _ _) (Nat.le_refl _)
  replace hB := below_after hB bz51
  replace hz5 := hz5.after bz51
  replace hz19 := hz19.after bz51
  replace hm0 := hm0.after bz51
  replace hm1 := hm1.after bz51
  replace hm2 := hm2.after bz51
  have hz52 : At Wz49 Wz35.heap.size (.cells #[.map none, .map none, .map none] 56 (0, 0)) := nnz50.at_
  refine hK' _ _ ?_
  clear hK' K' nnz50 bz51
  go_frame
  refine ls_op rfl (fun K' hK' => ?_)
  refine wp_store_all 56 _ _ rfl rfl Wz35.heap.size rfl #[.map (some M0), .map (some M1), .map (some M2)] rfl _ _ hz52 3 (by kernel_rfl) rfl rfl (by intro x hx; simp at hx; rcases hx with rfl | rfl | rfl <;> rfl) (fun Wz53 pz54 => ?_)
  replace hB := pz54.below hB (by omega)
  replace hz5 := pz54.other hz5 (by omega)
  replace hz19 := pz54.other hz19 (by omega)
  replace hm0 := pz54.other hm0 (by omega)
  replace hm1 := pz54.other hm1 (by omega)
  replace hm2 := pz54.other hm2 (by omega)
  replace hz52 : At Wz53 Wz35.heap.size (.cells #[.map (some M0), .map (some M1), .map (some M2)] 56 (0, 0)) := pz54.at_
  refine hK' _ _ ?_
  clear hK' K' pz54
  refine wpList_nil ?_
  go_upto_region 5 with (fail)
  refine wp_region_lit ?_
  refine ls_ex (some 22) (.pointer (some ⟨w.heap.size, 4, none⟩)) rfl rfl (exec_fieldAddr 31 _ 4 rfl _ (by kernel_rfl)) ?_
  go_frame
  refine ls_ex (some 23) (.slice AX 0 c) rfl rfl (exec_load_one 29 _ rfl w.heap.size 4 rfl (.slice AX 0 c) _ Try.underlying29 rfl (hz5.at_ 4)) ?_
  go_frame
  refine ls_ex (some 24) (.int .i64 0) rfl rfl (exec_len _ 29 47 rfl AX 0 c rfl Try.underlying29) ?_
  go_frame
  refine ls_ex (some 25) (.agg #[.int .i64 0, .int .i64 3]) rfl rfl (exec_build_shpR _ _ rfl 0 3 rfl rfl) ?_
  go_frame
  refine ls_op rfl (fun K' hK' => ?_)
  have lz57 := hB.size
  have lz58 := hz5.lt
  have lz59 := hz19.lt
  have lz60 := hm0.lt
  have lz61 := hm1.lt
  have lz62 := hm2.lt
  have lz63 := hz52.lt
  have lo9 := hB.size
  refine wp_call1 (some 26) rfl 24 _ _ rfl (fun args w => by kernel_rfl) _ rfl _ (zeroMatrix_c 0 3 _ (by omega) (by omega)) (fun e Wz55 h => ?_)
  obtain ⟨v9, rfl, hv9, bz56⟩ := h
  replace hB := below_after hB bz56
  replace hz5 := hz5.after bz56
  replace hz19 := hz19.after bz56
  replace hm0 := hm0.after bz56
  replace hm1 := hm1.after bz56
  replace hm2 := hm2.after bz56
  replace hz52 := hz52.after bz56
  clear bz56
  refine ⟨_, rfl, ?_⟩
  refine hK' _ _ ?_
  clear hK' K'
  go_frame
  refine ls_ex (some 6) (v9) rfl rfl (exec_assign _ rfl (v9) rfl) ?_
  go_frame
  refine wpList_nil ?_
  go_upto_region 6 with (fail)
  refine wp_region_lit ?_
  refine ls_ex (some 27) (.pointer (some ⟨w.heap.size, 4, none⟩)) rfl rfl (exec_fieldAddr 31 _ 4 rfl _ (by kernel_rfl)) ?_
  go_frame
  refine ls_ex (some 28) (.slice AX 0 c) rfl rfl (exec_load_one 29 _ rfl w.heap.size 4 rfl (.slice AX 0 c) _ Try.underlying29 rfl (hz5.at_ 4)) ?_
  go_frame
  refine ls_ex (some 29) (.int .i64 0) rfl rfl (exec_len _ 29 47 rfl AX 0 c rfl Try.underlying29) ?_
  go_frame
  refine ls_ex (some 30) (.int .i64 0) rfl rfl (exec_move _ rfl (.int .i64 0) rfl) ?_
  go_frame
  refine wpList_nil ?_
  obtain ⟨zL, hzL⟩ : ∃ z9, z9 = w.heap.size := ⟨_, rfl⟩
  replace hv9 := hv9.mono (lo' := w.heap.size) (hi' := Wz55.heap.size) (by omega) (Nat.le_refl _)
  have hv8 : ∃ z8, z8 ≤ Wz55.heap.size ∧ OwnM Wz55 w.heap.size z8 v9 0 (fun _ => List.replicate 3 0) := ⟨_, Nat.le_refl _, hv9⟩
  go_wp2_with fail
  go_loopw [30] (fun s30 wr => s30 = .int .i64 0 ∧ Below w.heap.size w wr ∧ ∃ z8, z8 ≤ wr.heap.size ∧ OwnM wr w.heap.size z8 v9 0 (fun _ => List.replicate 3 0)) (fun _ _ => 0)
  case atStart => exact ⟨rfl, hB, hv8⟩
  case round =>
    clear hB hv8
    obtain ⟨rfl, hB, hv8⟩ := hrel
    · go_upto_region 7 with (fail)
      refine wp_region_lit ?_
      refine ls_ex (some 31) (.bool false) rfl rfl (exec_lss _ _ _ _ rfl 0 0 rfl rfl false (decide_eq_false (by omega))) ?_
      go_frame
      refine wpList_nil ?_
      go_upto_region 19 with (fail)
      refine wp_region_lit ?_
      refine ls_ex (some 72) (v9) rfl rfl (exec_move _ rfl (v9) rfl) ?_
      go_frame
      refine ls_ex (some 2) (v9) rfl rfl (exec_assign _ rfl (v9) rfl) ?_
      go_frame
      refine ls_ex (some 3) (.int .i64 0) rfl rfl (exec_assign _ rfl (.int .i64 0) rfl) ?_
      go_frame
      refine wpList_nil ?_
      go_wp2_with fail
      obtain ⟨z8, hz8, ho8⟩ := hv8
      go_ret2
      exact ⟨v9, by rw [HC.out]; rfl, by rw [HN.out]; exact (ho8.mono (Nat.le_refl _) hz8).zero, hB⟩
set_option maxHeartbeats 8000000 in
theorem implRa_y (p : Int) (n m k : Nat) (AX : Option Addr) (c N : Nat) (qs : List (List Nat)) (w : World) (hR : Rd w AX qs) (hN : qs.length = N) (hlen : N ≤ 1048576) (hx : schemeB p n m k qs = true) (hN0 : 0 < N) :
    Calls Try.prog 8 #[.agg #[.int .i64 p, .int .i64 n, .int .i64 m, .int .i64 k, .slice AX N c]] w (ResM w (raN p n m k qs) (raR p n m k qs) (raCode p n m k qs)) := by
  have hB := Below.refl w.heap.size w
  have HN : Hid (raN p n m k qs = N) := Lib.hid (by unfold raN; rw [hx]; exact hN)
  have HC : Hid (raCode p n m k qs = 0) := Lib.hid (by unfold raCode; rw [hx]; rfl)
  have HRw : Hid (raR p n m k qs = rkRow p n m k qs) := Lib.hid rfl
  have HRl : Hid (∀ x, (rkRow p n m k qs x).length = 3) := Lib.hid (fun _ => rfl)
  have hsc := sc_parts hx
  have hpr := hsc.1
  have hp256 : p ≤ 5 := (primeB_5 hpr).2
  have hsn : 1 ≤ n ∧ n ≤ 3 := by have := hsc.2.1; omega
  have hsm : 1 ≤ m ∧ m ≤ 3 := by have := hsc.2.2.1; omega
  have hsk : 1 ≤ k ∧ k ≤ 3 := by have := hsc.2.2.2.1; omega
  have HPd := Lib.hid hsc.2.2.2.2.2
  have hN30 : N ≤ 30 := by rw [← hN]; exact hsc.2.2.2.2.1
  have HNl := Lib.hid hN
  have HX := Lib.hid hx
  clear hx hN hsc
  go_enter Try.func8, Try.ntmps8
  go_upto_region 0 with (fail)
  refine wp_region_lit ?_
  refine ls_op rfl (fun K' hK' => ?_)
  have lz1 := hB.size
  refine wp_new (some 1) rfl (exec_box 31 _ rfl (#[.int .i64 p, .int .i64 n, .int .i64 m, .int .i64 k, .slice AX N c]) rfl) (fun Wz2 nnz3 => ?_)
  have bz4 := nnz3.below (Below.refl _ _) (Nat.le_refl _)
  replace hB := below_after hB bz4
  have hz5 : At Wz2 w.heap.size (.cells #[.int .i64 p, .int .i64 n, .int .i64 m, .int .i64 k, .slice AX N c] 31 (0, 0)) := nnz3.at_
  refine hK' _ _ ?_
  clear hK' K' nnz3 bz4
  go_frame
  refine ls_ex (some 2) (.slice none 0 0) rfl rfl (exec_assign _ rfl (.slice none 0 0) rfl) ?_
  go_frame
  refine ls_ex (some 3) (.int .i64 0) rfl rfl (exec_assign _ rfl (.int .i64 0) rfl) ?_
  go_frame
  refine wpList_nil ?_
  go_upto_region 1 with (fail)
  refine wp_region_lit ?_
  refine ls_ex (some 13) (.agg #[.int .i64 p, .int .i64 n, .int .i64 m, .int .i64 k, .slice AX N c]) rfl rfl (exec_load_all 31 _ rfl w.heap.size rfl _ _ _ hz5 Try.underlying31 rfl 5 (by kernel_rfl) rfl) ?_
  go_frame
  refine ls_op rfl (fun K' hK' => ?_)
  have lz8 := hB.size
  have lz9 := hz5.lt
  refine wp_call1 (some 14) rfl 22 _ _ rfl (fun args w => by kernel_rfl) _ rfl _ (implIsSchemeN_c p n m k AX c N qs _ HNl.out (hR.keep hB) hlen) (fun e Wz6 h => ?_)
  obtain ⟨rfl, bz7⟩ := h
  replace hB := below_after hB bz7
  replace hz5 := hz5.after bz7
  rw [HX.out]
  clear bz7
  refine ⟨_, rfl, ?_⟩
  refine hK' _ _ ?_
  clear hK' K'
  go_frame
  refine ls_ex (some 15) (.bool false) rfl rfl (exec_not _ _ rfl true rfl) ?_
  go_frame
  refine wpList_nil ?_
  go_upto_region 3 with (fail)
  refine wp_region_lit ?_
  refine ls_ex (some 16) (.agg #[.int .i64 p, .int .i64 n, .int .i64 m, .int .i64 k, .slice AX N c]) rfl rfl (exec_load_all 31 _ rfl w.heap.size rfl _ _ _ hz5 Try.underlying31 rfl 5 (by kernel_rfl) rfl) ?_
  go_frame
  refine ls_op rfl (fun K' hK' => ?_)
  have lz12 := hB.size
  have lz13 := hz5.lt
  refine wp_call1 (some 17) rfl 23 _ _ rfl (fun args w => by kernel_rfl) _ rfl _ (shapesOf_c _ _ _ _ _ _) (fun e Wz10 h => ?_)
  obtain ⟨rfl, bz11⟩ := h
  replace hB := below_after hB bz11
  replace hz5 := hz5.after bz11
  clear bz11
  refine ⟨_, rfl, ?_⟩
  refine hK' _ _ ?_
  clear hK' K'
  go_frame
  refine ls_op rfl (fun K' hK' => ?_)
  have lz14 := hB.size
  have lz15 := hz5.lt
  refine wp_new (some 4) rfl (alRw__3_impl_shape rfl) (fun Wz16 nnz17 => ?_)
  have bz18 := nnz17.below (Below.refl _ _) (Nat.le_refl _)
  replace hB := below_after hB bz18
  replace hz5 := hz5.after bz18
  have hz19 : At Wz16 Wz10.heap.size (.cells #[.int .i64 0, .int .i64 0, .int .i64 0, .int .i64 0, .int .i64 0, .int .i64 0] 53 (0, 0)) := nnz17.at_
  refine hK' _ _ ?_
  clear hK' K' nnz17 bz18
  go_frame
  refine ls_op rfl (fun K' hK' => ?_)
  refine wp_store_all 53 _ _ rfl rfl Wz10.heap.size rfl #[.int .i64 n, .int .i64 m, .int .i64 m, .int .i64 k, .int .i64 n, .int .i64 k] rfl _ _ hz19 6 (by kernel_rfl) rfl rfl (by intro x hx; simp at hx; repeat (first | (subst hx; rfl) | (rcases hx with hx | hx; (subst hx; rfl)))) (fun Wz20 pz21 => ?_)
  replace hB := pz21.below hB (by omega)
  replace hz5 := pz21.other hz5 (by omega)
  replace hz19 : At Wz20 Wz10.heap.size (.cells #[.int .i64 n, .int .i64 m, .int .i64 m, .int .i64 k, .int .i64 n, .int .i64 k] 53 (0, 0)) := pz21.at_
  refine hK' _ _ ?_
  clear hK' K' pz21
  refine wpList_nil ?_
  go_upto_region 4 with (fail)
  refine wp_region_lit ?_
  refine ls_op rfl (fun K' hK' => ?_)
  have lz25 := hB.size
  have lz26 := hz5.lt
  have lz27 := hz19.lt
  refine wp_new (some 18) rfl (exec_mkmap rfl) (fun Wz22 nnz23 => ?_)
  have bz24 := nnz23.below (Below.refl _ _) (Nat.le_refl _)
  replace hB := below_after hB bz24
  replace hz5 := hz5.after bz24
  replace hz19 := hz19.after bz24
  obtain ⟨M0, hM0⟩ : ∃ z9, Wz20.heap.size = z9 := ⟨_, rfl⟩
  have hm0 : At Wz22 M0 (.map #[] 0) := by rw [← hM0]; exact nnz23.at_
  refine hK' _ _ ?_
  clear hK' K' nnz23 bz24
  go_frame
  refine ls_op rfl (fun K' hK' => ?_)
  have lz31 := hB.size
  have lz32 := hz5.lt
  have lz33 := hz19.lt
  have lz34 := hm0.lt
  refine wp_new (some 19) rfl (exec_mkmap rfl) (fun Wz28 nnz29 => ?_)
  have bz30 := nnz29.below (Below.refl _ _) (Nat.le_refl _)
  replace hB := below_after hB bz30
  replace hz5 := hz5.after bz30
  replace hz19 := hz19.after bz30
  replace hm0 := hm0.after bz30
  obtain ⟨M1, hM1⟩ : ∃ z9, Wz22.heap.size = z9 := ⟨_, rfl⟩
  have hm1 : At Wz28 M1 (.map #[] 0) := by rw [← hM1]; exact nnz29.at_
  refine hK' _ _ ?_
  clear hK' K' nnz29 bz30
  go_frame
  refine ls_op rfl (fun K' hK' => ?_)
  have lz38 := hB.size
  have lz39 := hz5.lt
  have lz40 := hz19.lt
  have lz41 := hm0.lt
  have lz42 := hm1.lt
  refine wp_new (some 20) rfl (exec_mkmap rfl) (fun Wz35 nnz36 => ?_)
  have bz37 := nnz36.below (Below.refl _ _) (Nat.le_refl _)
  replace hB := below_after hB bz37
  replace hz5 := hz5.after bz37
  replace hz19 := hz19.after bz37
  replace hm0 := hm0.after bz37
  replace hm1 := hm1.after bz37
  obtain ⟨M2, hM2⟩ : ∃ z9, Wz28.heap.size = z9 := ⟨_, rfl⟩
  have hm2 : At Wz35 M2 (.map #[] 0) := by rw [← hM2]; exact nnz36.at_
  refine hK' _ _ ?_
  clear hK' K' nnz36 bz37
  go_frame
  refine ls_ex (some 21) (.agg #[.map (some M0), .map (some M1), .map (some M2)]) rfl rfl (exec_maps3 _ _ _ rfl M0 M1 M2 (by rw [← hM0]; rfl) (by rw [← hM1]; rfl) (by rw [← hM2]; rfl)) ?_
  go_frame
  refine ls_op rfl (fun K' hK' => ?_)
  have lz43 := hB.size
  have lz44 := hz5.lt
  have lz45 := hz19.lt
  have lz46 := hm0.lt
  have lz47 := hm1.lt
  have lz48 := hm2.lt
  refine wp_new (some 5) rfl (alRw__3_map_impl_Form_int64 rfl) (fun Wz49 nnz50 => ?_)
  have bz51 := nnz50.below (Below.refl _ _) (Nat.le_refl _)
  replace hB := below_after hB bz51
  replace hz5 := hz5.after bz51
  replace hz19 := hz19.after bz51
  replace hm0 := hm0.after bz51
  replace hm1 := hm1.after bz51
  replace hm2 := hm2.after bz51
  have hz52 : At Wz49 Wz35.heap.size (.cells #[.map none, .map none, .map none] 56 (0, 0)) := nnz50.at_
  refine hK' _ _ ?_
  clear hK' K' nnz50 bz51
  go_frame
  refine ls_op rfl (fun K' hK' => ?_)
  refine wp_store_all 56 _ _ rfl rfl Wz35.heap.size rfl #[.map (some M0), .map (some M1), .map (some M2)] rfl _ _ hz52 3 (by kernel_rfl) rfl rfl (by intro x hx; simp at hx; rcases hx with rfl | rfl | rfl <;> rfl) (fun Wz53 pz54 => ?_)
  replace hB := pz54.below hB (by omega)
  replace hz5 := pz54.other hz5 (by omega)
  replace hz19 := pz54.other hz19 (by omega)
  replace hm0 := pz54.other hm0 (by omega)
  replace hm1 := pz54.other hm1 (by omega)
  replace hm2 := pz54.other hm2 (by omega)
  replace hz52 : At Wz53 Wz35.heap.size (.cells #[.map (some M0), .map (some M1), .map (some M2)] 56 (0, 0)) := pz54.at_
  refine hK' _ _ ?_
  clear hK' K' pz54
  refine wpList_nil ?_
  go_upto_region 5 with (fail)
  refine wp_region_lit ?_
  refine ls_ex (some 22) (.pointer (some ⟨w.heap.size, 4, none⟩)) rfl rfl (exec_fieldAddr 31 _ 4 rfl _ (by kernel_rfl)) ?_
  go_frame
  refine ls_ex (some 23) (.slice AX N c) rfl rfl (exec_load_one 29 _ rfl w.heap.size 4 rfl (.slice AX N c) _ Try.underlying29 rfl (hz5.at_ 4)) ?_
  go_frame
  refine ls_ex (some 24) (.int .i64 N) rfl rfl (exec_len _ 29 47 rfl AX N c rfl Try.underlying29) ?_
  go_frame
  refine ls_ex (some 25) (.agg #[.int .i64 N, .int .i64 3]) rfl rfl (exec_build_shpR _ _ rfl N 3 rfl rfl) ?_
  go_frame
  refine ls_op rfl (fun K' hK' => ?_)
  have lz57 := hB.size
  have lz58 := hz5.lt
  have lz59 := hz19.lt
  have lz60 := hm0.lt
  have lz61 := hm1.lt
  have lz62 := hm2.lt
  have lz63 := hz52.lt
  have lo9 := hB.size
  refine wp_call1 (some 26) rfl 24 _ _ rfl (fun args w => by kernel_rfl) _ rfl _ (zeroMatrix_c N 3 _ (by omega) (by omega)) (fun e Wz55 h => ?_)
  obtain ⟨v9, rfl, hv9, bz56⟩ := h
  replace hB := below_after hB bz56
  replace hz5 := hz5.after bz56
  replace hz19 := hz19.after bz56
  replace hm0 := hm0.after bz56
  replace hm1 := hm1.after bz56
  replace hm2 := hm2.after bz56
  replace hz52 := hz52.after bz56
  obtain ⟨g, cM, cs, gs, rfl, hMt⟩ := ownM_pos hv9 hN0
  clear hv9
  obtain ⟨zL, hzL⟩ : ∃ z9, Wz53.heap.size = z9 := ⟨_, rfl⟩
  obtain ⟨zH, hzH⟩ : ∃ z9, Wz55.heap.size = z9 := ⟨_, rfl⟩
  have hS : RaS Wz55 zL zH M0 M1 M2 (raF p n m k) g cs gs N (midR (rkRow p n m k qs) 0 0) := by
    rw [midR_start, ← hzL, ← hzH]
    exact ⟨Nat.le_refl _, MapF.of_empty hm0, MapF.of_empty hm1, MapF.of_empty hm2, ⟨by omega, by omega, by omega⟩, hMt⟩
  clear hMt hm0 hm1 hm2
  clear bz56
  refine ⟨_, rfl, ?_⟩
  refine hK' _ _ ?_
  clear hK' K'
  go_frame
  refine ls_ex (some 6) (.slice (some ⟨g, 0, none⟩) N cM) rfl rfl (exec_assign _ rfl (.slice (some ⟨g, 0, none⟩) N cM) rfl) ?_
  go_frame
  refine wpList_nil ?_
  go_upto_region 6 with (fail)
  refine wp_region_lit ?_
  refine ls_ex (some 27) (.pointer (some ⟨w.heap.size, 4, none⟩)) rfl rfl (exec_fieldAddr 31 _ 4 rfl _ (by kernel_rfl)) ?_
  go_frame
  refine ls_ex (some 28) (.slice AX N c) rfl rfl (exec_load_one 29 _ rfl w.heap.size 4 rfl (.slice AX N c) _ Try.underlying29 rfl (hz5.at_ 4)) ?_
  go_frame
  refine ls_ex (some 29) (.int .i64 N) rfl rfl (exec_len _ 29 47 rfl AX N c rfl Try.underlying29) ?_
  go_frame
  refine ls_ex (some 30) (.int .i64 0) rfl rfl (exec_move _ rfl (.int .i64 0) rfl) ?_
  go_frame
  refine wpList_nil ?_
  go_wp2_with fail
  go_loopw [30] (fun s30 wr => ∃ i : Nat, i ≤ N ∧ s30 = .int .i64 i ∧ Below w.heap.size w wr ∧ At wr w.heap.size (.cells #[.int .i64 p, .int .i64 n, .int .i64 m, .int .i64 k, .slice AX N c] 31 (0, 0)) ∧ At wr Wz10.heap.size (.cells #[.int .i64 n, .int .i64 m, .int .i64 m, .int .i64 k, .int .i64 n, .int .i64 k] 53 (0, 0)) ∧ At wr Wz35.heap.size (.cells #[.map (some M0), .map (some M1), .map (some M2)] 56 (0, 0)) ∧ RaS wr zL zH M0 M1 M2 (raF p n m k) g cs gs N (midR (rkRow p n m k qs) i 0)) (fun s30 _ => N - (intOf s30).toNat)
  case atStart => exact ⟨0, by omega, rfl, hB, hz5, hz19, hz52, hS⟩
  case round =>
    clear hB hz5 hz19 hz52 hS
    obtain ⟨i, hle, rfl, hB, h1, h4, h5, hS⟩ := hrel
    by_cases hlt : i < N
    · obtain ⟨we, rfl⟩ : ∃ z : World, z = wr := ⟨_, rfl⟩
      obtain ⟨X, hX⟩ : ∃ z9, qs[i]? = some z9 := ⟨_, List.getElem?_eq_getElem (by rw [HNl.out]; exact hlt)⟩
      have hXm := List.mem_of_getElem? hX
      have HXb := Lib.hid (hR.good X hXm)
      obtain ⟨bX, oX, hAX⟩ := hR.addrX hXm
      have HX9 := Lib.hid hX
      have HAX := Lib.hid hAX
      have hpd := prod_lt HXb.out.len (HPd.out X hXm)
      obtain ⟨F0, hF0⟩ : ∃ z9, segm X 0 9 = z9 := ⟨_, rfl⟩
      obtain ⟨F1, hF1⟩ : ∃ z9, segm X 9 9 = z9 := ⟨_, rfl⟩
      obtain ⟨F2, hF2⟩ : ∃ z9, segm X 18 9 = z9 := ⟨_, rfl⟩
      have Hb0 : Hid (Bytes 9 F0) := Lib.hid (by rw [← hF0]; exact segm_bytes HXb.out (by omega))
      have Hb1 : Hid (Bytes 9 F1) := Lib.hid (by rw [← hF1]; exact segm_bytes HXb.out (by omega))
      have Hb2 : Hid (Bytes 9 F2) := Lib.hid (by rw [← hF2]; exact segm_bytes HXb.out (by omega))
      rw [hF0, hF1, hF2] at hpd
      have HL0 := Lib.hid hpd.1
      have HL1 := Lib.hid hpd.2.1
      have HL2 := Lib.hid hpd.2.2
      obtain ⟨RA, hRA⟩ : ∃ z9, frank p n m F0 = z9 := ⟨_, rfl⟩
      obtain ⟨RB, hRB⟩ : ∃ z9, frank p m k F1 = z9 := ⟨_, rfl⟩
      obtain ⟨RC, hRC⟩ : ∃ z9, frank p n k F2 = z9 := ⟨_, rfl⟩
      have HRow : Hid (rkRow p n m k qs i = [((RA : Nat) : Int), ((RB : Nat) : Int), ((RC : Nat) : Int)]) := Lib.hid (by unfold rkRow; rw [hX, Option.getD_some, hF0, hF1, hF2, hRA, hRB, hRC])
      have HRA := Lib.hid hRA
      have HRB := Lib.hid hRB
      have HRC := Lib.hid hRC
      have HF0 := Lib.hid hF0
      have HF1 := Lib.hid hF1
      have HF2 := Lib.hid hF2
      have HF0b : Hid (∀ x ∈ F0, x < 256) := Lib.hid (fun x hx => by have := hp256; have := HL0.out x hx; omega)
      have HF1b : Hid (∀ x ∈ F1, x < 256) := Lib.hid (fun x hx => by have := hp256; have := HL1.out x hx; omega)
      have HF2b : Hid (∀ x ∈ F2, x < 256) := Lib.hid (fun x hx => by have := hp256; have := HL2.out x hx; omega)
      have HE0 : Hid ((u8s X).extract (0 * 9) (0 * 9 + 9) = u8s F0) := Lib.hid (by rw [u8s_extract, ← hF0]; rfl)
      have HE1 : Hid ((u8s X).extract (1 * 9) (1 * 9 + 9) = u8s F1) := Lib.hid (by rw [u8s_extract, ← hF1]; rfl)
      have HE2 : Hid ((u8s X).extract (2 * 9) (2 * 9 + 9) = u8s F2) := Lib.hid (by rw [u8s_extract, ← hF2]; rfl)
      clear hX hXm hAX hF0 hF1 hF2 hRA hRB hRC hpd
      go_upto_region 7 with (fail)
      refine wp_region_lit ?_
      refine ls_ex (some 31) (.bool true) rfl rfl (exec_lss _ _ _ _ rfl i N rfl rfl true (decide_eq_true (by omega))) ?_
      go_frame
      refine wpList_nil ?_
      go_upto_region 8 with (fail)
      refine wp_region_lit ?_
      refine ls_ex (some 32) (.int .i64 i) rfl rfl (exec_move _ rfl (.int .i64 i) rfl) ?_
      go_frame
      refine ls_ex (some 33) (.pointer (some ⟨bX, oX + i * 27, none⟩)) rfl rfl (exec_ixSA _ _ rfl HAX.out N c i rfl rfl hlt) ?_
      go_frame
      refine ls_ex (some 34) (.agg (u8s (X))) rfl rfl (exec_load_cells 47 _ rfl bX (oX + i * 27) rfl (X) _ 27 (Rd.c27x (hR.keep hB) HAX.out HX9.out) Try.underlying47 rfl (by kernel_rfl) (HXb.out.len)) ?_
      go_frame
      refine ls_op rfl (fun K' hK' => ?_)
      have lz64 := hB.size
      have lz65 := h1.lt
      have lz66 := h4.lt
      have lz67 := h5.lt
      have naz72 := hS.away_new
      refine wp_new (some 8) rfl (alRw_impl_Product rfl) (fun Wz68 nnz69 => ?_)
      have bz70 := nnz69.below (Below.refl _ _) (Nat.le_refl _)
      replace hB := below_after hB bz70
      replace h1 := h1.after bz70
      replace h4 := h4.after bz70
      replace h5 := h5.after bz70
      replace hS := hS.below bz70
      have hz71 : At Wz68 we.heap.size (.cells (u8s (List.replicate 27 0)) 47 (0, 0)) := nnz69.at_
      refine hK' _ _ ?_
      clear hK' K' nnz69 bz70
      go_frame
      refine ls_ex (some 7) (.int .i64 i) rfl rfl (exec_assign _ rfl (.int .i64 i) rfl) ?_
      go_frame
      refine ls_op rfl (fun K' hK' => ?_)
      refine wp_store_bytes 47 _ _ rfl rfl we.heap.size rfl (X) rfl _ _ hz71 27 (by kernel_rfl) HXb.out.len (by simp) (fun Wz73 pz74 => ?_)
      replace hB := pz74.below hB (by omega)
      replace h1 := pz74.other h1 (by omega)
      replace h4 := pz74.other h4 (by omega)
      replace h5 := pz74.other h5 (by omega)
      replace hS := hS.put pz74 naz72
      replace hz71 : At Wz73 we.heap.size (.cells (u8s (X)) 47 (0, 0)) := pz74.at_
      refine hK' _ _ ?_
      clear hK' K' pz74
      refine wpList_nil ?_
      go_upto_region 9 with (fail)
      refine wp_region_lit ?_
      refine ls_ex (some 35) (.agg (u8s (X))) rfl rfl (exec_load_all 47 _ rfl we.heap.size rfl _ _ _ hz71 Try.underlying47 rfl 27 (by kernel_rfl) ((u8s_size _).trans HXb.out.len)) ?_
      go_frame
      refine ls_op rfl (fun K' hK' => ?_)
      have lz77 := hB.size
      have lz78 := h1.lt
      have lz79 := h4.lt
      have lz80 := h5.lt
      have lz81 := hz71.lt
      refine wp_call1 (some 36) rfl 25 _ _ rfl (fun args w => by kernel_rfl) _ rfl _ (factorsOf_c X HXb.out _) (fun e Wz75 h => ?_)
      obtain ⟨rfl, bz76⟩ := h
      replace hB := below_after hB bz76
      replace h1 := h1.after bz76
      replace h4 := h4.after bz76
      replace h5 := h5.after bz76
      replace hS := hS.below bz76
      replace hz71 := hz71.after bz76
      clear bz76
      refine ⟨_, rfl, ?_⟩
      refine hK' _ _ ?_
      clear hK' K'
      go_frame
      refine ls_ex (some 37) (.int .i64 0) rfl rfl (exec_move _ rfl (.int .i64 0) rfl) ?_
      go_frame
      refine wpList_nil ?_
      go_wp2_with fail
      go_loopw [37] (fun s37 wr => ∃ t : Nat, t ≤ 3 ∧ s37 = .int .i64 t ∧ Below w.heap.size w wr ∧ At wr w.heap.size (.cells #[.int .i64 p, .int .i64 n, .int .i64 m, .int .i64 k, .slice AX N c] 31 (0, 0)) ∧ At wr Wz10.heap.size (.cells #[.int .i64 n, .int .i64 m, .int .i64 m, .int .i64 k, .int .i64 n, .int .i64 k] 53 (0, 0)) ∧ At wr Wz35.heap.size (.cells #[.map (some M0), .map (some M1), .map (some M2)] 56 (0, 0)) ∧ RaS wr zL zH M0 M1 M2 (raF p n m k) g cs gs N (midR (rkRow p n m k qs) i t)) (fun s37 _ => 3 - (intOf s37).toNat)
      case atStart => exact ⟨0, by omega, rfl, hB, h1, h4, h5, hS⟩
      case round =>
        clear hB h1 h4 h5 hS hz71
        obtain ⟨t, hle2, rfl, hB, h1, h4, h5, hS⟩ := hrel
        by_cases h0 : t = 0
        · subst h0
  
          rcases (hS.out.k0).split F0 with hq | hq
          · have HCI : Hid (cs[i]? = some (.slice (some ⟨gs i, 0, none⟩) 3 3)) := Lib.hid (by have h9 := hS.out.mat.cell i hlt; rw [midR_len HRl.out (by omega)] at h9; exact h9)
            obtain ⟨wk, rfl⟩ : ∃ z : World, z = wr := ⟨_, rfl⟩
            go_upto_region 10 with (fail)
            refine wp_region_lit ?_
            refine ls_ex (some 38) (.bool true) rfl rfl (exec_lss _ _ _ _ rfl 0 3 rfl rfl true (decide_eq_true (by omega))) ?_
            go_frame
            refine wpList_nil ?_
            go_upto_region 11 with (fail)
            refine wp_region_lit ?_
            refine ls_ex (some 39) (.int .i64 0) rfl rfl (exec_move _ rfl (.int .i64 0) rfl) ?_
            go_frame
            refine ls_ex (some 40) (.agg (u8s (F0))) rfl rfl (exec_index_part 58 45 _ _ rfl 3 0 9 _ (u8s F0) _ rfl rfl Try.underlying58 Try.underlying45 rfl (by kernel_rfl) (by omega) HE0.out) ?_
            go_frame
            refine ls_op rfl (fun K' hK' => ?_)
            have lz82 := hB.size
            have lz83 := h1.lt
            have lz84 := h4.lt
            have lz85 := h5.lt
            have naz90 := hS.away_new
            have naz91 := hq.away_new
            refine wp_new (some 10) rfl (alRw_impl_Form rfl) (fun Wz86 nnz87 => ?_)
            have bz88 := nnz87.below (Below.refl _ _) (Nat.le_refl _)
            replace hB := below_after hB bz88
            replace h1 := h1.after bz88
            replace h4 := h4.after bz88
            replace h5 := h5.after bz88
            replace hS := hS.below bz88
            replace hq := hq.below bz88
            have hz89 : At Wz86 wk.heap.size (.cells (u8s (List.replicate 9 0)) 45 (0, 0)) := nnz87.at_
            refine hK' _ _ ?_
            clear hK' K' nnz87 bz88
            go_frame
            refine ls_ex (some 9) (.int .i64 0) rfl rfl (exec_assign _ rfl (.int .i64 0) rfl) ?_
            go_frame
            refine ls_op rfl (fun K' hK' => ?_)
            refine wp_store_bytes 45 _ _ rfl rfl wk.heap.size rfl (F0) rfl _ _ hz89 9 (by kernel_rfl) Hb0.out.len (by simp) (fun Wz92 pz93 => ?_)
            replace hB := pz93.below hB (by omega)
            replace h1 := pz93.other h1 (by omega)
            replace h4 := pz93.other h4 (by omega)
            replace h5 := pz93.other h5 (by omega)
            replace hS := hS.put pz93 naz90
            replace hq := hq.put pz93 naz91
            replace hz89 : At Wz92 wk.heap.size (.cells (u8s (F0)) 45 (0, 0)) := pz93.at_
            refine hK' _ _ ?_
            clear hK' K' pz93
            refine wpList_nil ?_
            go_upto_region 12 with (fail)
            refine wp_region_y (zs := []) (S := fun w' => Below w.heap.size w w' ∧ At w' Wz35.heap.size (.cells #[.map (some M0), .map (some M1), .map (some M2)] 56 (0, 0)) ∧ At w' wk.heap.size (.cells (u8s (F0)) 45 (0, 0)) ∧ RaS w' zL zH M0 M1 M2 (raF p n m k) g cs gs N (midR (rkRow p n m k qs) i 0) ∧ MapQ w' M0 (HasK F0)) (S2 := fun w' => True) (by kernel_rfl) ?_
            change wpAnyY _ _ _ _ _ _ _ _ _ _ (World.drew _)
            generalize hwdz94 : World.drew _ = wdz94
            replace hB : Below w.heap.size w wdz94 := by rw [← hwdz94]; exact hB.drew
            replace h1 : At wdz94 w.heap.size (.cells #[.int .i64 p, .int .i64 n, .int .i64 m, .int .i64 k, .slice AX N c] 31 (0, 0)) := by rw [← hwdz94]; exact h1
            replace h4 : At wdz94 Wz10.heap.size (.cells #[.int .i64 n, .int .i64 m, .int .i64 m, .int .i64 k, .int .i64 n, .int .i64 k] 53 (0, 0)) := by rw [← hwdz94]; exact h4
            replace h5 : At wdz94 Wz35.heap.size (.cells #[.map (some M0), .map (some M1), .map (some M2)] 56 (0, 0)) := by rw [← hwdz94]; exact h5
            replace hS : RaS wdz94 zL zH M0 M1 M2 (raF p n m k) g cs gs N (midR (rkRow p n m k qs) i 0) := by rw [← hwdz94]; exact hS.drew
            replace hq : MapQ wdz94 M0 (HasK F0) := by rw [← hwdz94]; exact hq.drew
            replace hz89 : At wdz94 wk.heap.size (.cells (u8s (F0)) 45 (0, 0)) := by rw [← hwdz94]; exact hz89
            clear hwdz94
            refine y_yield 0 (some 42) (.int .i64 0) rfl (by kernel_rfl) (by kernel_rfl) (by kernel_rfl) (fun _ _ _ h => h) rfl rfl ⟨hB, h5, hz89, hS, hq⟩ (fun w' h' => exec_move _ rfl (.int .i64 0) rfl) ?_
            go_frame
            refine y_yield 1 (some 43) (.pointer (some ⟨Wz35.heap.size, 0, none⟩)) rfl (by kernel_rfl) (by kernel_rfl) (by kernel_rfl) (fun _ _ _ h => h) rfl rfl ⟨hB, h5, hz89, hS, hq⟩ (fun w' h' => exec_index_arr _ 55 _ _ rfl Wz35.heap.size 0 3 0 1 rfl rfl Try.underlying56 (by kernel_rfl) (by omega)) ?_
            go_frame
            refine y_yield 2 (some 44) (.map (some M0)) rfl (by kernel_rfl) (by kernel_rfl) (by kernel_rfl) (fun _ _ _ h => h) rfl rfl ⟨hB, h5, hz89, hS, hq⟩ (fun w' h' => exec_load_one 55 _ rfl Wz35.heap.size 0 rfl (.map (some M0)) _ Try.underlying55 rfl (cellA h'.2.1 rfl)) ?_
            go_frame
            refine y_yield 3 (some 45) (.agg (u8s (F0))) rfl (by kernel_rfl) (by kernel_rfl) (by kernel_rfl) (fun _ _ _ h => h) rfl rfl ⟨hB, h5, hz89, hS, hq⟩ (fun w' h' => exec_load_all 45 _ rfl wk.heap.size rfl _ _ _ h'.2.2.1 Try.underlying45 rfl 9 (by kernel_rfl) ((u8s_size _).trans Hb0.out.len)) ?_
            go_frame
            refine y_yield 4 (some 46) (.tuple #[.int .i64 (RA : Nat), .bool true]) rfl (by kernel_rfl) (by kernel_rfl) (by kernel_rfl) (fun _ _ _ h => h) rfl rfl ⟨hB, h5, hz89, hS, hq⟩ (fun w' h' => (exec_look _ _ rfl (h'.2.2.2.1.out.k0) F0 ⟨Hb0.out.len, HF0b.out⟩ ((RA : Nat) : Int) (raV0 HRA.out) rfl rfl).1 h'.2.2.2.2) ?_
            go_frame
            refine y_yield 5 (some 41) (.tuple #[.int .i64 (RA : Nat), .bool true]) rfl (by kernel_rfl) (by kernel_rfl) (by kernel_rfl) (fun _ _ _ h => h) rfl rfl ⟨hB, h5, hz89, hS, hq⟩ (fun w' h' => exec_move _ rfl (.tuple #[.int .i64 (RA : Nat), .bool true]) rfl) ?_
            go_frame
            refine y_yield 6 (some 47) (.int .i64 (RA : Nat)) rfl (by kernel_rfl) (by kernel_rfl) (by kernel_rfl) (fun _ _ _ h => h) rfl rfl ⟨hB, h5, hz89, hS, hq⟩ (fun w' h' => exec_extract _ 0 rfl #[.int .i64 (RA : Nat), .bool true] (by rfl) _ rfl) ?_
            go_frame
            refine y_yield 7 (some 48) (.bool true) rfl (by kernel_rfl) (by kernel_rfl) (by kernel_rfl) (fun _ _ _ h => h) rfl rfl ⟨hB, h5, hz89, hS, hq⟩ (fun w' h' => exec_extract _ 1 rfl #[.int .i64 (RA : Nat), .bool true] (by rfl) _ rfl) ?_
            go_frame
            refine y_oper 8 (by kernel_rfl) rfl rfl (fun K' hK' => ?_)
            refine wp_exec (some 11) rfl (.int .i64 (RA : Nat)) (exec_assign _ rfl (.int .i64 (RA : Nat)) rfl) ?_
            refine hK' _ _ ⟨hB, h5, hz89, hS, hq⟩ (fun _ => trivial) ?_
            clear hK' K'
            go_frame
            refine y_oper 9 (by kernel_rfl) rfl rfl (fun K' hK' => ?_)
            refine wp_exec (some 12) rfl (.bool true) (exec_assign _ rfl (.bool true) rfl) ?_
            refine hK' _ _ ⟨hB, h5, hz89, hS, hq⟩ (fun _ => trivial) ?_
            clear hK' K'
            go_frame
            refine y_done (by kernel_rfl) ?_ _
            go_upto_region 13 with (fail)
            refine wp_region_lit ?_
            refine ls_ex (some 49) (.bool true) rfl rfl (exec_move _ rfl (.bool true) rfl) ?_
            go_frame
            refine ls_ex (some 50) (.bool false) rfl rfl (exec_not _ _ rfl true rfl) ?_
            go_frame
            refine wpList_nil ?_
            go_upto_region 16 with (fail)
            refine wp_region_lit ?_
            refine ls_ex (some 63) (.slice (some ⟨g, 0, none⟩) N cM) rfl rfl (exec_move _ rfl (.slice (some ⟨g, 0, none⟩) N cM) rfl) ?_
            go_frame
            refine ls_ex (some 64) (.int .i64 i) rfl rfl (exec_move _ rfl (.int .i64 i) rfl) ?_
            go_frame
            refine ls_ex (some 65) (.pointer (some ⟨g, i, none⟩)) rfl rfl (exec_index0 _ 49 _ _ rfl g N cM i rfl rfl Try.underlying26 (by kernel_rfl) hlt) ?_
            go_frame
            refine ls_ex (some 66) (.slice (some ⟨gs i, 0, none⟩) 3 3) rfl rfl (exec_load_one 49 _ rfl g i rfl (.slice (some ⟨gs i, 0, none⟩) 3 3) _ Try.underlying49 rfl (cellA hS.out.mat.out HCI.out)) ?_
            go_frame
            refine ls_ex (some 67) (.int .i64 0) rfl rfl (exec_move _ rfl (.int .i64 0) rfl) ?_
            go_frame
            refine ls_ex (some 68) (.int .i64 (RA : Nat)) rfl rfl (exec_move _ rfl (.int .i64 (RA : Nat)) rfl) ?_
            go_frame
            refine ls_ex (some 69) (.pointer (some ⟨gs i, 0, none⟩)) rfl rfl (exec_index0 _ 2 _ _ rfl (gs i) 3 3 0 rfl rfl Try.underlying49 (by kernel_rfl) (by omega)) ?_
            go_frame
            refine ls_op rfl (fun K' hK' => ?_)
            have lz97 := hB.size
            have lz98 := h1.lt
            have lz99 := h4.lt
            have lz100 := h5.lt
            have lz101 := hz89.lt
            clear hq
            have lr9 := (hS.out.mat.row i hlt).2
            have lt9 := hS.out.top
            refine wp_store_one 2 _ _ rfl rfl (gs i) 0 rfl (.int .i64 (RA : Nat)) rfl rfl rfl _ _ (hS.out.mat.row i hlt).1 (by kernel_rfl) (by rw [iar_sizeR, midR_len HRl.out (by omega)]; omega) (fun Wz95 pz96 => ?_)
            replace hB := pz96.below hB (by omega)
            replace h1 := pz96.other h1 (by omega)
            replace h4 := pz96.other h4 (by omega)
            replace h5 := pz96.other h5 (by omega)
            replace hz89 := pz96.other hz89 (by omega)
            replace hS := hS.fill HRl.out hlt (by omega) (by rw [HRow.out]; rfl) pz96
            refine hK' _ _ ?_
            clear hK' K' pz96 lr9 lt9
            refine wpList_nil ?_
            go_upto_region 17 with (fail)
            refine wp_region_lit ?_
            refine ls_ex (some 70) (.int .i64 1) rfl rfl (exec_add _ _ _ _ rfl 0 1 1 rfl rfl rfl) ?_
            go_frame
            refine ls_ex (some 37) (.int .i64 1) rfl rfl (exec_move _ rfl (.int .i64 1) rfl) ?_
            go_frame
            refine wpList_nil ?_
            go_wp2_with fail
            go_roundw
            case rel => exact ⟨1, by omega, rfl, hB, h1, h4, h5, hS⟩
            case measure => simp [intOf] <;> omega
          · have HCI : Hid (cs[i]? = some (.slice (some ⟨gs i, 0, none⟩) 3 3)) := Lib.hid (by have h9 := hS.out.mat.cell i hlt; rw [midR_len HRl.out (by omega)] at h9; exact h9)
            obtain ⟨wk, rfl⟩ : ∃ z : World, z = wr := ⟨_, rfl⟩
            go_upto_region 10 with (fail)
            refine wp_region_lit ?_
            refine ls_ex (some 38) (.bool true) rfl rfl (exec_lss _ _ _ _ rfl 0 3 rfl rfl true (decide_eq_true (by omega))) ?_
            go_frame
            refine wpList_nil ?_
            go_upto_region 11 with (fail)
            refine wp_region_lit ?_
            refine ls_ex (some 39) (.int .i64 0) rfl rfl (exec_move _ rfl (.int .i64 0) rfl) ?_
            go_frame
            refine ls_ex (some 40) (.agg (u8s (F0))) rfl rfl (exec_index_part 58 45 _ _ rfl 3 0 9 _ (u8s F0) _ rfl rfl Try.underlying58 Try.underlying45 rfl (by kernel_rfl) (by omega) HE0.out) ?_
            go_frame
            refine ls_op rfl (fun K' hK' => ?_)
            have lz102 := hB.size
            have lz103 := h1.lt
            have lz104 := h4.lt
            have lz105 := h5.lt
            have naz110 := hS.away_new
            have naz111 := hq.away_new
            refine wp_new (some 10) rfl (alRw_impl_Form rfl) (fun Wz106 nnz107 => ?_)
            have bz108 := nnz107.below (Below.refl _ _) (Nat.le_refl _)
            replace hB := below_after hB bz108
            replace h1 := h1.after bz108
            replace h4 := h4.after bz108
            replace h5 := h5.after bz108
            replace hS := hS.below bz108
            replace hq := hq.below bz108
            have hz109 : At Wz106 wk.heap.size (.cells (u8s (List.replicate 9 0)) 45 (0, 0)) := nnz107.at_
            refine hK' _ _ ?_
            clear hK' K' nnz107 bz108
            go_frame
            refine ls_ex (some 9) (.int .i64 0) rfl rfl (exec_assign _ rfl (.int .i64 0) rfl) ?_
            go_frame
            refine ls_op rfl (fun K' hK' => ?_)
            refine wp_store_bytes 45 _ _ rfl rfl wk.heap.size rfl (F0) rfl _ _ hz109 9 (by kernel_rfl) Hb0.out.len (by simp) (fun Wz112 pz113 => ?_)
            replace hB := pz113.below hB (by omega)
            replace h1 := pz113.other h1 (by omega)
            replace h4 := pz113.other h4 (by omega)
            replace h5 := pz113.other h5 (by omega)
            replace hS := hS.put pz113 naz110
            replace hq := hq.put pz113 naz111
            replace hz109 : At Wz112 wk.heap.size (.cells (u8s (F0)) 45 (0, 0)) := pz113.at_
            refine hK' _ _ ?_
            clear hK' K' pz113
            refine wpList_nil ?_
            go_upto_region 12 with (fail)
            refine wp_region_y (zs := []) (S := fun w' => Below w.heap.size w w' ∧ At w' Wz35.heap.size (.cells #[.map (some M0), .map (some M1), .map (some M2)] 56 (0, 0)) ∧ At w' wk.heap.size (.cells (u8s (F0)) 45 (0, 0)) ∧ RaS w' zL zH M0 M1 M2 (raF p n m k) g cs gs N (midR (rkRow p n m k qs) i 0) ∧ MapQ w' M0 (fun es => ¬ HasK F0 es)) (S2 := fun w' => True) (by kernel_rfl) ?_
            change wpAnyY _ _ _ _ _ _ _ _ _ _ (World.drew _)
            generalize hwdz114 : World.drew _ = wdz114
            replace hB : Below w.heap.size w wdz114 := by rw [← hwdz114]; exact hB.drew
            replace h1 : At wdz114 w.heap.size (.cells #[.int .i64 p, .int .i64 n, .int .i64 m, .int .i64 k, .slice AX N c] 31 (0, 0)) := by rw [← hwdz114]; exact h1
            replace h4 : At wdz114 Wz10.heap.size (.cells #[.int .i64 n, .int .i64 m, .int .i64 m, .int .i64 k, .int .i64 n, .int .i64 k] 53 (0, 0)) := by rw [← hwdz114]; exact h4
            replace h5 : At wdz114 Wz35.heap.size (.cells #[.map (some M0), .map (some M1), .map (some M2)] 56 (0, 0)) := by rw [← hwdz114]; exact h5
            replace hS : RaS wdz114 zL zH M0 M1 M2 (raF p n m k) g cs gs N (midR (rkRow p n m k qs) i 0) := by rw [← hwdz114]; exact hS.drew
            replace hq : MapQ wdz114 M0 (fun es => ¬ HasK F0 es) := by rw [← hwdz114]; exact hq.drew
            replace hz109 : At wdz114 wk.heap.size (.cells (u8s (F0)) 45 (0, 0)) := by rw [← hwdz114]; exact hz109
            clear hwdz114
            refine y_yield 0 (some 42) (.int .i64 0) rfl (by kernel_rfl) (by kernel_rfl) (by kernel_rfl) (fun _ _ _ h => h) rfl rfl ⟨hB, h5, hz109, hS, hq⟩ (fun w' h' => exec_move _ rfl (.int .i64 0) rfl) ?_
            go_frame
            refine y_yield 1 (some 43) (.pointer (some ⟨Wz35.heap.size, 0, none⟩)) rfl (by kernel_rfl) (by kernel_rfl) (by kernel_rfl) (fun _ _ _ h => h) rfl rfl ⟨hB, h5, hz109, hS, hq⟩ (fun w' h' => exec_index_arr _ 55 _ _ rfl Wz35.heap.size 0 3 0 1 rfl rfl Try.underlying56 (by kernel_rfl) (by omega)) ?_
            go_frame
            refine y_yield 2 (some 44) (.map (some M0)) rfl (by kernel_rfl) (by kernel_rfl) (by kernel_rfl) (fun _ _ _ h => h) rfl rfl ⟨hB, h5, hz109, hS, hq⟩ (fun w' h' => exec_load_one 55 _ rfl Wz35.heap.size 0 rfl (.map (some M0)) _ Try.underlying55 rfl (cellA h'.2.1 rfl)) ?_
            go_frame
            refine y_yield 3 (some 45) (.agg (u8s (F0))) rfl (by kernel_rfl) (by kernel_rfl) (by kernel_rfl) (fun _ _ _ h => h) rfl rfl ⟨hB, h5, hz109, hS, hq⟩ (fun w' h' => exec_load_all 45 _ rfl wk.heap.size rfl _ _ _ h'.2.2.1 Try.underlying45 rfl 9 (by kernel_rfl) ((u8s_size _).trans Hb0.out.len)) ?_
            go_frame
            refine y_yield 4 (some 46) (.tuple #[.int .i64 0, .bool false]) rfl (by kernel_rfl) (by kernel_rfl) (by kernel_rfl) (fun _ _ _ h => h) rfl rfl ⟨hB, h5, hz109, hS, hq⟩ (fun w' h' => (exec_look _ _ rfl (h'.2.2.2.1.out.k0) F0 ⟨Hb0.out.len, HF0b.out⟩ ((RA : Nat) : Int) (raV0 HRA.out) rfl rfl).2 h'.2.2.2.2) ?_
            go_frame
            refine y_yield 5 (some 41) (.tuple #[.int .i64 0, .bool false]) rfl (by kernel_rfl) (by kernel_rfl) (by kernel_rfl) (fun _ _ _ h => h) rfl rfl ⟨hB, h5, hz109, hS, hq⟩ (fun w' h' => exec_move _ rfl (.tuple #[.int .i64 0, .bool false]) rfl) ?_
            go_frame
            refine y_yield 6 (some 47) (.int .i64 0) rfl (by kernel_rfl) (by kernel_rfl) (by kernel_rfl) (fun _ _ _ h => h) rfl rfl ⟨hB, h5, hz109, hS, hq⟩ (fun w' h' => exec_extract _ 0 rfl #[.int .i64 0, .bool false] (by rfl) _ rfl) ?_
            go_frame
            refine y_yield 7 (some 48) (.bool false) rfl (by kernel_rfl) (by kernel_rfl) (by kernel_rfl) (fun _ _ _ h => h) rfl rfl ⟨hB, h5, hz109, hS, hq⟩ (fun w' h' => exec_extract _ 1 rfl #[.int .i64 0, .bool false] (by rfl) _ rfl) ?_
            go_frame
            refine y_oper 8 (by kernel_rfl) rfl rfl (fun K' hK' => ?_)
            refine wp_exec (some 11) rfl (.int .i64 0) (exec_assign _ rfl (.int .i64 0) rfl) ?_
            refine hK' _ _ ⟨hB, h5, hz109, hS, hq⟩ (fun _ => trivial) ?_
            clear hK' K'
            go_frame
            refine y_oper 9 (by kernel_rfl) rfl rfl (fun K' hK' => ?_)
            refine wp_exec (some 12) rfl (.bool false) (exec_assign _ rfl (.bool false) rfl) ?_
            refine hK' _ _ ⟨hB, h5, hz109, hS, hq⟩ (fun _ => trivial) ?_
            clear hK' K'
            go_frame
            refine y_done (by kernel_rfl) ?_ _
            go_upto_region 13 with (fail)
            refine wp_region_lit ?_
            refine ls_ex (some 49) (.bool false) rfl rfl (exec_move _ rfl (.bool false) rfl) ?_
            go_frame
            refine ls_ex (some 50) (.bool true) rfl rfl (exec_not _ _ rfl false rfl) ?_
            go_frame
            refine wpList_nil ?_
            go_upto_region 14 with (fail)
            refine wp_region_y (zs := []) (S := fun w' => Below w.heap.size w w' ∧ At w' w.heap.size (.cells #[.int .i64 p, .int .i64 n, .int .i64 m, .int .i64 k, .slice AX N c] 31 (0, 0)) ∧ At w' Wz10.heap.size (.cells #[.int .i64 n, .int .i64 m, .int .i64 m, .int .i64 k, .int .i64 n, .int .i64 k] 53 (0, 0)) ∧ At w' wk.heap.size (.cells (u8s (F0)) 45 (0, 0))) (S2 := fun w' => True) (by kernel_rfl) ?_
            change wpAnyY _ _ _ _ _ _ _ _ _ _ (World.drew _)
            generalize hwdz115 : World.drew _ = wdz115
            replace hB : Below w.heap.size w wdz115 := by rw [← hwdz115]; exact hB.drew
            replace h1 : At wdz115 w.heap.size (.cells #[.int .i64 p, .int .i64 n, .int .i64 m, .int .i64 k, .slice AX N c] 31 (0, 0)) := by rw [← hwdz115]; exact h1
            replace h4 : At wdz115 Wz10.heap.size (.cells #[.int .i64 n, .int .i64 m, .int .i64 m, .int .i64 k, .int .i64 n, .int .i64 k] 53 (0, 0)) := by rw [← hwdz115]; exact h4
            replace h5 : At wdz115 Wz35.heap.size (.cells #[.map (some M0), .map (some M1), .map (some M2)] 56 (0, 0)) := by rw [← hwdz115]; exact h5
            replace hS : RaS wdz115 zL zH M0 M1 M2 (raF p n m k) g cs gs N (midR (rkRow p n m k qs) i 0) := by rw [← hwdz115]; exact hS.drew
            replace hq : MapQ wdz115 M0 (fun es => ¬ HasK F0 es) := by rw [← hwdz115]; exact hq.drew
            replace hz109 : At wdz115 wk.heap.size (.cells (u8s (F0)) 45 (0, 0)) := by rw [← hwdz115]; exact hz109
            clear hwdz115
            refine y_yield 0 (some 51) (.pointer (some ⟨w.heap.size, 0, none⟩)) rfl (by kernel_rfl) (by kernel_rfl) (by kernel_rfl) (fun _ _ _ h => h) rfl rfl ⟨hB, h1, h4, hz109⟩ (fun w' h' => exec_fieldAddr 31 _ 0 rfl _ (by kernel_rfl)) ?_
            go_frame
            refine y_yield 1 (some 52) (.int .i64 p) rfl (by kernel_rfl) (by kernel_rfl) (by kernel_rfl) (fun _ _ _ h => h) rfl rfl ⟨hB, h1, h4, hz109⟩ (fun w' h' => exec_load_one 2 _ rfl w.heap.size 0 rfl (.int .i64 p) _ Try.underlying2 rfl (h'.2.1.at_ 0)) ?_
            go_frame
            refine y_yield 2 (some 53) (.int .i64 0) rfl (by kernel_rfl) (by kernel_rfl) (by kernel_rfl) (fun _ _ _ h => h) rfl rfl ⟨hB, h1, h4, hz109⟩ (fun w' h' => exec_move _ rfl (.int .i64 0) rfl) ?_
            go_frame
            refine y_yield 3 (some 54) (.pointer (some ⟨Wz10.heap.size, 0, none⟩)) rfl (by kernel_rfl) (by kernel_rfl) (by kernel_rfl) (fun _ _ _ h => h) rfl rfl ⟨hB, h1, h4, hz109⟩ (fun w' h' => exec_index_arr _ 52 _ _ rfl Wz10.heap.size 0 3 0 2 rfl rfl Try.underlying53 (by kernel_rfl) (by omega)) ?_
            go_frame
            refine y_yield 4 (some 55) (.agg #[.int .i64 n, .int .i64 m]) rfl (by kernel_rfl) (by kernel_rfl) (by kernel_rfl) (fun _ _ _ h => h) rfl rfl ⟨hB, h1, h4, hz109⟩ (fun w' h' => exec_load_lit 52 _ rfl Wz10.heap.size 0 rfl _ _ _ 2 h'.2.2.1 Try.underlying52 rfl (by kernel_rfl) (by simp) #[.int .i64 n, .int .i64 m] rfl) ?_
            go_frame
            refine y_yield 5 (some 56) (.agg (u8s (F0))) rfl (by kernel_rfl) (by kernel_rfl) (by kernel_rfl) (fun _ _ _ h => h) rfl rfl ⟨hB, h1, h4, hz109⟩ (fun w' h' => exec_load_all 45 _ rfl wk.heap.size rfl _ _ _ h'.2.2.2 Try.underlying45 rfl 9 (by kernel_rfl) ((u8s_size _).trans Hb0.out.len)) ?_
            go_frame
            refine y_oper 6 (by kernel_rfl) rfl rfl (fun K' hK' => ?_)
            have lz118 := hB.size
            have lz119 := h1.lt
            have lz120 := h4.lt
            have lz121 := h5.lt
            have lz122 := hz109.lt
            refine wp_call3 (some 57) rfl 26 _ _ _ _ rfl (fun args w => by kernel_rfl) _ _ _ rfl rfl rfl _ (B.rankOfForm_c p n m F0 _ hpr hsn hsm Hb0.out.len HL0.out) (fun e Wz116 h => ?_)
            obtain ⟨rfl, bz117⟩ := h
            replace hB := below_after hB bz117
            replace h1 := h1.after bz117
            replace h4 := h4.after bz117
            replace h5 := h5.after bz117
            replace hS := hS.below bz117
            replace hq := hq.below bz117
            replace hz109 := hz109.after bz117
            rw [HRA.out]
            clear bz117
            refine ⟨_, rfl, ?_⟩
            refine hK' _ _ ⟨hB, h1, h4, hz109⟩ (fun _ => trivial) ?_
            clear hK' K'
            go_frame
            refine y_oper 7 (by kernel_rfl) rfl rfl (fun K' hK' => ?_)
            refine wp_exec (some 11) rfl (.int .i64 (RA : Nat)) (exec_assign _ rfl (.int .i64 (RA : Nat)) rfl) ?_
            refine hK' _ _ ⟨hB, h1, h4, hz109⟩ (fun _ => trivial) ?_
            clear hK' K'
            go_frame
            refine y_done (by kernel_rfl) ?_ _
            go_upto_region 15 with (fail)
            refine wp_region_y (zs := []) (S := fun w' => Below w.heap.size w w' ∧ At w' Wz35.heap.size (.cells #[.map (some M0), .map (some M1), .map (some M2)] 56 (0, 0)) ∧ At w' wk.heap.size (.cells (u8s (F0)) 45 (0, 0))) (S2 := fun w' => True) (by kernel_rfl) ?_
            change wpAnyY _ _ _ _ _ _ _ _ _ _ (World.drew _)
            generalize hwdz123 : World.drew _ = wdz123
            replace hB : Below w.heap.size w wdz123 := by rw [← hwdz123]; exact hB.drew
            replace h1 : At wdz123 w.heap.size (.cells #[.int .i64 p, .int .i64 n, .int .i64 m, .int .i64 k, .slice AX N c] 31 (0, 0)) := by rw [← hwdz123]; exact h1
            replace h4 : At wdz123 Wz10.heap.size (.cells #[.int .i64 n, .int .i64 m, .int .i64 m, .int .i64 k, .int .i64 n, .int .i64 k] 53 (0, 0)) := by rw [← hwdz123]; exact h4
            replace h5 : At wdz123 Wz35.heap.size (.cells #[.map (some M0), .map (some M1), .map (some M2)] 56 (0, 0)) := by rw [← hwdz123]; exact h5
            replace hS : RaS wdz123 zL zH M0 M1 M2 (raF p n m k) g cs gs N (midR (rkRow p n m k qs) i 0) := by rw [← hwdz123]; exact hS.drew
            replace hq : MapQ wdz123 M0 (fun es => ¬ HasK F0 es) := by rw [← hwdz123]; exact hq.drew
            replace hz109 : At wdz123 wk.heap.size (.cells (u8s (F0)) 45 (0, 0)) := by rw [← hwdz123]; exact hz109
            clear hwdz123
            refine y_yield 0 (some 58) (.int .i64 0) rfl (by kernel_rfl) (by kernel_rfl) (by kernel_rfl) (fun _ _ _ h => h) rfl rfl ⟨hB, h5, hz109⟩ (fun w' h' => exec_move _ rfl (.int .i64 0) rfl) ?_
            go_frame
            refine y_yield 1 (some 59) (.pointer (some ⟨Wz35.heap.size, 0, none⟩)) rfl (by kernel_rfl) (by kernel_rfl) (by kernel_rfl) (fun _ _ _ h => h) rfl rfl ⟨hB, h5, hz109⟩ (fun w' h' => exec_index_arr _ 55 _ _ rfl Wz35.heap.size 0 3 0 1 rfl rfl Try.underlying56 (by kernel_rfl) (by omega)) ?_
            go_frame
            refine y_yield 2 (some 60) (.map (some M0)) rfl (by kernel_rfl) (by kernel_rfl) (by kernel_rfl) (fun _ _ _ h => h) rfl rfl ⟨hB, h5, hz109⟩ (fun w' h' => exec_load_one 55 _ rfl Wz35.heap.size 0 rfl (.map (some M0)) _ Try.underlying55 rfl (cellA h'.2.1 rfl)) ?_
            go_frame
            refine y_yield 3 (some 61) (.agg (u8s (F0))) rfl (by kernel_rfl) (by kernel_rfl) (by kernel_rfl) (fun _ _ _ h => h) rfl rfl ⟨hB, h5, hz109⟩ (fun w' h' => exec_load_all 45 _ rfl wk.heap.size rfl _ _ _ h'.2.2 Try.underlying45 rfl 9 (by kernel_rfl) ((u8s_size _).trans Hb0.out.len)) ?_
            go_frame
            refine y_yield 4 (some 62) (.int .i64 (RA : Nat)) rfl (by kernel_rfl) (by kernel_rfl) (by kernel_rfl) (fun _ _ _ h => h) rfl rfl ⟨hB, h5, hz109⟩ (fun w' h' => exec_move _ rfl (.int .i64 (RA : Nat)) rfl) ?_
            go_frame
            refine y_oper 5 (by kernel_rfl) rfl rfl (fun K' hK' => ?_)
            have lz127 := hB.size
            have lz128 := h1.lt
            have lz129 := h4.lt
            have lz130 := h5.lt
            have lz131 := hz109.lt
            clear hq
            have lm9 := hS.out.lt
            have lh9 := hS.lohi
            have lt9 := hS.out.top
            refine wp_mapUpF _ _ _ rfl rfl (hS.out.k0) F0 ((RA : Nat) : Int) ⟨Hb0.out.len, HF0b.out⟩ rfl rfl rfl (raF0 HRA.out) (fun es9 cl9 Wz124 pz125 hmz126 => ?_)
            replace hB := pz125.below hB (by omega)
            replace h1 := pz125.other h1 (by omega)
            replace h4 := pz125.other h4 (by omega)
            replace h5 := pz125.other h5 (by omega)
            replace hz109 := pz125.other hz109 (by omega)
            replace hS := hS.upd (t := 0) (by omega) pz125 hmz126
            refine hK' _ _ ⟨hB, h5, hz109⟩ (fun _ => trivial) ?_
            clear hK' K' pz125 hmz126 lm9 lh9 lt9
            refine y_done (by kernel_rfl) ?_ _
            go_upto_region 16 with (fail)
            refine wp_region_lit ?_
            refine ls_ex (some 63) (.slice (some ⟨g, 0, none⟩) N cM) rfl rfl (exec_move _ rfl (.slice (some ⟨g, 0, none⟩) N cM) rfl) ?_
            go_frame
            refine ls_ex (some 64) (.int .i64 i) rfl rfl (exec_move _ rfl (.int .i64 i) rfl) ?_
            go_frame
            refine ls_ex (some 65) (.pointer (some ⟨g, i, none⟩)) rfl rfl (exec_index0 _ 49 _ _ rfl g N cM i rfl rfl Try.underlying26 (by kernel_rfl) hlt) ?_
            go_frame
            refine ls_ex (some 66) (.slice (some ⟨gs i, 0, none⟩) 3 3) rfl rfl (exec_load_one 49 _ rfl g i rfl (.slice (some ⟨gs i, 0, none⟩) 3 3) _ Try.underlying49 rfl (cellA hS.out.mat.out HCI.out)) ?_
            go_frame
            refine ls_ex (some 67) (.int .i64 0) rfl rfl (exec_move _ rfl (.int .i64 0) rfl) ?_
            go_frame
            refine ls_ex (some 68) (.int .i64 (RA : Nat)) rfl rfl (exec_move _ rfl (.int .i64 (RA : Nat)) rfl) ?_
            go_frame
            refine ls_ex (some 69) (.pointer (some ⟨gs i, 0, none⟩)) rfl rfl (exec_index0 _ 2 _ _ rfl (gs i) 3 3 0 rfl rfl Try.underlying49 (by kernel_rfl) (by omega)) ?_
            go_frame
            refine ls_op rfl (fun K' hK' => ?_)
            have lz134 := hB.size
            have lz135 := h1.lt
            have lz136 := h4.lt
            have lz137 := h5.lt
            have lz138 := hz109.lt
            have lr9 := (hS.out.mat.row i hlt).2
            have lt9 := hS.out.top
            refine wp_store_one 2 _ _ rfl rfl (gs i) 0 rfl (.int .i64 (RA : Nat)) rfl rfl rfl _ _ (hS.out.mat.row i hlt).1 (by kernel_rfl) (by rw [iar_sizeR, midR_len HRl.out (by omega)]; omega) (fun Wz132 pz133 => ?_)
            replace hB := pz133.below hB (by omega)
            replace h1 := pz133.other h1 (by omega)
            replace h4 := pz133.other h4 (by omega)
            replace h5 := pz133.other h5 (by omega)
            replace hz109 := pz133.other hz109 (by omega)
            replace hS := hS.fill HRl.out hlt (by omega) (by rw [HRow.out]; rfl) pz133
            refine hK' _ _ ?_
            clear hK' K' pz133 lr9 lt9
            refine wpList_nil ?_
            go_upto_region 17 with (fail)
            refine wp_region_lit ?_
            refine ls_ex (some 70) (.int .i64 1) rfl rfl (exec_add _ _ _ _ rfl 0 1 1 rfl rfl rfl) ?_
            go_frame
            refine ls_ex (some 37) (.int .i64 1) rfl rfl (exec_move _ rfl (.int .i64 1) rfl) ?_
            go_frame
            refine wpList_nil ?_
            go_wp2_with fail
            go_roundw
            case rel => exact ⟨1, by omega, rfl, hB, h1, h4, h5, hS⟩
            case measure => simp [intOf] <;> omega
        · by_cases h1t : t = 1
          · subst h1t
  
            rcases (hS.out.k1).split F1 with hq | hq
            · have HCI : Hid (cs[i]? = some (.slice (some ⟨gs i, 0, none⟩) 3 3)) := Lib.hid (by have h9 := hS.out.mat.cell i hlt; rw [midR_len HRl.out (by omega)] at h9; exact h9)
              obtain ⟨wk, rfl⟩ : ∃ z : World, z = wr := ⟨_, rfl⟩
              go_upto_region 10 with (fail)
              refine wp_region_lit ?_
              refine ls_ex (some 38) (.bool true) rfl rfl (exec_lss _ _ _ _ rfl 1 3 rfl rfl true (decide_eq_true (by omega))) ?_
              go_frame
              refine wpList_nil ?_
              go_upto_region 11 with (fail)
              refine wp_region_lit ?_
              refine ls_ex (some 39) (.int .i64 1) rfl rfl (exec_move _ rfl (.int .i64 1) rfl) ?_
              go_frame
              refine ls_ex (some 40) (.agg (u8s (F1))) rfl rfl (exec_index_part 58 45 _ _ rfl 3 1 9 _ (u8s F1) _ rfl rfl Try.underlying58 Try.underlying45 rfl (by kernel_rfl) (by omega) HE1.out) ?_
              go_frame
              refine ls_op rfl (fun K' hK' => ?_)
              have lz139 := hB.size
              have lz140 := h1.lt
              have lz141 := h4.lt
              have lz142 := h5.lt
              have naz147 := hS.away_new
              have naz148 := hq.away_new
              refine wp_new (some 10) rfl (alRw_impl_Form rfl) (fun Wz143 nnz144 => ?_)
              have bz145 := nnz144.below (Below.refl _ _) (Nat.le_refl _)
              replace hB := below_after hB bz145
              replace h1 := h1.after bz145
              replace h4 := h4.after bz145
              replace h5 := h5.after bz145
              replace hS := hS.below bz145
              replace hq := hq.below bz145
              have hz146 : At Wz143 wk.heap.size (.cells (u8s (List.replicate 9 0)) 45 (0, 0)) := nnz144.at_
              refine hK' _ _ ?_
              clear hK' K' nnz144 bz145
              go_frame
              refine ls_ex (some 9) (.int .i64 1) rfl rfl (exec_assign _ rfl (.int .i64 1) rfl) ?_
              go_frame
              refine ls_op rfl (fun K' hK' => ?_)
              refine wp_store_bytes 45 _ _ rfl rfl wk.heap.size rfl (F1) rfl _ _ hz146 9 (by kernel_rfl) Hb1.out.len (by simp) (fun Wz149 pz150 => ?_)
              replace hB := pz150.below hB (by omega)
              replace h1 := pz150.other h1 (by omega)
              replace h4 := pz150.other h4 (by omega)
              replace h5 := pz150.other h5 (by omega)
              replace hS := hS.put pz150 naz147
              replace hq := hq.put pz150 naz148
              replace hz146 : At Wz149 wk.heap.size (.cells (u8s (F1)) 45 (0, 0)) := pz150.at_
              refine hK' _ _ ?_
              clear hK' K' pz150
              refine wpList_nil ?_
              go_upto_region 12 with (fail)
              refine wp_region_y (zs := []) (S := fun w' => Below w.heap.size w w' ∧ At w' Wz35.heap.size (.cells #[.map (some M0), .map (some M1), .map (some M2)] 56 (0, 0)) ∧ At w' wk.heap.size (.cells (u8s (F1)) 45 (0, 0)) ∧ RaS w' zL zH M0 M1 M2 (raF p n m k) g cs gs N (midR (rkRow p n m k qs) i 1) ∧ MapQ w' M1 (HasK F1)) (S2 := fun w' => True) (by kernel_rfl) ?_
              change wpAnyY _ _ _ _ _ _ _ _ _ _ (World.drew _)
              generalize hwdz151 : World.drew _ = wdz151
              replace hB : Below w.heap.size w wdz151 := by rw [← hwdz151]; exact hB.drew
              replace h1 : At wdz151 w.heap.size (.cells #[.int .i64 p, .int .i64 n, .int .i64 m, .int .i64 k, .slice AX N c] 31 (0, 0)) := by rw [← hwdz151]; exact h1
              replace h4 : At wdz151 Wz10.heap.size (.cells #[.int .i64 n, .int .i64 m, .int .i64 m, .int .i64 k, .int .i64 n, .int .i64 k] 53 (0, 0)) := by rw [← hwdz151]; exact h4
              replace h5 : At wdz151 Wz35.heap.size (.cells #[.map (some M0), .map (some M1), .map (some M2)] 56 (0, 0)) := by rw [← hwdz151]; exact h5
              replace hS : RaS wdz151 zL zH M0 M1 M2 (raF p n m k) g cs gs N (midR (rkRow p n m k qs) i 1) := by rw [← hwdz151]; exact hS.drew
              replace hq : MapQ wdz151 M1 (HasK F1) := by rw [← hwdz151]; exact hq.drew
              replace hz146 : At wdz151 wk.heap.size (.cells (u8s (F1)) 45 (0, 0)) := by rw [← hwdz151]; exact hz146
              clear hwdz151
              refine y_yield 0 (some 42) (.int .i64 1) rfl (by kernel_rfl) (by kernel_rfl) (by kernel_rfl) (fun _ _ _ h => h) rfl rfl ⟨hB, h5, hz146, hS, hq⟩ (fun w' h' => exec_move _ rfl (.int .i64 1) rfl) ?_
              go_frame
              refine y_yield 1 (some 43) (.pointer (some ⟨Wz35.heap.size, 1, none⟩)) rfl (by kernel_rfl) (by kernel_rfl) (by kernel_rfl) (fun _ _ _ h => h) rfl rfl ⟨hB, h5, hz146, hS, hq⟩ (fun w' h' => exec_index_arr _ 55 _ _ rfl Wz35.heap.size 0 3 1 1 rfl rfl Try.underlying56 (by kernel_rfl) (by omega)) ?_
              go_frame
              refine y_yield 2 (some 44) (.map (some M1)) rfl (by kernel_rfl) (by kernel_rfl) (by kernel_rfl) (fun _ _ _ h => h) rfl rfl ⟨hB, h5, hz146, hS, hq⟩ (fun w' h' => exec_load_one 55 _ rfl Wz35.heap.size 1 rfl (.map (some M1)) _ Try.underlying55 rfl (cellA h'.2.1 rfl)) ?_
              go_frame
              refine y_yield 3 (some 45) (.agg (u8s (F1))) rfl (by kernel_rfl) (by kernel_rfl) (by kernel_rfl) (fun _ _ _ h => h) rfl rfl ⟨hB, h5, hz146, hS, hq⟩ (fun w' h' => exec_load_all 45 _ rfl wk.heap.size rfl _ _ _ h'.2.2.1 Try.underlying45 rfl 9 (by kernel_rfl) ((u8s_size _).trans Hb1.out.len)) ?_
              go_frame
              refine y_yield 4 (some 46) (.tuple #[.int .i64 (RB : Nat), .bool true]) rfl (by kernel_rfl) (by kernel_rfl) (by kernel_rfl) (fun _ _ _ h => h) rfl rfl ⟨hB, h5, hz146, hS, hq⟩ (fun w' h' => (exec_look _ _ rfl (h'.2.2.2.1.out.k1) F1 ⟨Hb1.out.len, HF1b.out⟩ ((RB : Nat) : Int) (raV1 HRB.out) rfl rfl).1 h'.2.2.2.2) ?_
              go_frame
              refine y_yield 5 (some 41) (.tuple #[.int .i64 (RB : Nat), .bool true]) rfl (by kernel_rfl) (by kernel_rfl) (by kernel_rfl) (fun _ _ _ h => h) rfl rfl ⟨hB, h5, hz146, hS, hq⟩ (fun w' h' => exec_move _ rfl (.tuple #[.int .i64 (RB : Nat), .bool true]) rfl) ?_
              go_frame
              refine y_yield 6 (some 47) (.int .i64 (RB : Nat)) rfl (by kernel_rfl) (by kernel_rfl) (by kernel_rfl) (fun _ _ _ h => h) rfl rfl ⟨hB, h5, hz146, hS, hq⟩ (fun w' h' => exec_extract _ 0 rfl #[.int .i64 (RB : Nat), .bool true] (by rfl) _ rfl) ?_
              go_frame
              refine y_yield 7 (some 48) (.bool true) rfl (by kernel_rfl) (by kernel_rfl) (by kernel_rfl) (fun _ _ _ h => h) rfl rfl ⟨hB, h5, hz146, hS, hq⟩ (fun w' h' => exec_extract _ 1 rfl #[.int .i64 (RB : Nat), .bool true] (by rfl) _ rfl) ?_
              go_frame
              refine y_oper 8 (by kernel_rfl) rfl rfl (fun K' hK' => ?_)
              refine wp_exec (some 11) rfl (.int .i64 (RB : Nat)) (exec_assign _ rfl (.int .i64 (RB : Nat)) rfl) ?_
              refine hK' _ _ ⟨hB, h5, hz146, hS, hq⟩ (fun _ => trivial) ?_
              clear hK' K'
              go_frame
              refine y_oper 9 (by kernel_rfl) rfl rfl (fun K' hK' => ?_)
              refine wp_exec (some 12) rfl (.bool true) (exec_assign _ rfl (.bool true) rfl) ?_
              refine hK' _ _ ⟨hB, h5, hz146, hS, hq⟩ (fun _ => trivial) ?_
              clear hK' K'
              go_frame
              refine y_done (by kernel_rfl) ?_ _
              go_upto_region 13 with (fail)
              refine wp_region_lit ?_
              refine ls_ex (some 49) (.bool true) rfl rfl (exec_move _ rfl (.bool true) rfl) ?_
              go_frame
              refine ls_ex (some 50) (.bool false) rfl rfl (exec_not _ _ rfl true rfl) ?_
              go_frame
              refine wpList_nil ?_
              go_upto_region 16 with (fail)
              refine wp_region_lit ?_
              refine ls_ex (some 63) (.slice (some ⟨g, 0, none⟩) N cM) rfl rfl (exec_move _ rfl (.slice (some ⟨g, 0, none⟩) N cM) rfl) ?_
              go_frame
              refine ls_ex (some 64) (.int .i64 i) rfl rfl (exec_move _ rfl (.int .i64 i) rfl) ?_
              go_frame
              refine ls_ex (some 65) (.pointer (some ⟨g, i, none⟩)) rfl rfl (exec_index0 _ 49 _ _ rfl g N cM i rfl rfl Try.underlying26 (by kernel_rfl) hlt) ?_
              go_frame
              refine ls_ex (some 66) (.slice (some ⟨gs i, 0, none⟩) 3 3) rfl rfl (exec_load_one 49 _ rfl g i rfl (.slice (some ⟨gs i, 0, none⟩) 3 3) _ Try.underlying49 rfl (cellA hS.out.mat.out HCI.out)) ?_
              go_frame
              refine ls_ex (some 67) (.int .i64 1) rfl rfl (exec_move _ rfl (.int .i64 1) rfl) ?_
              go_frame
              refine ls_ex (some 68) (.int .i64 (RB : Nat)) rfl rfl (exec_move _ rfl (.int .i64 (RB : Nat)) rfl) ?_
              go_frame
              refine ls_ex (some 69) (.pointer (some ⟨gs i, 1, none⟩)) rfl rfl (exec_index0 _ 2 _ _ rfl (gs i) 3 3 1 rfl rfl Try.underlying49 (by kernel_rfl) (by omega)) ?_
              go_frame
              refine ls_op rfl (fun K' hK' => ?_)
              have lz154 := hB.size
              have lz155 := h1.lt
              have lz156 := h4.lt
              have lz157 := h5.lt
              have lz158 := hz146.lt
              clear hq
              have lr9 := (hS.out.mat.row i hlt).2
              have lt9 := hS.out.top
              refine wp_store_one 2 _ _ rfl rfl (gs i) 1 rfl (.int .i64 (RB : Nat)) rfl rfl rfl _ _ (hS.out.mat.row i hlt).1 (by kernel_rfl) (by rw [iar_sizeR, midR_len HRl.out (by omega)]; omega) (fun Wz152 pz153 => ?_)
              replace hB := pz153.below hB (by omega)
              replace h1 := pz153.other h1 (by omega)
              replace h4 := pz153.other h4 (by omega)
              replace h5 := pz153.other h5 (by omega)
              replace hz146 := pz153.other hz146 (by omega)
              replace hS := hS.fill HRl.out hlt (by omega) (by rw [HRow.out]; rfl) pz153
              refine hK' _ _ ?_
              clear hK' K' pz153 lr9 lt9
              refine wpList_nil ?_
              go_upto_region 17 with (fail)
              refine wp_region_lit ?_
              refine ls_ex (some 70) (.int .i64 2) rfl rfl (exec_add _ _ _ _ rfl 1 1 2 rfl rfl rfl) ?_
              go_frame
              refine ls_ex (some 37) (.int .i64 2) rfl rfl (exec_move _ rfl (.int .i64 2) rfl) ?_
              go_frame
              refine wpList_nil ?_
              go_wp2_with fail
              go_roundw
              case rel => exact ⟨2, by omega, rfl, hB, h1, h4, h5, hS⟩
              case measure => simp [intOf] <;> omega
            · have HCI : Hid (cs[i]? = some (.slice (some ⟨gs i, 0, none⟩) 3 3)) := Lib.hid (by have h9 := hS.out.mat.cell i hlt; rw [midR_len HRl.out (by omega)] at h9; exact h9)
              obtain ⟨wk, rfl⟩ : ∃ z : World, z = wr := ⟨_, rfl⟩
              go_upto_region 10 with (fail)
              refine wp_region_lit ?_
              refine ls_ex (some 38) (.bool true) rfl rfl (exec_lss _ _ _ _ rfl 1 3 rfl rfl true (decide_eq_true (by omega))) ?_
              go_frame
              refine wpList_nil ?_
              go_upto_region 11 with (fail)
              refine wp_region_lit ?_
              refine ls_ex (some 39) (.int .i64 1) rfl rfl (exec_move _ rfl (.int .i64 1) rfl) ?_
              go_frame
              refine ls_ex (some 40) (.agg (u8s (F1))) rfl rfl (exec_index_part 58 45 _ _ rfl 3 1 9 _ (u8s F1) _ rfl rfl Try.underlying58 Try.underlying45 rfl (by kernel_rfl) (by omega) HE1.out) ?_
              go_frame
              refine ls_op rfl (fun K' hK' => ?_)
              have lz159 := hB.size
              have lz160 := h1.lt
              have lz161 := h4.lt
              have lz162 := h5.lt
              have naz167 := hS.away_new
              have naz168 := hq.away_new
              refine wp_new (some 10) rfl (alRw_impl_Form rfl) (fun Wz163 nnz164 => ?_)
              have bz165 := nnz164.below (Below.refl _ _) (Nat.le_refl _)
              replace hB := below_after hB bz165
              replace h1 := h1.after bz165
              replace h4 := h4.after bz165
              replace h5 := h5.after bz165
              replace hS := hS.below bz165
              replace hq := hq.below bz165
              have hz166 : At Wz163 wk.heap.size (.cells (u8s (List.replicate 9 0)) 45 (0, 0)) := nnz164.at_
              refine hK' _ _ ?_
              clear hK' K' nnz164 bz165
              go_frame
              refine ls_ex (some 9) (.int .i64 1) rfl rfl (exec_assign _ rfl (.int .i64 1) rfl) ?_
              go_frame
              refine ls_op rfl (fun K' hK' => ?_)
              refine wp_store_bytes 45 _ _ rfl rfl wk.heap.size rfl (F1) rfl _ _ hz166 9 (by kernel_rfl) Hb1.out.len (by simp) (fun Wz169 pz170 => ?_)
              replace hB := pz170.below hB (by omega)
              replace h1 := pz170.other h1 (by omega)
              replace h4 := pz170.other h4 (by omega)
              replace h5 := pz170.other h5 (by omega)
              replace hS := hS.put pz170 naz167
              replace hq := hq.put pz170 naz168
              replace hz166 : At Wz169 wk.heap.size (.cells (u8s (F1)) 45 (0, 0)) := pz170.at_
              refine hK' _ _ ?_
              clear hK' K' pz170
              refine wpList_nil ?_
              go_upto_region 12 with (fail)
              refine wp_region_y (zs := []) (S := fun w' => Below w.heap.size w w' ∧ At w' Wz35.heap.size (.cells #[.map (some M0), .map (some M1), .map (some M2)] 56 (0, 0)) ∧ At w' wk.heap.size (.cells (u8s (F1)) 45 (0, 0)) ∧ RaS w' zL zH M0 M1 M2 (raF p n m k) g cs gs N (midR (rkRow p n m k qs) i 1) ∧ MapQ w' M1 (fun es => ¬ HasK F1 es)) (S2 := fun w' => True) (by kernel_rfl) ?_
              change wpAnyY _ _ _ _ _ _ _ _ _ _ (World.drew _)
              generalize hwdz171 : World.drew _ = wdz171
              replace hB : Below w.heap.size w wdz171 := by rw [← hwdz171]; exact hB.drew
              replace h1 : At wdz171 w.heap.size (.cells #[.int .i64 p, .int .i64 n, .int .i64 m, .int .i64 k, .slice AX N c] 31 (0, 0)) := by rw [← hwdz171]; exact h1
              replace h4 : At wdz171 Wz10.heap.size (.cells #[.int .i64 n, .int .i64 m, .int .i64 m, .int .i64 k, .int .i64 n, .int .i64 k] 53 (0, 0)) := by rw [← hwdz171]; exact h4
              replace h5 : At wdz171 Wz35.heap.size (.cells #[.map (some M0), .map (some M1), .map (some M2)] 56 (0, 0)) := by rw [← hwdz171]; exact h5
              replace hS : RaS wdz171 zL zH M0 M1 M2 (raF p n m k) g cs gs N (midR (rkRow p n m k qs) i 1) := by rw [← hwdz171]; exact hS.drew
              replace hq : MapQ wdz171 M1 (fun es => ¬ HasK F1 es) := by rw [← hwdz171]; exact hq.drew
              replace hz166 : At wdz171 wk.heap.size (.cells (u8s (F1)) 45 (0, 0)) := by rw [← hwdz171]; exact hz166
              clear hwdz171
              refine y_yield 0 (some 42) (.int .i64 1) rfl (by kernel_rfl) (by kernel_rfl) (by kernel_rfl) (fun _ _ _ h => h) rfl rfl ⟨hB, h5, hz166, hS, hq⟩ (fun w' h' => exec_move _ rfl (.int .i64 1) rfl) ?_
              go_frame
              refine y_yield 1 (some 43) (.pointer (some ⟨Wz35.heap.size, 1, none⟩)) rfl (by kernel_rfl) (by kernel_rfl) (by kernel_rfl) (fun _ _ _ h => h) rfl rfl ⟨hB, h5, hz166, hS, hq⟩ (fun w' h' => exec_index_arr _ 55 _ _ rfl Wz35.heap.size 0 3 1 1 rfl rfl Try.underlying56 (by kernel_rfl) (by omega)) ?_
              go_frame
              refine y_yield 2 (some 44) (.map (some M1)) rfl (by kernel_rfl) (by kernel_rfl) (by kernel_rfl) (fun _ _ _ h => h) rfl rfl ⟨hB, h5, hz166, hS, hq⟩ (fun w' h' => exec_load_one 55 _ rfl Wz35.heap.size 1 rfl (.map (some M1)) _ Try.underlying55 rfl (cellA h'.2.1 rfl)) ?_
              go_frame
              refine y_yield 3 (some 45) (.agg (u8s (F1))) rfl (by kernel_rfl) (by kernel_rfl) (by kernel_rfl) (fun _ _ _ h => h) rfl rfl ⟨hB, h5, hz166, hS, hq⟩ (fun w' h' => exec_load_all 45 _ rfl wk.heap.size rfl _ _ _ h'.2.2.1 Try.underlying45 rfl 9 (by kernel_rfl) ((u8s_size _).trans Hb1.out.len)) ?_
              go_frame
              refine y_yield 4 (some 46) (.tuple #[.int .i64 0, .bool false]) rfl (by kernel_rfl) (by kernel_rfl) (by kernel_rfl) (fun _ _ _ h => h) rfl rfl ⟨hB, h5, hz166, hS, hq⟩ (fun w' h' => (exec_look _ _ rfl (h'.2.2.2.1.out.k1) F1 ⟨Hb1.out.len, HF1b.out⟩ ((RB : Nat) : Int) (raV1 HRB.out) rfl rfl).2 h'.2.2.2.2) ?_
              go_frame
              refine y_yield 5 (some 41) (.tuple #[.int .i64 0, .bool false]) rfl (by kernel_rfl) (by kernel_rfl) (by kernel_rfl) (fun _ _ _ h => h) rfl rfl ⟨hB, h5, hz166, hS, hq⟩ (fun w' h' => exec_move _ rfl (.tuple #[.int .i64 0, .bool false]) rfl) ?_
              go_frame
              refine y_yield 6 (some 47) (.int .i64 0) rfl (by kernel_rfl) (by kernel_rfl) (by kernel_rfl) (fun _ _ _ h => h) rfl rfl ⟨hB, h5, hz166, hS, hq⟩ (fun w' h' => exec_extract _ 0 rfl #[.int .i64 0, .bool false] (by rfl) _ rfl) ?_
              go_frame
              refine y_yield 7 (some 48) (.bool false) rfl (by kernel_rfl) (by kernel_rfl) (by kernel_rfl) (fun _ _ _ h => h) rfl rfl ⟨hB, h5, hz166, hS, hq⟩ (fun w' h' => exec_extract _ 1 rfl #[.int .i64 0, .bool false] (by rfl) _ rfl) ?_
              go_frame
              refine y_oper 8 (by kernel_rfl) rfl rfl (fun K' hK' => ?_)
              refine wp_exec (some 11) rfl (.int .i64 0) (exec_assign _ rfl (.int .i64 0) rfl) ?_
              refine hK' _ _ ⟨hB, h5, hz166, hS, hq⟩ (fun _ => trivial) ?_
              clear hK' K'
              go_frame
              refine y_oper 9 (by kernel_rfl) rfl rfl (fun K' hK' => ?_)
              refine wp_exec (some 12) rfl (.bool false) (exec_assign _ rfl (.bool false) rfl) ?_
              refine hK' _ _ ⟨hB, h5, hz166, hS, hq⟩ (fun _ => trivial) ?_
              clear hK' K'
              go_frame
              refine y_done (by kernel_rfl) ?_ _
              go_upto_region 13 with (fail)
              refine wp_region_lit ?_
              refine ls_ex (some 49) (.bool false) rfl rfl (exec_move _ rfl (.bool false) rfl) ?_
              go_frame
              refine ls_ex (some 50) (.bool true) rfl rfl (exec_not _ _ rfl false rfl) ?_
              go_frame
              refine wpList_nil ?_
              go_upto_region 14 with (fail)
              refine wp_region_y (zs := []) (S := fun w' => Below w.heap.size w w' ∧ At w' w.heap.size (.cells #[.int .i64 p, .int .i64 n, .int .i64 m, .int .i64 k, .slice AX N c] 31 (0, 0)) ∧ At w' Wz10.heap.size (.cells #[.int .i64 n, .int .i64 m, .int .i64 m, .int .i64 k, .int .i64 n, .int .i64 k] 53 (0, 0)) ∧ At w' wk.heap.size (.cells (u8s (F1)) 45 (0, 0))) (S2 := fun w' => True) (by kernel_rfl) ?_
              change wpAnyY _ _ _ _ _ _ _ _ _ _ (World.drew _)
              generalize hwdz172 : World.drew _ = wdz172
              replace hB : Below w.heap.size w wdz172 := by rw [← hwdz172]; exact hB.drew
              replace h1 : At wdz172 w.heap.size (.cells #[.int .i64 p, .int .i64 n, .int .i64 m, .int .i64 k, .slice AX N c] 31 (0, 0)) := by rw [← hwdz172]; exact h1
              replace h4 : At wdz172 Wz10.heap.size (.cells #[.int .i64 n, .int .i64 m, .int .i64 m, .int .i64 k, .int .i64 n, .int .i64 k] 53 (0, 0)) := by rw [← hwdz172]; exact h4
              replace h5 : At wdz172 Wz35.heap.size (.cells #[.map (some M0), .map (some M1), .map (some M2)] 56 (0, 0)) := by rw [← hwdz172]; exact h5
              replace hS : RaS wdz172 zL zH M0 M1 M2 (raF p n m k) g cs gs N (midR (rkRow p n m k qs) i 1) := by rw [← hwdz172]; exact hS.drew
              replace hq : MapQ wdz172 M1 (fun es => ¬ HasK F1 es) := by rw [← hwdz172]; exact hq.drew
              replace hz166 : At wdz172 wk.heap.size (.cells (u8s (F1)) 45 (0, 0)) := by rw [← hwdz172]; exact hz166
              clear hwdz172
              refine y_yield 0 (some 51) (.pointer (some ⟨w.heap.size, 0, none⟩)) rfl (by kernel_rfl) (by kernel_rfl) (by kernel_rfl) (fun _ _ _ h => h) rfl rfl ⟨hB, h1, h4, hz166⟩ (fun w' h' => exec_fieldAddr 31 _ 0 rfl _ (by kernel_rfl)) ?_
              go_frame
              refine y_yield 1 (some 52) (.int .i64 p) rfl (by kernel_rfl) (by kernel_rfl) (by kernel_rfl) (fun _ _ _ h => h) rfl rfl ⟨hB, h1, h4, hz166⟩ (fun w' h' => exec_load_one 2 _ rfl w.heap.size 0 rfl (.int .i64 p) _ Try.underlying2 rfl (h'.2.1.at_ 0)) ?_
              go_frame
              refine y_yield 2 (some 53) (.int .i64 1) rfl (by kernel_rfl) (by kernel_rfl) (by kernel_rfl) (fun _ _ _ h => h) rfl rfl ⟨hB, h1, h4, hz166⟩ (fun w' h' => exec_move _ rfl (.int .i64 1) rfl) ?_
              go_frame
              refine y_yield 3 (some 54) (.pointer (some ⟨Wz10.heap.size, 2, none⟩)) rfl (by kernel_rfl) (by kernel_rfl) (by kernel_rfl) (fun _ _ _ h => h) rfl rfl ⟨hB, h1, h4, hz166⟩ (fun w' h' => exec_index_arr _ 52 _ _ rfl Wz10.heap.size 0 3 1 2 rfl rfl Try.underlying53 (by kernel_rfl) (by omega)) ?_
              go_frame
              refine y_yield 4 (some 55) (.agg #[.int .i64 m, .int .i64 k]) rfl (by kernel_rfl) (by kernel_rfl) (by kernel_rfl) (fun _ _ _ h => h) rfl rfl ⟨hB, h1, h4, hz166⟩ (fun w' h' => exec_load_lit 52 _ rfl Wz10.heap.size 2 rfl _ _ _ 2 h'.2.2.1 Try.underlying52 rfl (by kernel_rfl) (by simp) #[.int .i64 m, .int .i64 k] rfl) ?_
              go_frame
              refine y_yield 5 (some 56) (.agg (u8s (F1))) rfl (by kernel_rfl) (by kernel_rfl) (by kernel_rfl) (fun _ _ _ h => h) rfl rfl ⟨hB, h1, h4, hz166⟩ (fun w' h' => exec_load_all 45 _ rfl wk.heap.size rfl _ _ _ h'.2.2.2 Try.underlying45 rfl 9 (by kernel_rfl) ((u8s_size _).trans Hb1.out.len)) ?_
              go_frame
              refine y_oper 6 (by kernel_rfl) rfl rfl (fun K' hK' => ?_)
              have lz175 := hB.size
              have lz176 := h1.lt
              have lz177 := h4.lt
              have lz178 := h5.lt
              have lz179 := hz166.lt
              refine wp_call3 (some 57) rfl 26 _ _ _ _ rfl (fun args w => by kernel_rfl) _ _ _ rfl rfl rfl _ (B.rankOfForm_c p m k F1 _ hpr hsm hsk Hb1.out.len HL1.out) (fun e Wz173 h => ?_)
              obtain ⟨rfl, bz174⟩ := h
              replace hB := below_after hB bz174
              replace h1 := h1.after bz174
              replace h4 := h4.after bz174
              replace h5 := h5.after bz174
              replace hS := hS.below bz174
              replace hq := hq.below bz174
              replace hz166 := hz166.after bz174
              rw [HRB.out]
              clear bz174
              refine ⟨_, rfl, ?_⟩
              refine hK' _ _ ⟨hB, h1, h4, hz166⟩ (fun _ => trivial) ?_
              clear hK' K'
              go_frame
              refine y_oper 7 (by kernel_rfl) rfl rfl (fun K' hK' => ?_)
              refine wp_exec (some 11) rfl (.int .i64 (RB : Nat)) (exec_assign _ rfl (.int .i64 (RB : Nat)) rfl) ?_
              refine hK' _ _ ⟨hB, h1, h4, hz166⟩ (fun _ => trivial) ?_
              clear hK' K'
              go_frame
              refine y_done (by kernel_rfl) ?_ _
              go_upto_region 15 with (fail)
              refine wp_region_y (zs := []) (S := fun w' => Below w.heap.size w w' ∧ At w' Wz35.heap.size (.cells #[.map (some M0), .map (some M1), .map (some M2)] 56 (0, 0)) ∧ At w' wk.heap.size (.cells (u8s (F1)) 45 (0, 0))) (S2 := fun w' => True) (by kernel_rfl) ?_
              change wpAnyY _ _ _ _ _ _ _ _ _ _ (World.drew _)
              generalize hwdz180 : World.drew _ = wdz180
              replace hB : Below w.heap.size w wdz180 := by rw [← hwdz180]; exact hB.drew
              replace h1 : At wdz180 w.heap.size (.cells #[.int .i64 p, .int .i64 n, .int .i64 m, .int .i64 k, .slice AX N c] 31 (0, 0)) := by rw [← hwdz180]; exact h1
              replace h4 : At wdz180 Wz10.heap.size (.cells #[.int .i64 n, .int .i64 m, .int .i64 m, .int .i64 k, .int .i64 n, .int .i64 k] 53 (0, 0)) := by rw [← hwdz180]; exact h4
              replace h5 : At wdz180 Wz35.heap.size (.cells #[.map (some M0), .map (some M1), .map (some M2)] 56 (0, 0)) := by rw [← hwdz180]; exact h5
              replace hS : RaS wdz180 zL zH M0 M1 M2 (raF p n m k) g cs gs N (midR (rkRow p n m k qs) i 1) := by rw [← hwdz180]; exact hS.drew
              replace hq : MapQ wdz180 M1 (fun es => ¬ HasK F1 es) := by rw [← hwdz180]; exact hq.drew
              replace hz166 : At wdz180 wk.heap.size (.cells (u8s (F1)) 45 (0, 0)) := by rw [← hwdz180]; exact hz166
              clear hwdz180
              refine y_yield 0 (some 58) (.int .i64 1) rfl (by kernel_rfl) (by kernel_rfl) (by kernel_rfl) (fun _ _ _ h => h) rfl rfl ⟨hB, h5, hz166⟩ (fun w' h' => exec_move _ rfl (.int .i64 1) rfl) ?_
              go_frame
              refine y_yield 1 (some 59) (.pointer (some ⟨Wz35.heap.size, 1, none⟩)) rfl (by kernel_rfl) (by kernel_rfl) (by kernel_rfl) (fun _ _ _ h => h) rfl rfl ⟨hB, h5, hz166⟩ (fun w' h' => exec_index_arr _ 55 _ _ rfl Wz35.heap.size 0 3 1 1 rfl rfl Try.underlying56 (by kernel_rfl) (by omega)) ?_
              go_frame
              refine y_yield 2 (some 60) (.map (some M1)) rfl (by kernel_rfl) (by kernel_rfl) (by kernel_rfl) (fun _ _ _ h => h) rfl rfl ⟨hB, h5, hz166⟩ (fun w' h' => exec_load_one 55 _ rfl Wz35.heap.size 1 rfl (.map (some M1)) _ Try.underlying55 rfl (cellA h'.2.1 rfl)) ?_
              go_frame
              refine y_yield 3 (some 61) (.agg (u8s (F1))) rfl (by kernel_rfl) (by kernel_rfl) (by kernel_rfl) (fun _ _ _ h => h) rfl rfl ⟨hB, h5, hz166⟩ (fun w' h' => exec_load_all 45 _ rfl wk.heap.size rfl _ _ _ h'.2.2 Try.underlying45 rfl 9 (by kernel_rfl) ((u8s_size _).trans Hb1.out.len)) ?_
              go_frame
              refine y_yield 4 (some 62) (.int .i64 (RB : Nat)) rfl (by kernel_rfl) (by kernel_rfl) (by kernel_rfl) (fun _ _ _ h => h) rfl rfl ⟨hB, h5, hz166⟩ (fun w' h' => exec_move _ rfl (.int .i64 (RB : Nat)) rfl) ?_
              go_frame
              refine y_oper 5 (by kernel_rfl) rfl rfl (fun K' hK' => ?_)
              have lz184 := hB.size
              have lz185 := h1.lt
              have lz186 := h4.lt
              have lz187 := h5.lt
              have lz188 := hz166.lt
              clear hq
              have lm9 := hS.out.lt
              have lh9 := hS.lohi
              have lt9 := hS.out.top
              refine wp_mapUpF _ _ _ rfl rfl (hS.out.k1) F1 ((RB : Nat) : Int) ⟨Hb1.out.len, HF1b.out⟩ rfl rfl rfl (raF1 HRB.out) (fun es9 cl9 Wz181 pz182 hmz183 => ?_)
              replace hB := pz182.below hB (by omega)
              replace h1 := pz182.other h1 (by omega)
              replace h4 := pz182.other h4 (by omega)
              replace h5 := pz182.other h5 (by omega)
              replace hz166 := pz182.other hz166 (by omega)
              replace hS := hS.upd (t := 1) (by omega) pz182 hmz183
              refine hK' _ _ ⟨hB, h5, hz166⟩ (fun _ => trivial) ?_
              clear hK' K' pz182 hmz183 lm9 lh9 lt9
              refine y_done (by kernel_rfl) ?_ _
              go_upto_region 16 with (fail)
              refine wp_region_lit ?_
              refine ls_ex (some 63) (.slice (some ⟨g, 0, none⟩) N cM) rfl rfl (exec_move _ rfl (.slice (some ⟨g, 0, none⟩) N cM) rfl) ?_
              go_frame
              refine ls_ex (some 64) (.int .i64 i) rfl rfl (exec_move _ rfl (.int .i64 i) rfl) ?_
              go_frame
              refine ls_ex (some 65) (.pointer (some ⟨g, i, none⟩)) rfl rfl (exec_index0 _ 49 _ _ rfl g N cM i rfl rfl Try.underlying26 (by kernel_rfl) hlt) ?_
              go_frame
              refine ls_ex (some 66) (.slice (some ⟨gs i, 0, none⟩) 3 3) rfl rfl (exec_load_one 49 _ rfl g i rfl (.slice (some ⟨gs i, 0, none⟩) 3 3) _ Try.underlying49 rfl (cellA hS.out.mat.out HCI.out)) ?_
              go_frame
              refine ls_ex (some 67) (.int .i64 1) rfl rfl (exec_move _ rfl (.int .i64 1) rfl) ?_
              go_frame
              refine ls_ex (some 68) (.int .i64 (RB : Nat)) rfl rfl (exec_move _ rfl (.int .i64 (RB : Nat)) rfl) ?_
              go_frame
              refine ls_ex (some 69) (.pointer (some ⟨gs i, 1, none⟩)) rfl rfl (exec_index0 _ 2 _ _ rfl (gs i) 3 3 1 rfl rfl Try.underlying49 (by kernel_rfl) (by omega)) ?_
              go_frame
              refine ls_op rfl (fun K' hK' => ?_)
              have lz191 := hB.size
              have lz192 := h1.lt
              have lz193 := h4.lt
              have lz194 := h5.lt
              have lz195 := hz166.lt
              have lr9 := (hS.out.mat.row i hlt).2
              have lt9 := hS.out.top
              refine wp_store_one 2 _ _ rfl rfl (gs i) 1 rfl (.int .i64 (RB : Nat)) rfl rfl rfl _ _ (hS.out.mat.row i hlt).1 (by kernel_rfl) (by rw [iar_sizeR, midR_len HRl.out (by omega)]; omega) (fun Wz189 pz190 => ?_)
              replace hB := pz190.below hB (by omega)
              replace h1 := pz190.other h1 (by omega)
              replace h4 := pz190.other h4 (by omega)
              replace h5 := pz190.other h5 (by omega)
              replace hz166 := pz190.other hz166 (by omega)
              replace hS := hS.fill HRl.out hlt (by omega) (by rw [HRow.out]; rfl) pz190
              refine hK' _ _ ?_
              clear hK' K' pz190 lr9 lt9
              refine wpList_nil ?_
              go_upto_region 17 with (fail)
              refine wp_region_lit ?_
              refine ls_ex (some 70) (.int .i64 2) rfl rfl (exec_add _ _ _ _ rfl 1 1 2 rfl rfl rfl) ?_
              go_frame
              refine ls_ex (some 37) (.int .i64 2) rfl rfl (exec_move _ rfl (.int .i64 2) rfl) ?_
              go_frame
              refine wpList_nil ?_
              go_wp2_with fail
              go_roundw
              case rel => exact ⟨2, by omega, rfl, hB, h1, h4, h5, hS⟩
              case measure => simp [intOf] <;> omega
          · by_cases h2t : t = 2
            · subst h2t
  
              rcases (hS.out.k2).split F2 with hq | hq
              · have HCI : Hid (cs[i]? = some (.slice (some ⟨gs i, 0, none⟩) 3 3)) := Lib.hid (by have h9 := hS.out.mat.cell i hlt; rw [midR_len HRl.out (by omega)] at h9; exact h9)
                obtain ⟨wk, rfl⟩ : ∃ z : World, z = wr := ⟨_, rfl⟩
                go_upto_region 10 with (fail)
                refine wp_region_lit ?_
                refine ls_ex (some 38) (.bool true) rfl rfl (exec_lss _ _ _ _ rfl 2 3 rfl rfl true (decide_eq_true (by omega))) ?_
                go_frame
                refine wpList_nil ?_
                go_upto_region 11 with (fail)
                refine wp_region_lit ?_
                refine ls_ex (some 39) (.int .i64 2) rfl rfl (exec_move _ rfl (.int .i64 2) rfl) ?_
                go_frame
                refine ls_ex (some 40) (.agg (u8s (F2))) rfl rfl (exec_index_part 58 45 _ _ rfl 3 2 9 _ (u8s F2) _ rfl rfl Try.underlying58 Try.underlying45 rfl (by kernel_rfl) (by omega) HE2.out) ?_
                go_frame
                refine ls_op rfl (fun K' hK' => ?_)
                have lz196 := hB.size
                have lz197 := h1.lt
                have lz198 := h4.lt
                have lz199 := h5.lt
                have naz204 := hS.away_new
                have naz205 := hq.away_new
                refine wp_new (some 10) rfl (alRw_impl_Form rfl) (fun Wz200 nnz201 => ?_)
                have bz202 := nnz201.below (Below.refl _ _) (Nat.le_refl _)
                replace hB := below_after hB bz202
                replace h1 := h1.after bz202
                replace h4 := h4.after bz202
                replace h5 := h5.after bz202
                replace hS := hS.below bz202
                replace hq := hq.below bz202
                have hz203 : At Wz200 wk.heap.size (.cells (u8s (List.replicate 9 0)) 45 (0, 0)) := nnz201.at_
                refine hK' _ _ ?_
                clear hK' K' nnz201 bz202
                go_frame
                refine ls_ex (some 9) (.int .i64 2) rfl rfl (exec_assign _ rfl (.int .i64 2) rfl) ?_
                go_frame
                refine ls_op rfl (fun K' hK' => ?_)
                refine wp_store_bytes 45 _ _ rfl rfl wk.heap.size rfl (F2) rfl _ _ hz203 9 (by kernel_rfl) Hb2.out.len (by simp) (fun Wz206 pz207 => ?_)
                replace hB := pz207.below hB (by omega)
                replace h1 := pz207.other h1 (by omega)
                replace h4 := pz207.other h4 (by omega)
                replace h5 := pz207.other h5 (by omega)
                replace hS := hS.put pz207 naz204
                replace hq := hq.put pz207 naz205
                replace hz203 : At Wz206 wk.heap.size (.cells (u8s (F2)) 45 (0, 0)) := pz207.at_
                refine hK' _ _ ?_
                clear hK' K' pz207
                refine wpList_nil ?_
                go_upto_region 12 with (fail)
                refine wp_region_y (zs := []) (S := fun w' => Below w.heap.size w w' ∧ At w' Wz35.heap.size (.cells #[.map (some M0), .map (some M1), .map (some M2)] 56 (0, 0)) ∧ At w' wk.heap.size (.cells (u8s (F2)) 45 (0, 0)) ∧ RaS w' zL zH M0 M1 M2 (raF p n m k) g cs gs N (midR (rkRow p n m k qs) i 2) ∧ MapQ w' M2 (HasK F2)) (S2 := fun w' => True) (by kernel_rfl) ?_
                change wpAnyY _ _ _ _ _ _ _ _ _ _ (World.drew _)
                generalize hwdz208 : World.drew _ = wdz208
                replace hB : Below w.heap.size w wdz208 := by rw [← hwdz208]; exact hB.drew
                replace h1 : At wdz208 w.heap.size (.cells #[.int .i64 p, .int .i64 n, .int .i64 m, .int .i64 k, .slice AX N c] 31 (0, 0)) := by rw [← hwdz208]; exact h1
                replace h4 : At wdz208 Wz10.heap.size (.cells #[.int .i64 n, .int .i64 m, .int .i64 m, .int .i64 k, .int .i64 n, .int .i64 k] 53 (0, 0)) := by rw [← hwdz208]; exact h4
                replace h5 : At wdz208 Wz35.heap.size (.cells #[.map (some M0), .map (some M1), .map (some M2)] 56 (0, 0)) := by rw [← hwdz208]; exact h5
                replace hS : RaS wdz208 zL zH M0 M1 M2 (raF p n m k) g cs gs N (midR (rkRow p n m k qs) i 2) := by rw [← hwdz208]; exact hS.drew
                replace hq : MapQ wdz208 M2 (HasK F2) := by rw [← hwdz208]; exact hq.drew
                replace hz203 : At wdz208 wk.heap.size (.cells (u8s (F2)) 45 (0, 0)) := by rw [← hwdz208]; exact hz203
                clear hwdz208
                refine y_yield 0 (some 42) (.int .i64 2) rfl (by kernel_rfl) (by kernel_rfl) (by kernel_rfl) (fun _ _ _ h => h) rfl rfl ⟨hB, h5, hz203, hS, hq⟩ (fun w' h' => exec_move _ rfl (.int .i64 2) rfl) ?_
                go_frame
                refine y_yield 1 (some 43) (.pointer (some ⟨Wz35.heap.size, 2, none⟩)) rfl (by kernel_rfl) (by kernel_rfl) (by kernel_rfl) (fun _ _ _ h => h) rfl rfl ⟨hB, h5, hz203, hS, hq⟩ (fun w' h' => exec_index_arr _ 55 _ _ rfl Wz35.heap.size 0 3 2 1 rfl rfl Try.underlying56 (by kernel_rfl) (by omega)) ?_
                go_frame
                refine y_yield 2 (some 44) (.map (some M2)) rfl (by kernel_rfl) (by kernel_rfl) (by kernel_rfl) (fun _ _ _ h => h) rfl rfl ⟨hB, h5, hz203, hS, hq⟩ (fun w' h' => exec_load_one 55 _ rfl Wz35.heap.size 2 rfl (.map (some M2)) _ Try.underlying55 rfl (cellA h'.2.1 rfl)) ?_
                go_frame
                refine y_yield 3 (some 45) (.agg (u8s (F2))) rfl (by kernel_rfl) (by kernel_rfl) (by kernel_rfl) (fun _ _ _ h => h) rfl rfl ⟨hB, h5, hz203, hS, hq⟩ (fun w' h' => exec_load_all 45 _ rfl wk.heap.size rfl _ _ _ h'.2.2.1 Try.underlying45 rfl 9 (by kernel_rfl) ((u8s_size _).trans Hb2.out.len)) ?_
                go_frame
                refine y_yield 4 (some 46) (.tuple #[.int .i64 (RC : Nat), .bool true]) rfl (by kernel_rfl) (by kernel_rfl) (by kernel_rfl) (fun _ _ _ h => h) rfl rfl ⟨hB, h5, hz203, hS, hq⟩ (fun w' h' => (exec_look _ _ rfl (h'.2.2.2.1.out.k2) F2 ⟨Hb2.out.len, HF2b.out⟩ ((RC : Nat) : Int) (raV2 HRC.out) rfl rfl).1 h'.2.2.2.2) ?_
                go_frame
                refine y_yield 5 (some 41) (.tuple #[.int .i64 (RC : Nat), .bool true]) rfl (by kernel_rfl) (by kernel_rfl) (by kernel_rfl) (fun _ _ _ h => h) rfl rfl ⟨hB, h5, hz203, hS, hq⟩ (fun w' h' => exec_move _ rfl (.tuple #[.int .i64 (RC : Nat), .bool true]) rfl) ?_
                go_frame
                refine y_yield 6 (some 47) (.int .i64 (RC : Nat)) rfl (by kernel_rfl) (by kernel_rfl) (by kernel_rfl) (fun _ _ _ h => h) rfl rfl ⟨hB, h5, hz203, hS, hq⟩ (fun w' h' => exec_extract _ 0 rfl #[.int .i64 (RC : Nat), .bool true] (by rfl) _ rfl) ?_
                go_frame
                refine y_yield 7 (some 48) (.bool true) rfl (by kernel_rfl) (by kernel_rfl) (by kernel_rfl) (fun _ _ _ h => h) rfl rfl ⟨hB, h5, hz203, hS, hq⟩ (fun w' h' => exec_extract _ 1 rfl #[.int .i64 (RC : Nat), .bool true] (by rfl) _ rfl) ?_
                go_frame
                refine y_oper 8 (by kernel_rfl) rfl rfl (fun K' hK' => ?_)
                refine wp_exec (some 11) rfl (.int .i64 (RC : Nat)) (exec_assign _ rfl (.int .i64 (RC : Nat)) rfl) ?_
                refine hK' _ _ ⟨hB, h5, hz203, hS, hq⟩ (fun _ => trivial) ?_
                clear hK' K'
                go_frame
                refine y_oper 9 (by kernel_rfl) rfl rfl (fun K' hK' => ?_)
                refine wp_exec (some 12) rfl (.bool true) (exec_assign _ rfl (.bool true) rfl) ?_
                refine hK' _ _ ⟨hB, h5, hz203, hS, hq⟩ (fun _ => trivial) ?_
                clear hK' K'
                go_frame
                refine y_done (by kernel_rfl) ?_ _
                go_upto_region 13 with (fail)
                refine wp_region_lit ?_
                refine ls_ex (some 49) (.bool true) rfl rfl (exec_move _ rfl (.bool true) rfl) ?_
                go_frame
                refine ls_ex (some 50) (.bool false) rfl rfl (exec_not _ _ rfl true rfl) ?_
                go_frame
                refine wpList_nil ?_
                go_upto_region 16 with (fail)
                refine wp_region_lit ?_
                refine ls_ex (some 63) (.slice (some ⟨g, 0, none⟩) N cM) rfl rfl (exec_move _ rfl (.slice (some ⟨g, 0, none⟩) N cM) rfl) ?_
                go_frame
                refine ls_ex (some 64) (.int .i64 i) rfl rfl (exec_move _ rfl (.int .i64 i) rfl) ?_
                go_frame
                refine ls_ex (some 65) (.pointer (some ⟨g, i, none⟩)) rfl rfl (exec_index0 _ 49 _ _ rfl g N cM i rfl rfl Try.underlying26 (by kernel_rfl) hlt) ?_
                go_frame
                refine ls_ex (some 66) (.slice (some ⟨gs i, 0, none⟩) 3 3) rfl rfl (exec_load_one 49 _ rfl g i rfl (.slice (some ⟨gs i, 0, none⟩) 3 3) _ Try.underlying49 rfl (cellA hS.out.mat.out HCI.out)) ?_
                go_frame
                refine ls_ex (some 67) (.int .i64 2) rfl rfl (exec_move _ rfl (.int .i64 2) rfl) ?_
                go_frame
                refine ls_ex (some 68) (.int .i64 (RC : Nat)) rfl rfl (exec_move _ rfl (.int .i64 (RC : Nat)) rfl) ?_
                go_frame
                refine ls_ex (some 69) (.pointer (some ⟨gs i, 2, none⟩)) rfl rfl (exec_index0 _ 2 _ _ rfl (gs i) 3 3 2 rfl rfl Try.underlying49 (by kernel_rfl) (by omega)) ?_
                go_frame
                refine ls_op rfl (fun K' hK' => ?_)
                have lz211 := hB.size
                have lz212 := h1.lt
                have lz213 := h4.lt
                have lz214 := h5.lt
                have lz215 := hz203.lt
                clear hq
                have lr9 := (hS.out.mat.row i hlt).2
                have lt9 := hS.out.top
                refine wp_store_one 2 _ _ rfl rfl (gs i) 2 rfl (.int .i64 (RC : Nat)) rfl rfl rfl _ _ (hS.out.mat.row i hlt).1 (by kernel_rfl) (by rw [iar_sizeR, midR_len HRl.out (by omega)]; omega) (fun Wz209 pz210 => ?_)
                replace hB := pz210.below hB (by omega)
                replace h1 := pz210.other h1 (by omega)
                replace h4 := pz210.other h4 (by omega)
                replace h5 := pz210.other h5 (by omega)
                replace hz203 := pz210.other hz203 (by omega)
                replace hS := hS.fill HRl.out hlt (by omega) (by rw [HRow.out]; rfl) pz210
                refine hK' _ _ ?_
                clear hK' K' pz210 lr9 lt9
                refine wpList_nil ?_
                go_upto_region 17 with (fail)
                refine wp_region_lit ?_
                refine ls_ex (some 70) (.int .i64 3) rfl rfl (exec_add _ _ _ _ rfl 2 1 3 rfl rfl rfl) ?_
                go_frame
                refine ls_ex (some 37) (.int .i64 3) rfl rfl (exec_move _ rfl (.int .i64 3) rfl) ?_
                go_frame
                refine wpList_nil ?_
                go_wp2_with fail
                go_roundw
                case rel => exact ⟨3, by omega, rfl, hB, h1, h4, h5, hS⟩
                case measure => simp [intOf] <;> omega
              · have HCI : Hid (cs[i]? = some (.slice (some ⟨gs i, 0, none⟩) 3 3)) := Lib.hid (by have h9 := hS.out.mat.cell i hlt; rw [midR_len HRl.out (by omega)] at h9; exact h9)
                obtain ⟨wk, rfl⟩ : ∃ z : World, z = wr := ⟨_, rfl⟩
                go_upto_region 10 with (fail)
                refine wp_region_lit ?_
                refine ls_ex (some 38) (.bool true) rfl rfl (exec_lss _ _ _ _ rfl 2 3 rfl rfl true (decide_eq_true (by omega))) ?_
                go_frame
                refine wpList_nil ?_
                go_upto_region 11 with (fail)
                refine wp_region_lit ?_
                refine ls_ex (some 39) (.int .i64 2) rfl rfl (exec_move _ rfl (.int .i64 2) rfl) ?_
                go_frame
                refine ls_ex (some 40) (.agg (u8s (F2))) rfl rfl (exec_index_part 58 45 _ _ rfl 3 2 9 _ (u8s F2) _ rfl rfl Try.underlying58 Try.underlying45 rfl (by kernel_rfl) (by omega) HE2.out) ?_
                go_frame
                refine ls_op rfl (fun K' hK' => ?_)
                have lz216 := hB.size
                have lz217 := h1.lt
                have lz218 := h4.lt
                have lz219 := h5.lt
                have naz224 := hS.away_new
                have naz225 := hq.away_new
                refine wp_new (some 10) rfl (alRw_impl_Form rfl) (fun Wz220 nnz221 => ?_)
                have bz222 := nnz221.below (Below.refl _ _) (Nat.le_refl _)
                replace hB := below_after hB bz222
                replace h1 := h1.after bz222
                replace h4 := h4.after bz222
                replace h5 := h5.after bz222
                replace hS := hS.below bz222
                replace hq := hq.below bz222
                have hz223 : At Wz220 wk.heap.size (.cells (u8s (List.replicate 9 0)) 45 (0, 0)) := nnz221.at_
                refine hK' _ _ ?_
                clear hK' K' nnz221 bz222
                go_frame
                refine ls_ex (some 9) (.int .i64 2) rfl rfl (exec_assign _ rfl (.int .i64 2) rfl) ?_
                go_frame
                refine ls_op rfl (fun K' hK' => ?_)
                refine wp_store_bytes 45 _ _ rfl rfl wk.heap.size rfl (F2) rfl _ _ hz223 9 (by kernel_rfl) Hb2.out.len (by simp) (fun Wz226 pz227 => ?_)
                replace hB := pz227.below hB (by omega)
                replace h1 := pz227.other h1 (by omega)
                replace h4 := pz227.other h4 (by omega)
                replace h5 := pz227.other h5 (by omega)
                replace hS := hS.put pz227 naz224
                replace hq := hq.put pz227 naz225
                replace hz223 : At Wz226 wk.heap.size (.cells (u8s (F2)) 45 (0, 0)) := pz227.at_
                refine hK' _ _ ?_
                clear hK' K' pz227
                refine wpList_nil ?_
                go_upto_region 12 with (fail)
                refine wp_region_y (zs := []) (S := fun w' => Below w.heap.size w w' ∧ At w' Wz35.heap.size (.cells #[.map (some M0), .map (some M1), .map (some M2)] 56 (0, 0)) ∧ At w' wk.heap.size (.cells (u8s (F2)) 45 (0, 0)) ∧ RaS w' zL zH M0 M1 M2 (raF p n m k) g cs gs N (midR (rkRow p n m k qs) i 2) ∧ MapQ w' M2 (fun es => ¬ HasK F2 es)) (S2 := fun w' => True) (by kernel_rfl) ?_
                change wpAnyY _ _ _ _ _ _ _ _ _ _ (World.drew _)
                generalize hwdz228 : World.drew _ = wdz228
                replace hB : Below w.heap.size w wdz228 := by rw [← hwdz228]; exact hB.drew
                replace h1 : At wdz228 w.heap.size (.cells #[.int .i64 p, .int .i64 n, .int .i64 m, .int .i64 k, .slice AX N c] 31 (0, 0)) := by rw [← hwdz228]; exact h1
                replace h4 : At wdz228 Wz10.heap.size (.cells #[.int .i64 n, .int .i64 m, .int .i64 m, .int .i64 k, .int .i64 n, .int .i64 k] 53 (0, 0)) := by rw [← hwdz228]; exact h4
                replace h5 : At wdz228 Wz35.heap.size (.cells #[.map (some M0), .map (some M1), .map (some M2)] 56 (0, 0)) := by rw [← hwdz228]; exact h5
                replace hS : RaS wdz228 zL zH M0 M1 M2 (raF p n m k) g cs gs N (midR (rkRow p n m k qs) i 2) := by rw [← hwdz228]; exact hS.drew
                replace hq : MapQ wdz228 M2 (fun es => ¬ HasK F2 es) := by rw [← hwdz228]; exact hq.drew
                replace hz223 : At wdz228 wk.heap.size (.cells (u8s (F2)) 45 (0, 0)) := by rw [← hwdz228]; exact hz223
                clear hwdz228
                refine y_yield 0 (some 42) (.int .i64 2) rfl (by kernel_rfl) (by kernel_rfl) (by kernel_rfl) (fun _ _ _ h => h) rfl rfl ⟨hB, h5, hz223, hS, hq⟩ (fun w' h' => exec_move _ rfl (.int .i64 2) rfl) ?_
                go_frame
                refine y_yield 1 (some 43) (.pointer (some ⟨Wz35.heap.size, 2, none⟩)) rfl (by kernel_rfl) (by kernel_rfl) (by kernel_rfl) (fun _ _ _ h => h) rfl rfl ⟨hB, h5, hz223, hS, hq⟩ (fun w' h' => exec_index_arr _ 55 _ _ rfl Wz35.heap.size 0 3 2 1 rfl rfl Try.underlying56 (by kernel_rfl) (by omega)) ?_
                go_frame
                refine y_yield 2 (some 44) (.map (some M2)) rfl (by kernel_rfl) (by kernel_rfl) (by kernel_rfl) (fun _ _ _ h => h) rfl rfl ⟨hB, h5, hz223, hS, hq⟩ (fun w' h' => exec_load_one 55 _ rfl Wz35.heap.size 2 rfl (.map (some M2)) _ Try.underlying55 rfl (cellA h'.2.1 rfl)) ?_
                go_frame
                refine y_yield 3 (some 45) (.agg (u8s (F2))) rfl (by kernel_rfl) (by kernel_rfl) (by kernel_rfl) (fun _ _ _ h => h) rfl rfl ⟨hB, h5, hz223, hS, hq⟩ (fun w' h' => exec_load_all 45 _ rfl wk.heap.size rfl _ _ _ h'.2.2.1 Try.underlying45 rfl 9 (by kernel_rfl) ((u8s_size _).trans Hb2.out.len)) ?_
                go_frame
                refine y_yield 4 (some 46) (.tuple #[.int .i64 0, .bool false]) rfl (by kernel_rfl) (by kernel_rfl) (by kernel_rfl) (fun _ _ _ h => h) rfl rfl ⟨hB, h5, hz223, hS, hq⟩ (fun w' h' => (exec_look _ _ rfl (h'.2.2.2.1.out.k2) F2 ⟨Hb2.out.len, HF2b.out⟩ ((RC : Nat) : Int) (raV2 HRC.out) rfl rfl).2 h'.2.2.2.2) ?_
                go_frame
                refine y_yield 5 (some 41) (.tuple #[.int .i64 0, .bool false]) rfl (by kernel_rfl) (by kernel_rfl) (by kernel_rfl) (fun _ _ _ h => h) rfl rfl ⟨hB, h5, hz223, hS, hq⟩ (fun w' h' => exec_move _ rfl (.tuple #[.int .i64 0, .bool false]) rfl) ?_
                go_frame
                refine y_yield 6 (some 47) (.int .i64 0) rfl (by kernel_rfl) (by kernel_rfl) (by kernel_rfl) (fun _ _ _ h => h) rfl rfl ⟨hB, h5, hz223, hS, hq⟩ (fun w' h' => exec_extract _ 0 rfl #[.int .i64 0, .bool false] (by rfl) _ rfl) ?_
                go_frame
                refine y_yield 7 (some 48) (.bool false) rfl (by kernel_rfl) (by kernel_rfl) (by kernel_rfl) (fun _ _ _ h => h) rfl rfl ⟨hB, h5, hz223, hS, hq⟩ (fun w' h' => exec_extract _ 1 rfl #[.int .i64 0, .bool false] (by rfl) _ rfl) ?_
                go_frame
                refine y_oper 8 (by kernel_rfl) rfl rfl (fun K' hK' => ?_)
                refine wp_exec (some 11) rfl (.int .i64 0) (exec_assign _ rfl (.int .i64 0) rfl) ?_
                refine hK' _ _ ⟨hB, h5, hz223, hS, hq⟩ (fun _ => trivial) ?_
                clear hK' K'
                go_frame
                refine y_oper 9 (by kernel_rfl) rfl rfl (fun K' hK' => ?_)
                refine wp_exec (some 12) rfl (.bool false) (exec_assign _ rfl (.bool false) rfl) ?_
                refine hK' _ _ ⟨hB, h5, hz223, hS, hq⟩ (fun _ => trivial) ?_
                clear hK' K'
                go_frame
                refine y_done (by kernel_rfl) ?_ _
                go_upto_region 13 with (fail)
                refine wp_region_lit ?_
                refine ls_ex (some 49) (.bool false) rfl rfl (exec_move _ rfl (.bool false) rfl) ?_
                go_frame
                refine ls_ex (some 50) (.bool true) rfl rfl (exec_not _ _ rfl false rfl) ?_
                go_frame
                refine wpList_nil ?_
                go_upto_region 14 with (fail)
                refine wp_region_y (zs := []) (S := fun w' => Below w.heap.size w w' ∧ At w' w.heap.size (.cells #[.int .i64 p, .int .i64 n, .int .i64 m, .int .i64 k, .slice AX N c] 31 (0, 0)) ∧ At w' Wz10.heap.size (.cells #[.int .i64 n, .int .i64 m, .int .i64 m, .int .i64 k, .int .i64 n, .int .i64 k] 53 (0, 0)) ∧ At w' wk.heap.size (.cells (u8s (F2)) 45 (0, 0))) (S2 := fun w' => True) (by kernel_rfl) ?_
                change wpAnyY _ _ _ _ _ _ _ _ _ _ (World.drew _)
                generalize hwdz229 : World.drew _ = wdz229
                replace hB : Below w.heap.size w wdz229 := by rw [← hwdz229]; exact hB.drew
                replace h1 : At wdz229 w.heap.size (.cells #[.int .i64 p, .int .i64 n, .int .i64 m, .int .i64 k, .slice AX N c] 31 (0, 0)) := by rw [← hwdz229]; exact h1
                replace h4 : At wdz229 Wz10.heap.size (.cells #[.int .i64 n, .int .i64 m, .int .i64 m, .int .i64 k, .int .i64 n, .int .i64 k] 53 (0, 0)) := by rw [← hwdz229]; exact h4
                replace h5 : At wdz229 Wz35.heap.size (.cells #[.map (some M0), .map (some M1), .map (some M2)] 56 (0, 0)) := by rw [← hwdz229]; exact h5
                replace hS : RaS wdz229 zL zH M0 M1 M2 (raF p n m k) g cs gs N (midR (rkRow p n m k qs) i 2) := by rw [← hwdz229]; exact hS.drew
                replace hq : MapQ wdz229 M2 (fun es => ¬ HasK F2 es) := by rw [← hwdz229]; exact hq.drew
                replace hz223 : At wdz229 wk.heap.size (.cells (u8s (F2)) 45 (0, 0)) := by rw [← hwdz229]; exact hz223
                clear hwdz229
                refine y_yield 0 (some 51) (.pointer (some ⟨w.heap.size, 0, none⟩)) rfl (by kernel_rfl) (by kernel_rfl) (by kernel_rfl) (fun _ _ _ h => h) rfl rfl ⟨hB, h1, h4, hz223⟩ (fun w' h' => exec_fieldAddr 31 _ 0 rfl _ (by kernel_rfl)) ?_
                go_frame
                refine y_yield 1 (some 52) (.int .i64 p) rfl (by kernel_rfl) (by kernel_rfl) (by kernel_rfl) (fun _ _ _ h => h) rfl rfl ⟨hB, h1, h4, hz223⟩ (fun w' h' => exec_load_one 2 _ rfl w.heap.size 0 rfl (.int .i64 p) _ Try.underlying2 rfl (h'.2.1.at_ 0)) ?_
                go_frame
                refine y_yield 2 (some 53) (.int .i64 2) rfl (by kernel_rfl) (by kernel_rfl) (by kernel_rfl) (fun _ _ _ h => h) rfl rfl ⟨hB, h1, h4, hz223⟩ (fun w' h' => exec_move _ rfl (.int .i64 2) rfl) ?_
                go_frame
                refine y_yield 3 (some 54) (.pointer (some ⟨Wz10.heap.size, 4, none⟩)) rfl (by kernel_rfl) (by kernel_rfl) (by kernel_rfl) (fun _ _ _ h => h) rfl rfl ⟨hB, h1, h4, hz223⟩ (fun w' h' => exec_index_arr _ 52 _ _ rfl Wz10.heap.size 0 3 2 2 rfl rfl Try.underlying53 (by kernel_rfl) (by omega)) ?_
                go_frame
                refine y_yield 4 (some 55) (.agg #[.int .i64 n, .int .i64 k]) rfl (by kernel_rfl) (by kernel_rfl) (by kernel_rfl) (fun _ _ _ h => h) rfl rfl ⟨hB, h1, h4, hz223⟩ (fun w' h' => exec_load_lit 52 _ rfl Wz10.heap.size 4 rfl _ _ _ 2 h'.2.2.1 Try.underlying52 rfl (by kernel_rfl) (by simp) #[.int .i64 n, .int .i64 k] rfl) ?_
                go_frame
                refine y_yield 5 (some 56) (.agg (u8s (F2))) rfl (by kernel_rfl) (by kernel_rfl) (by kernel_rfl) (fun _ _ _ h => h) rfl rfl ⟨hB, h1, h4, hz223⟩ (fun w' h' => exec_load_all 45 _ rfl wk.heap.size rfl _ _ _ h'.2.2.2 Try.underlying45 rfl 9 (by kernel_rfl) ((u8s_size _).trans Hb2.out.len)) ?_
                go_frame
                refine y_oper 6 (by kernel_rfl) rfl rfl (fun K' hK' => ?_)
                have lz232 := hB.size
                have lz233 := h1.lt
                have lz234 := h4.lt
                have lz235 := h5.lt
                have lz236 := hz223.lt
                refine wp_call3 (some 57) rfl 26 _ _ _ _ rfl (fun args w => by kernel_rfl) _ _ _ rfl rfl rfl _ (B.rankOfForm_c p n k F2 _ hpr hsn hsk Hb2.out.len HL2.out) (fun e Wz230 h => ?_)
                obtain ⟨rfl, bz231⟩ := h
                replace hB := below_after hB bz231
                replace h1 := h1.after bz231
                replace h4 := h4.after bz231
                replace h5 := h5.after bz231
                replace hS := hS.below bz231
                replace hq := hq.below bz231
                replace hz223 := hz223.after bz231
                rw [HRC.out]
                clear bz231
                refine ⟨_, rfl, ?_⟩
                refine hK' _ _ ⟨hB, h1, h4, hz223⟩ (fun _ => trivial) ?_
                clear hK' K'
                go_frame
                refine y_oper 7 (by kernel_rfl) rfl rfl (fun K' hK' => ?_)
                refine wp_exec (some 11) rfl (.int .i64 (RC : Nat)) (exec_assign _ rfl (.int .i64 (RC : Nat)) rfl) ?_
                refine hK' _ _ ⟨hB, h1, h4, hz223⟩ (fun _ => trivial) ?_
                clear hK' K'
                go_frame
                refine y_done (by kernel_rfl) ?_ _
                go_upto_region 15 with (fail)
                refine wp_region_y (zs := []) (S := fun w' => Below w.heap.size w w' ∧ At w' Wz35.heap.size (.cells #[.map (some M0), .map (some M1), .map (some M2)] 56 (0, 0)) ∧ At w' wk.heap.size (.cells (u8s (F2)) 45 (0, 0))) (S2 := fun w' => True) (by kernel_rfl) ?_
                change wpAnyY _ _ _ _ _ _ _ _ _ _ (World.drew _)
                generalize hwdz237 : World.drew _ = wdz237
                replace hB : Below w.heap.size w wdz237 := by rw [← hwdz237]; exact hB.drew
                replace h1 : At wdz237 w.heap.size (.cells #[.int .i64 p, .int .i64 n, .int .i64 m, .int .i64 k, .slice AX N c] 31 (0, 0)) := by rw [← hwdz237]; exact h1
                replace h4 : At wdz237 Wz10.heap.size (.cells #[.int .i64 n, .int .i64 m, .int .i64 m, .int .i64 k, .int .i64 n, .int .i64 k] 53 (0, 0)) := by rw [← hwdz237]; exact h4
                replace h5 : At wdz237 Wz35.heap.size (.cells #[.map (some M0), .map (some M1), .map (some M2)] 56 (0, 0)) := by rw [← hwdz237]; exact h5
                replace hS : RaS wdz237 zL zH M0 M1 M2 (raF p n m k) g cs gs N (midR (rkRow p n m k qs) i 2) := by rw [← hwdz237]; exact hS.drew
                replace hq : MapQ wdz237 M2 (fun es => ¬ HasK F2 es) := by rw [← hwdz237]; exact hq.drew
                replace hz223 : At wdz237 wk.heap.size (.cells (u8s (F2)) 45 (0, 0)) := by rw [← hwdz237]; exact hz223
                clear hwdz237
                refine y_yield 0 (some 58) (.int .i64 2) rfl (by kernel_rfl) (by kernel_rfl) (by kernel_rfl) (fun _ _ _ h => h) rfl rfl ⟨hB, h5, hz223⟩ (fun w' h' => exec_move _ rfl (.int .i64 2) rfl) ?_
                go_frame
                refine y_yield 1 (some 59) (.pointer (some ⟨Wz35.heap.size, 2, none⟩)) rfl (by kernel_rfl) (by kernel_rfl) (by kernel_rfl) (fun _ _ _ h => h) rfl rfl ⟨hB, h5, hz223⟩ (fun w' h' => exec_index_arr _ 55 _ _ rfl Wz35.heap.size 0 3 2 1 rfl rfl Try.underlying56 (by kernel_rfl) (by omega)) ?_
                go_frame
                refine y_yield 2 (some 60) (.map (some M2)) rfl (by kernel_rfl) (by kernel_rfl) (by kernel_rfl) (fun _ _ _ h => h) rfl rfl ⟨hB, h5, hz223⟩ (fun w' h' => exec_load_one 55 _ rfl Wz35.heap.size 2 rfl (.map (some M2)) _ Try.underlying55 rfl (cellA h'.2.1 rfl)) ?_
                go_frame
                refine y_yield 3 (some 61) (.agg (u8s (F2))) rfl (by kernel_rfl) (by kernel_rfl) (by kernel_rfl) (fun _ _ _ h => h) rfl rfl ⟨hB, h5, hz223⟩ (fun w' h' => exec_load_all 45 _ rfl wk.heap.size rfl _ _ _ h'.2.2 Try.underlying45 rfl 9 (by kernel_rfl) ((u8s_size _).trans Hb2.out.len)) ?_
                go_frame
                refine y_yield 4 (some 62) (.int .i64 (RC : Nat)) rfl (by kernel_rfl) (by kernel_rfl) (by kernel_rfl) (fun _ _ _ h => h) rfl rfl ⟨hB, h5, hz223⟩ (fun w' h' => exec_move _ rfl (.int .i64 (RC : Nat)) rfl) ?_
                go_frame
                refine y_oper 5 (by kernel_rfl) rfl rfl (fun K' hK' => ?_)
                have lz241 := hB.size
                have lz242 := h1.lt
                have lz243 := h4.lt
                have lz244 := h5.lt
                have lz245 := hz223.lt
                clear hq
                have lm9 := hS.out.lt
                have lh9 := hS.lohi
                have lt9 := hS.out.top
                refine wp_mapUpF _ _ _ rfl rfl (hS.out.k2) F2 ((RC : Nat) : Int) ⟨Hb2.out.len, HF2b.out⟩ rfl rfl rfl (raF2 HRC.out) (fun es9 cl9 Wz238 pz239 hmz240 => ?_)
                replace hB := pz239.below hB (by omega)
                replace h1 := pz239.other h1 (by omega)
                replace h4 := pz239.other h4 (by omega)
                replace h5 := pz239.other h5 (by omega)
                replace hz223 := pz239.other hz223 (by omega)
                replace hS := hS.upd (t := 2) (by omega) pz239 hmz240
                refine hK' _ _ ⟨hB, h5, hz223⟩ (fun _ => trivial) ?_
                clear hK' K' pz239 hmz240 lm9 lh9 lt9
                refine y_done (by kernel_rfl) ?_ _
                go_upto_region 16 with (fail)
                refine wp_region_lit ?_
                refine ls_ex (some 63) (.slice (some ⟨g, 0, none⟩) N cM) rfl rfl (exec_move _ rfl (.slice (some ⟨g, 0, none⟩) N cM) rfl) ?_
                go_frame
                refine ls_ex (some 64) (.int .i64 i) rfl rfl (exec_move _ rfl (.int .i64 i) rfl) ?_
                go_frame
                refine ls_ex (some 65) (.pointer (some ⟨g, i, none⟩)) rfl rfl (exec_index0 _ 49 _ _ rfl g N cM i rfl rfl Try.underlying26 (by kernel_rfl) hlt) ?_
                go_frame
                refine ls_ex (some 66) (.slice (some ⟨gs i, 0, none⟩) 3 3) rfl rfl (exec_load_one 49 _ rfl g i rfl (.slice (some ⟨gs i, 0, none⟩) 3 3) _ Try.underlying49 rfl (cellA hS.out.mat.out HCI.out)) ?_
                go_frame
                refine ls_ex (some 67) (.int .i64 2) rfl rfl (exec_move _ rfl (.int .i64 2) rfl) ?_
                go_frame
                refine ls_ex (some 68) (.int .i64 (RC : Nat)) rfl rfl (exec_move _ rfl (.int .i64 (RC : Nat)) rfl) ?_
                go_frame
                refine ls_ex (some 69) (.pointer (some ⟨gs i, 2, none⟩)) rfl rfl (exec_index0 _ 2 _ _ rfl (gs i) 3 3 2 rfl rfl Try.underlying49 (by kernel_rfl) (by omega)) ?_
                go_frame
                refine ls_op rfl (fun K' hK' => ?_)
                have lz248 := hB.size
                have lz249 := h1.lt
                have lz250 := h4.lt
                have lz251 := h5.lt
                have lz252 := hz223.lt
                have lr9 := (hS.out.mat.row i hlt).2
                have lt9 := hS.out.top
                refine wp_store_one 2 _ _ rfl rfl (gs i) 2 rfl (.int .i64 (RC : Nat)) rfl rfl rfl _ _ (hS.out.mat.row i hlt).1 (by kernel_rfl) (by rw [iar_sizeR, midR_len HRl.out (by omega)]; omega) (fun Wz246 pz247 => ?_)
                replace hB := pz247.below hB (by omega)
                replace h1 := pz247.other h1 (by omega)
                replace h4 := pz247.other h4 (by omega)
                replace h5 := pz247.other h5 (by omega)
                replace hz223 := pz247.other hz223 (by omega)
                replace hS := hS.fill HRl.out hlt (by omega) (by rw [HRow.out]; rfl) pz247
                refine hK' _ _ ?_
                clear hK' K' pz247 lr9 lt9
                refine wpList_nil ?_
                go_upto_region 17 with (fail)
                refine wp_region_lit ?_
                refine ls_ex (some 70) (.int .i64 3) rfl rfl (exec_add _ _ _ _ rfl 2 1 3 rfl rfl rfl) ?_
                go_frame
                refine ls_ex (some 37) (.int .i64 3) rfl rfl (exec_move _ rfl (.int .i64 3) rfl) ?_
                go_frame
                refine wpList_nil ?_
                go_wp2_with fail
                go_roundw
                case rel => exact ⟨3, by omega, rfl, hB, h1, h4, h5, hS⟩
                case measure => simp [intOf] <;> omega
            · have ht3 : t = 3 := by omega
              rw [ht3] at hS
              replace hS := hS.congr (midR_next (HRl.out i))
              obtain ⟨wk, rfl⟩ : ∃ z : World, z = wr := ⟨_, rfl⟩
              go_upto_region 10 with (fail)
              refine wp_region_lit ?_
              refine ls_ex (some 38) (.bool false) rfl rfl (exec_lss _ _ _ _ rfl t 3 rfl rfl false (decide_eq_false (by omega))) ?_
              go_frame
              refine wpList_nil ?_
              go_upto_region 18 with (fail)
              refine wp_region_lit ?_
              refine ls_ex (some 71) (.int .i64 (i + 1)) rfl rfl (exec_add _ _ _ _ rfl i 1 (i + 1) rfl rfl (IntWalk.i64_in _ (by omega))) ?_
              go_frame
              refine ls_ex (some 30) (.int .i64 (i + 1)) rfl rfl (exec_move _ rfl (.int .i64 (i + 1)) rfl) ?_
              go_frame
              refine wpList_nil ?_
              go_wp2_with fail
              go_roundw
              case rel => exact ⟨i + 1, by omega, by go_num, hB, h1, h4, h5, hS⟩
              case measure => simp [intOf] <;> omega
    · have hiN : i = N := by omega
      rw [hiN] at hS
      go_upto_region 7 with (fail)
      refine wp_region_lit ?_
      refine ls_ex (some 31) (.bool false) rfl rfl (exec_lss _ _ _ _ rfl i N rfl rfl false (decide_eq_false (by omega))) ?_
      go_frame
      refine wpList_nil ?_
      go_upto_region 19 with (fail)
      refine wp_region_lit ?_
      refine ls_ex (some 72) (.slice (some ⟨g, 0, none⟩) N cM) rfl rfl (exec_move _ rfl (.slice (some ⟨g, 0, none⟩) N cM) rfl) ?_
      go_frame
      refine ls_ex (some 2) (.slice (some ⟨g, 0, none⟩) N cM) rfl rfl (exec_assign _ rfl (.slice (some ⟨g, 0, none⟩) N cM) rfl) ?_
      go_frame
      refine ls_ex (some 3) (.int .i64 0) rfl rfl (exec_assign _ rfl (.int .i64 0) rfl) ?_
      go_frame
      refine wpList_nil ?_
      go_wp2_with fail
      go_ret2
      exact ⟨_, by rw [HC.out]; rfl, by rw [HN.out, HRw.out]; exact ranksM hS (by omega), hB⟩
theorem implRanksOf_c (p n m k : Int) (A : Option Addr) (c : Nat) (qs : List (List Nat)) (w : World) (hR : Rd w A qs) (hlen : qs.length ≤ 1048576) : Calls Try.prog 8 #[.agg #[.int .i64 p, .int .i64 n, .int .i64 m, .int .i64 k, .slice A qs.length c]] w (ResM w (raN p n m k qs) (raR p n m k qs) (raCode p n m k qs)) := by
  rcases Bool.eq_false_or_eq_true (schemeB p n m k qs) with hx | hx
  · have h0 := sc_parts hx
    obtain ⟨n, rfl⟩ : ∃ z : Nat, n = z := ⟨n.toNat, by omega⟩
    obtain ⟨m, rfl⟩ : ∃ z : Nat, m = z := ⟨m.toNat, by omega⟩
    obtain ⟨k, rfl⟩ : ∃ z : Nat, k = z := ⟨k.toNat, by omega⟩
    rcases Nat.eq_zero_or_pos qs.length with hz | hz
    · rw [hz]
      exact implRa_0 p n m k A c qs w hR hz (by omega) hx
    · exact implRa_y p n m k A c qs.length qs w hR rfl hlen hx hz
  · exact implRa_a p n m k A c qs.length qs w hR rfl hlen hx
theorem tot_3n {row : Nat → List Int} (h : ∀ i, (row i).length = 3) : ∀ n, tot row n = 3 * n
  | 0 => rfl
  | n + 1 => by
    rw [tot, tot_3n h n, h n]
    omega
theorem ra_ok {p n m k : Int} {qs : List (List Nat)} : raN p n m k qs + tot (raR p n m k qs) (raN p n m k qs) ≤ 1048576 := by
  rw [tot_3n (fun i => rfl)]
  unfold raN
  split
  · next h =>
    have := (sc_parts h).2.2.2.2.1
    omega
  · omega
end Go.Proofs.Ytebmkmkhfhmfbaa
