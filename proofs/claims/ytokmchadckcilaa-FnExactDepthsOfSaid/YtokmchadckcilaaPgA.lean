/-
  DepthsOf of both sides. (Made by mkpga.py.)
-/
import Derived.Test.YtokmchadckcilaaPg8
namespace Go.Proofs.Ytokmchadckcilaa
open Go.RowKit
set_option maxRecDepth 100000
attribute [local irreducible] wpList
def doV (ds : List Int) (q : List Int) : Int := getI ds (k0 q).toNat
def doutL (os : List (List Int)) (ds : List Int) : Nat → List Int
  | 0 => []
  | j + 1 => doutL os ds j ++ [doV ds (os[j]?.getD [])]
theorem doutL_len (os : List (List Int)) (ds : List Int) (j : Nat) : (doutL os ds j).length = j := by
  induction j with
  | zero => simp [doutL]
  | succ j ih => simp only [doutL, List.length_append, ih, List.length_cons, List.length_nil]
theorem doutL_step {os : List (List Int)} (ds : List Int) {j : Nat} (hj : j < os.length) : doutL os ds (j + 1) = doutL os ds j ++ [doV ds os[j]] := by simp [doutL, hj]
theorem depsL_zero {N : Nat} {ss : List (List Int)} {k : Nat} (hN : 1 ≤ N) : getI (depsL N ss k) 0 = 0 := by
  induction k with
  | zero => simp only [depsL, getI, List.getElem?_replicate]; split <;> rfl
  | succ k ih =>
    simp only [depsL]
    rw [getI_left _ (by rw [depsL_len]; omega)]
    exact ih
def dpCode (p n : Int) (ss os : List (List Int)) : Int := if progB p n ss os = true then 0 else 1
def dpL (p n : Int) (ss os : List (List Int)) : List Int := if progB p n ss os = true then doutL os (depsL n.toNat ss ss.length) os.length else []
set_option maxHeartbeats 4000000 in
theorem specDepths_a (p n : Int) (As Ao : Option Addr) (cs co : Nat) (ss os : List (List Int)) (w : World) (hs : RdK 3 w As ss) (ho : RdK 2 w Ao os) (hns : ss.length ≤ 1048576) (hno : os.length ≤ 1048576) (hpr : progB p n ss os = false) :
    Calls Try.prog 23 #[.agg #[.int .i64 p, .int .i64 n, .slice As ss.length cs, .slice Ao os.length co]] w (ResI w (dpL p n ss os) (dpCode p n ss os)) := by
  have hB := Below.refl w.heap.size w
  have Hc : Hid (dpCode p n ss os = 1) := Lib.hid (by unfold dpCode; rw [hpr]; rfl)
  have Hr : Hid (dpL p n ss os = []) := Lib.hid (by unfold dpL; rw [hpr]; rfl)
  have HP := Lib.hid hpr
  clear hpr
  go_enter Try.func23, Try.ntmps23
  go_upto_region 0 with (fail)
  refine wp_region_lit ?_
  refine ls_op rfl (fun K' hK' => ?_)
  have lz1 := hB.size
  refine wp_new (some 1) rfl (exec_box 36 _ rfl (#[.int .i64 p, .int .i64 n, .slice As ss.length cs, .slice Ao os.length co]) rfl) (fun Wz2 nnz3 => ?_)
  have bz4 := nnz3.below (Below.refl _ _) (Nat.le_refl _)
  replace hB := below_after hB bz4
  have hz5 : At Wz2 w.heap.size (.cells #[.int .i64 p, .int .i64 n, .slice As ss.length cs, .slice Ao os.length co] 36 (0, 0)) := nnz3.at_
  refine hK' _ _ ?_
  clear hK' K' nnz3 bz4
  go_frame
  refine ls_ex (some 2) (.slice none 0 0) rfl rfl (exec_assign _ rfl (.slice none 0 0) rfl) ?_
  go_frame
  refine ls_ex (some 3) (.int .i64 0) rfl rfl (exec_assign _ rfl (.int .i64 0) rfl) ?_
  go_frame
  refine wpList_nil ?_
  go_upto_region 1 with (fail)
  refine wp_region_lit ?_
  refine ls_ex (some 8) (.agg #[.int .i64 p, .int .i64 n, .slice As ss.length cs, .slice Ao os.length co]) rfl rfl (exec_load_all 36 _ rfl w.heap.size rfl _ _ _ hz5 Try.underlying36 rfl 4 (by kernel_rfl) rfl) ?_
  go_frame
  refine ls_op rfl (fun K' hK' => ?_)
  have lz8 := hB.size
  have lz9 := hz5.lt
  refine wp_call1 (some 9) rfl 35 _ _ rfl (fun args w => by kernel_rfl) _ rfl _ (l07Is_c p n As Ao cs co ss os _ (hs.keep hB) (ho.keep hB) hns hno) (fun e Wz6 h => ?_)
  obtain ⟨rfl, bz7⟩ := h
  replace hB := below_after hB bz7
  replace hz5 := hz5.after bz7
  rw [HP.out]
  clear bz7
  refine ⟨_, rfl, ?_⟩
  refine hK' _ _ ?_
  clear hK' K'
  go_frame
  refine ls_ex (some 10) (.bool true) rfl rfl (exec_not _ _ rfl false rfl) ?_
  go_frame
  refine wpList_nil ?_
  go_upto_region 2 with (fail)
  refine wp_region_lit ?_
  refine ls_ex (some 2) (.slice none 0 0) rfl rfl (exec_assign _ rfl (.slice none 0 0) rfl) ?_
  go_frame
  refine ls_ex (some 3) (.int .i64 1) rfl rfl (exec_assign _ rfl (.int .i64 1) rfl) ?_
  go_frame
  refine wpList_nil ?_
  go_wp2_with fail
  go_ret2
  exact ⟨_, by rw [Hc.out]; rfl, by rw [Hr.out]; exact OwnI.nil _ _, hB⟩
set_option maxHeartbeats 4000000 in
theorem implDepths_a (p n : Int) (As Ao : Option Addr) (cs co : Nat) (ss os : List (List Int)) (w : World) (hs : RdK 3 w As ss) (ho : RdK 2 w Ao os) (hns : ss.length ≤ 1048576) (hno : os.length ≤ 1048576) (hpr : progB p n ss os = false) :
    Calls Try.prog 24 #[.agg #[.int .i64 p, .int .i64 n, .slice As ss.length cs, .slice Ao os.length co]] w (ResI w (dpL p n ss os) (dpCode p n ss os)) := by
  have hB := Below.refl w.heap.size w
  have Hc : Hid (dpCode p n ss os = 1) := Lib.hid (by unfold dpCode; rw [hpr]; rfl)
  have Hr : Hid (dpL p n ss os = []) := Lib.hid (by unfold dpL; rw [hpr]; rfl)
  have HP := Lib.hid hpr
  clear hpr
  go_enter Try.func24, Try.ntmps24
  go_upto_region 0 with (fail)
  refine wp_region_lit ?_
  refine ls_op rfl (fun K' hK' => ?_)
  have lz1 := hB.size
  refine wp_new (some 1) rfl (exec_box 36 _ rfl (#[.int .i64 p, .int .i64 n, .slice As ss.length cs, .slice Ao os.length co]) rfl) (fun Wz2 nnz3 => ?_)
  have bz4 := nnz3.below (Below.refl _ _) (Nat.le_refl _)
  replace hB := below_after hB bz4
  have hz5 : At Wz2 w.heap.size (.cells #[.int .i64 p, .int .i64 n, .slice As ss.length cs, .slice Ao os.length co] 36 (0, 0)) := nnz3.at_
  refine hK' _ _ ?_
  clear hK' K' nnz3 bz4
  go_frame
  refine ls_ex (some 2) (.slice none 0 0) rfl rfl (exec_assign _ rfl (.slice none 0 0) rfl) ?_
  go_frame
  refine ls_ex (some 3) (.int .i64 0) rfl rfl (exec_assign _ rfl (.int .i64 0) rfl) ?_
  go_frame
  refine wpList_nil ?_
  go_upto_region 1 with (fail)
  refine wp_region_lit ?_
  refine ls_ex (some 8) (.agg #[.int .i64 p, .int .i64 n, .slice As ss.length cs, .slice Ao os.length co]) rfl rfl (exec_load_all 36 _ rfl w.heap.size rfl _ _ _ hz5 Try.underlying36 rfl 4 (by kernel_rfl) rfl) ?_
  go_frame
  refine ls_op rfl (fun K' hK' => ?_)
  have lz8 := hB.size
  have lz9 := hz5.lt
  refine wp_call1 (some 9) rfl 15 _ _ rfl (fun args w => by kernel_rfl) _ rfl _ (implIsProgram_c p n As Ao cs co ss os _ (hs.keep hB) (ho.keep hB) hns hno) (fun e Wz6 h => ?_)
  obtain ⟨rfl, bz7⟩ := h
  replace hB := below_after hB bz7
  replace hz5 := hz5.after bz7
  rw [HP.out]
  clear bz7
  refine ⟨_, rfl, ?_⟩
  refine hK' _ _ ?_
  clear hK' K'
  go_frame
  refine ls_ex (some 10) (.bool true) rfl rfl (exec_not _ _ rfl false rfl) ?_
  go_frame
  refine wpList_nil ?_
  go_upto_region 2 with (fail)
  refine wp_region_lit ?_
  refine ls_ex (some 2) (.slice none 0 0) rfl rfl (exec_assign _ rfl (.slice none 0 0) rfl) ?_
  go_frame
  refine ls_ex (some 3) (.int .i64 1) rfl rfl (exec_assign _ rfl (.int .i64 1) rfl) ?_
  go_frame
  refine wpList_nil ?_
  go_wp2_with fail
  go_ret2
  exact ⟨_, by rw [Hc.out]; rfl, by rw [Hr.out]; exact OwnI.nil _ _, hB⟩
set_option maxHeartbeats 25600000 in
theorem specDepths_b (p : Int) (N : Nat) (As Ao : Option Addr) (cs co : Nat) (ss os : List (List Int)) (w : World) (hs : RdK 3 w As ss) (ho : RdK 2 w Ao os) (hns : ss.length ≤ 1048576) (hno : os.length ≤ 1048576) (hpr : progB p (N : Int) ss os = true) :
    Calls Try.prog 23 #[.agg #[.int .i64 p, .int .i64 (N : Int), .slice As ss.length cs, .slice Ao os.length co]] w (ResI w (dpL p (N : Int) ss os) (dpCode p (N : Int) ss os)) := by
  have hB := Below.refl w.heap.size w
  have hpp := progB_parts hpr
  have hn9 := hpp.2.1
  have hN9 : N ≤ 30 := by omega
  have hl9 := hpp.2.2.1
  have ho9 := hpp.2.2.2.1
  have Hc : Hid (dpCode p (N : Int) ss os = 0) := Lib.hid (by unfold dpCode; rw [hpr]; rfl)
  have Hr : Hid (dpL p (N : Int) ss os = doutL os (depsL N ss ss.length) os.length) := Lib.hid (by unfold dpL; rw [hpr]; rfl)
  have HSt := Lib.hid (fun k (hk : k < ss.length) => stp_at hs.good hpr hk)
  have HOt := Lib.hid (fun j (hj : j < os.length) => otp_at ho.good hpr hj)
  have HP := Lib.hid hpr
  clear hpr hpp
  go_enter Try.func23, Try.ntmps23
  go_upto_region 0 with (fail)
  refine wp_region_lit ?_
  refine ls_op rfl (fun K' hK' => ?_)
  have lz1 := hB.size
  refine wp_new (some 1) rfl (exec_box 36 _ rfl (#[.int .i64 p, .int .i64 (N : Int), .slice As ss.length cs, .slice Ao os.length co]) rfl) (fun Wz2 nnz3 => ?_)
  have bz4 := nnz3.below (Below.refl _ _) (Nat.le_refl _)
  replace hB := below_after hB bz4
  have hz5 : At Wz2 w.heap.size (.cells #[.int .i64 p, .int .i64 (N : Int), .slice As ss.length cs, .slice Ao os.length co] 36 (0, 0)) := nnz3.at_
  refine hK' _ _ ?_
  clear hK' K' nnz3 bz4
  go_frame
  refine ls_ex (some 2) (.slice none 0 0) rfl rfl (exec_assign _ rfl (.slice none 0 0) rfl) ?_
  go_frame
  refine ls_ex (some 3) (.int .i64 0) rfl rfl (exec_assign _ rfl (.int .i64 0) rfl) ?_
  go_frame
  refine wpList_nil ?_
  go_upto_region 1 with (fail)
  refine wp_region_lit ?_
  refine ls_ex (some 8) (.agg #[.int .i64 p, .int .i64 (N : Int), .slice As ss.length cs, .slice Ao os.length co]) rfl rfl (exec_load_all 36 _ rfl w.heap.size rfl _ _ _ hz5 Try.underlying36 rfl 4 (by kernel_rfl) rfl) ?_
  go_frame
  refine ls_op rfl (fun K' hK' => ?_)
  have lz8 := hB.size
  have lz9 := hz5.lt
  refine wp_call1 (some 9) rfl 35 _ _ rfl (fun args w => by kernel_rfl) _ rfl _ (l07Is_c p (N : Int) As Ao cs co ss os _ (hs.keep hB) (ho.keep hB) hns hno) (fun e Wz6 h => ?_)
  obtain ⟨rfl, bz7⟩ := h
  replace hB := below_after hB bz7
  replace hz5 := hz5.after bz7
  rw [HP.out]
  clear bz7
  refine ⟨_, rfl, ?_⟩
  refine hK' _ _ ?_
  clear hK' K'
  go_frame
  refine ls_ex (some 10) (.bool false) rfl rfl (exec_not _ _ rfl true rfl) ?_
  go_frame
  refine wpList_nil ?_
  go_upto_region 3 with (fail)
  refine wp_region_lit ?_
  refine ls_ex (some 11) (.pointer (some ⟨w.heap.size, 1, none⟩)) rfl rfl (exec_fieldAddr 36 _ 1 rfl _ (by kernel_rfl)) ?_
  go_frame
  refine ls_ex (some 12) (.int .i64 (N : Int)) rfl rfl (exec_load_one 2 _ rfl w.heap.size 1 rfl (.int .i64 (N : Int)) _ Try.underlying2 rfl (hz5.at_ 1)) ?_
  go_frame
  refine ls_op rfl (fun K' hK' => ?_)
  have lz10 := hB.size
  have lz11 := hz5.lt
  refine wp_make_I (some 13) rfl _ _ rfl N rfl rfl (by omega) (fun Wz12 nnz13 => ?_)
  have bz14 := nnz13.below (Below.refl _ _) (Nat.le_refl _)
  replace hB := below_after hB bz14
  replace hz5 := hz5.after bz14
  have ho5 : OwnI Wz12 Wz6.heap.size (.slice (some ⟨Wz6.heap.size, 0, none⟩) N N) (depsL N ss 0) := by have h9 := OwnI.of_at (lo := Wz6.heap.size) (xs := List.replicate N 0) nnz13.at_ (Nat.le_refl _) (by simp; omega); simpa [depsL] using h9
  refine hK' _ _ ?_
  clear hK' K' nnz13 bz14
  go_frame
  refine ls_op rfl (fun K' hK' => ?_)
  have lz15 := hB.size
  have lz16 := hz5.lt
  refine wp_new (some 14) rfl (exec_bs0I rfl) (fun Wz17 nnz18 => ?_)
  have bz19 := nnz18.below (Below.refl _ _) (Nat.le_refl _)
  replace hB := below_after hB bz19
  replace hz5 := hz5.after bz19
  replace ho5 := ho5.below bz19
  refine hK' _ _ ?_
  clear hK' K' nnz18 bz19
  go_frame
  refine ls_ex (some 4) (.slice (some ⟨Wz6.heap.size, 0, none⟩) N N) rfl rfl (exec_assign _ rfl (.slice (some ⟨Wz6.heap.size, 0, none⟩) N N) rfl) ?_
  go_frame
  refine ls_ex (some 5) (.slice (some ⟨Wz12.heap.size, 0, none⟩) 0 0) rfl rfl (exec_assign _ rfl (.slice (some ⟨Wz12.heap.size, 0, none⟩) 0 0) rfl) ?_
  go_frame
  refine wpList_nil ?_
  go_upto_region 4 with (fail)
  refine wp_region_lit ?_
  refine ls_ex (some 6) (.int .i64 0) rfl rfl (exec_assign _ rfl (.int .i64 0) rfl) ?_
  go_frame
  refine wpList_nil ?_
  go_wp2_with fail
  go_loopw [6, 4] (fun s6 s4 wr => ∃ (k : Nat) (v5 : Value), k ≤ ss.length ∧ s6 = .int .i64 k ∧ v5 = s4 ∧ Below w.heap.size w wr ∧ At wr w.heap.size (.cells #[.int .i64 p, .int .i64 (N : Int), .slice As ss.length cs, .slice Ao os.length co] 36 (0, 0)) ∧ OwnI wr Wz6.heap.size v5 (depsL N ss k)) (fun s6 _ _ => ss.length - (intOf s6).toNat)
  case atStart => exact ⟨0, _, by omega, rfl, rfl, hB, hz5, ho5⟩
  case round =>
    clear hB hz5 ho5
    obtain ⟨k, v5, hk, rfl, rfl, hB, h0, ho5⟩ := hrel
    by_cases hlt : k < ss.length
    · obtain ⟨b, off, rfl, hc⟩ := (hs.keep hB).at_ hlt
      clear hc
      obtain ⟨L, R, f, hq, hL, hR, _, hf1, hf2⟩ := HSt.out k hlt
      have Hq := Lib.hid hq
      have dL := depsL_b N ss k L
      have dR := depsL_b N ss k R
      obtain ⟨mx, hmx⟩ : ∃ mx, (if getI (depsL N ss k) L < getI (depsL N ss k) R then getI (depsL N ss k) R else getI (depsL N ss k) L) = mx := ⟨_, rfl⟩
      have hmb : 0 ≤ mx ∧ mx ≤ k := by rw [← hmx]; split <;> omega
      have HMx := Lib.hid hmx
      have HS : Hid (depsL N ss (k + 1) = (depsL N ss k) ++ [1 + mx]) := Lib.hid (by rw [depsL_step N hlt, hq, ← hmx]; rfl)
      clear hq hmx
      obtain ⟨g5, c5, rfl, hg5, hg5b⟩ := ho5.form (by rw [depsL_len]; omega)
      go_upto_region 5 with (fail)
      refine wp_region_lit ?_
      refine ls_ex (some 15) (.int .i64 k) rfl rfl (exec_move _ rfl (.int .i64 k) rfl) ?_
      go_frame
      refine ls_ex (some 16) (.pointer (some ⟨w.heap.size, 2, none⟩)) rfl rfl (exec_fieldAddr 36 _ 2 rfl _ (by kernel_rfl)) ?_
      go_frame
      refine ls_ex (some 17) (.slice (some ⟨b, off, none⟩) ss.length cs) rfl rfl (exec_load_one 33 _ rfl w.heap.size 2 rfl (.slice (some ⟨b, off, none⟩) ss.length cs) _ Try.underlying33 rfl (h0.at_ 2)) ?_
      go_frame
      refine ls_ex (some 18) (.int .i64 ss.length) rfl rfl (exec_len _ 33 57 rfl ((some ⟨b, off, none⟩)) ss.length cs rfl Try.underlying33) ?_
      go_frame
      refine ls_ex (some 19) (.bool true) rfl rfl (exec_lss _ _ _ _ rfl k ss.length rfl rfl true (decide_eq_true (by omega))) ?_
      go_frame
      refine wpList_nil ?_
      go_upto_region 7 with (fail)
      refine wp_region_y (zs := [22, 23]) (S := fun w' => Below w.heap.size w w' ∧ At w' w.heap.size (.cells #[.int .i64 p, .int .i64 (N : Int), .slice (some ⟨b, off, none⟩) ss.length cs, .slice Ao os.length co] 36 (0, 0))) (S2 := fun w' => OwnI w' Wz6.heap.size (.slice (some ⟨g5, 0, none⟩) (depsL N ss k).length c5) (depsL N ss k)) (by kernel_rfl) ?_
      change wpAnyY _ _ _ _ _ _ _ _ _ _ (World.drew _)
      generalize hwdz20 : World.drew _ = wdz20
      replace hB : Below w.heap.size w wdz20 := by rw [← hwdz20]; exact hB.drew
      replace h0 : At wdz20 w.heap.size (.cells #[.int .i64 p, .int .i64 (N : Int), .slice (some ⟨b, off, none⟩) ss.length cs, .slice Ao os.length co] 36 (0, 0)) := by rw [← hwdz20]; exact h0
      replace ho5 : OwnI wdz20 Wz6.heap.size (.slice (some ⟨g5, 0, none⟩) (depsL N ss k).length c5) (depsL N ss k) := by rw [← hwdz20]; exact ho5.drew
      clear hwdz20
      refine y_yield 0 (some 22) (.slice (some ⟨g5, 0, none⟩) (depsL N ss k).length c5) rfl (by kernel_rfl) (by kernel_rfl) (by kernel_rfl) (fun _ _ _ h => h) rfl rfl ⟨hB, h0⟩ (fun w' h' => exec_move _ rfl (.slice (some ⟨g5, 0, none⟩) (depsL N ss k).length c5) rfl) ?_
      go_frame
      refine y_yield 1 (some 23) (.slice (some ⟨g5, 0, none⟩) (depsL N ss k).length c5) rfl (by kernel_rfl) (by kernel_rfl) (by kernel_rfl) (fun _ _ _ h => h) rfl rfl ⟨hB, h0⟩ (fun w' h' => exec_move _ rfl (.slice (some ⟨g5, 0, none⟩) (depsL N ss k).length c5) rfl) ?_
      go_frame
      refine y_yield 2 (some 24) (.pointer (some ⟨w.heap.size, 2, none⟩)) rfl (by kernel_rfl) (by kernel_rfl) (by kernel_rfl) (fun _ _ _ h => h) rfl rfl ⟨hB, h0⟩ (fun w' h' => exec_fieldAddr 36 _ 2 rfl _ (by kernel_rfl)) ?_
      go_frame
      refine y_yield 3 (some 25) (.slice (some ⟨b, off, none⟩) ss.length cs) rfl (by kernel_rfl) (by kernel_rfl) (by kernel_rfl) (fun _ _ _ h => h) rfl rfl ⟨hB, h0⟩ (fun w' h' => exec_load_one 33 _ rfl w.heap.size 2 rfl (.slice (some ⟨b, off, none⟩) ss.length cs) _ Try.underlying33 rfl (h'.2.at_ 2)) ?_
      go_frame
      refine y_yield 4 (some 26) (.int .i64 k) rfl (by kernel_rfl) (by kernel_rfl) (by kernel_rfl) (fun _ _ _ h => h) rfl rfl ⟨hB, h0⟩ (fun w' h' => exec_move _ rfl (.int .i64 k) rfl) ?_
      go_frame
      refine y_yield 5 (some 27) (.pointer (some ⟨b, off + k * 3, none⟩)) rfl (by kernel_rfl) (by kernel_rfl) (by kernel_rfl) (fun _ _ _ h => h) rfl rfl ⟨hB, h0⟩ (fun w' h' => exec_index_slice _ 57 _ _ rfl b off ss.length cs k 3 rfl rfl Try.underlying33 (by kernel_rfl) (by omega)) ?_
      go_frame
      refine y_yield 6 (some 28) (.pointer (some ⟨b, off + k * 3, none⟩)) rfl (by kernel_rfl) (by kernel_rfl) (by kernel_rfl) (fun _ _ _ h => h) rfl rfl ⟨hB, h0⟩ (fun w' h' => exec_fieldAddr 57 _ 0 rfl _ (by kernel_rfl)) ?_
      go_frame
      refine y_yield 7 (some 29) (.int .i64 (L : Int)) rfl (by kernel_rfl) (by kernel_rfl) (by kernel_rfl) (fun _ _ _ h => h) rfl rfl ⟨hB, h0⟩ (fun w' h' => exec_load_one 2 _ rfl b (off + k * 3) rfl (.int .i64 (L : Int)) _ Try.underlying2 rfl (RdK.cells_3 (hs.keep h'.1) hlt Hq.out 0 (by omega))) ?_
      go_frame
      refine y_yield 8 (some 30) (.pointer (some ⟨g5, L * 1, none⟩)) rfl (by kernel_rfl) (by kernel_rfl) (by kernel_rfl) (fun _ _ _ h => h) rfl rfl ⟨hB, h0⟩ (fun w' h' => exec_ix0 _ 2 _ _ rfl g5 ((depsL N ss k).length) c5 L 1 rfl rfl Try.underlying46 (by kernel_rfl) (by rw [depsL_len]; omega)) ?_
      go_frame
      refine y_yield3 9 (some 31) (.int .i64 (getI (depsL N ss k) L)) rfl 24 (by kernel_rfl) (by kernel_rfl) (by kernel_rfl) (by kernel_rfl) (by kernel_rfl) (fun _ _ _ h => h) rfl rfl ⟨hB, h0⟩ ho5 (fun w' h' h2' => exec_load_one 2 _ rfl g5 (L * 1) rfl (.int .i64 (getI (depsL N ss k) L)) _ Try.underlying2 rfl (by rw [Nat.mul_one]; exact OwnI.cell h2' (by rw [depsL_len]; omega))) ?_
      go_frame
      refine y_yield 10 (some 32) (.slice (some ⟨g5, 0, none⟩) (depsL N ss k).length c5) rfl (by kernel_rfl) (by kernel_rfl) (by kernel_rfl) (fun _ _ _ h => h) rfl rfl ⟨hB, h0⟩ (fun w' h' => exec_move _ rfl (.slice (some ⟨g5, 0, none⟩) (depsL N ss k).length c5) rfl) ?_
      go_frame
      refine y_yield 11 (some 33) (.pointer (some ⟨w.heap.size, 2, none⟩)) rfl (by kernel_rfl) (by kernel_rfl) (by kernel_rfl) (fun _ _ _ h => h) rfl rfl ⟨hB, h0⟩ (fun w' h' => exec_fieldAddr 36 _ 2 rfl _ (by kernel_rfl)) ?_
      go_frame
      refine y_yield 12 (some 34) (.slice (some ⟨b, off, none⟩) ss.length cs) rfl (by kernel_rfl) (by kernel_rfl) (by kernel_rfl) (fun _ _ _ h => h) rfl rfl ⟨hB, h0⟩ (fun w' h' => exec_load_one 33 _ rfl w.heap.size 2 rfl (.slice (some ⟨b, off, none⟩) ss.length cs) _ Try.underlying33 rfl (h'.2.at_ 2)) ?_
      go_frame
      refine y_yield 13 (some 35) (.int .i64 k) rfl (by kernel_rfl) (by kernel_rfl) (by kernel_rfl) (fun _ _ _ h => h) rfl rfl ⟨hB, h0⟩ (fun w' h' => exec_move _ rfl (.int .i64 k) rfl) ?_
      go_frame
      refine y_yield 14 (some 36) (.pointer (some ⟨b, off + k * 3, none⟩)) rfl (by kernel_rfl) (by kernel_rfl) (by kernel_rfl) (fun _ _ _ h => h) rfl rfl ⟨hB, h0⟩ (fun w' h' => exec_index_slice _ 57 _ _ rfl b off ss.length cs k 3 rfl rfl Try.underlying33 (by kernel_rfl) (by omega)) ?_
      go_frame
      refine y_yield 15 (some 37) (.pointer (some ⟨b, off + k * 3 + 1, none⟩)) rfl (by kernel_rfl) (by kernel_rfl) (by kernel_rfl) (fun _ _ _ h => h) rfl rfl ⟨hB, h0⟩ (fun w' h' => exec_fieldAddr 57 _ 1 rfl _ (by kernel_rfl)) ?_
      go_frame
      refine y_yield 16 (some 38) (.int .i64 (R : Int)) rfl (by kernel_rfl) (by kernel_rfl) (by kernel_rfl) (fun _ _ _ h => h) rfl rfl ⟨hB, h0⟩ (fun w' h' => exec_load_one 2 _ rfl b (off + k * 3 + 1) rfl (.int .i64 (R : Int)) _ Try.underlying2 rfl (RdK.cells_3 (hs.keep h'.1) hlt Hq.out 1 (by omega))) ?_
      go_frame
      refine y_yield 17 (some 39) (.pointer (some ⟨g5, R * 1, none⟩)) rfl (by kernel_rfl) (by kernel_rfl) (by kernel_rfl) (fun _ _ _ h => h) rfl rfl ⟨hB, h0⟩ (fun w' h' => exec_ix0 _ 2 _ _ rfl g5 ((depsL N ss k).length) c5 R 1 rfl rfl Try.underlying46 (by kernel_rfl) (by rw [depsL_len]; omega)) ?_
      go_frame
      refine y_yield3 18 (some 40) (.int .i64 (getI (depsL N ss k) R)) rfl 24 (by kernel_rfl) (by kernel_rfl) (by kernel_rfl) (by kernel_rfl) (by kernel_rfl) (fun _ _ _ h => h) rfl rfl ⟨hB, h0⟩ ho5 (fun w' h' h2' => exec_load_one 2 _ rfl g5 (R * 1) rfl (.int .i64 (getI (depsL N ss k) R)) _ Try.underlying2 rfl (by rw [Nat.mul_one]; exact OwnI.cell h2' (by rw [depsL_len]; omega))) ?_
      go_frame
      refine y_yield 19 (some 41) (.int .i64 mx) rfl (by kernel_rfl) (by kernel_rfl) (by kernel_rfl) (fun _ _ _ h => h) rfl rfl ⟨hB, h0⟩ (fun w' h' => pg_max2 _ _ _ rfl (getI (depsL N ss k) L) (getI (depsL N ss k) R) rfl rfl mx HMx.out) ?_
      go_frame
      refine y_yield 20 (some 42) (.int .i64 (1 + mx)) rfl (by kernel_rfl) (by kernel_rfl) (by kernel_rfl) (fun _ _ _ h => h) rfl rfl ⟨hB, h0⟩ (fun w' h' => exec_add _ _ _ _ rfl 1 mx (1 + mx) rfl rfl (IntWalk.i64_in _ (by omega))) ?_
      go_frame
      refine y_oper 21 (by kernel_rfl) rfl rfl (fun K' hK' => ?_)
      have lz21 := hB.size
      have lz22 := h0.lt
      have lz23 : g5 < wdz20.heap.size := (ho5.lt rfl).2
      have lz24 : Wz6.heap.size ≤ g5 := (ho5.lt rfl).1
      have naz29 := ho5.away_new
      refine wp_new (some 43) rfl (exec_bsi1 _ rfl ((1 + mx)) rfl) (fun Wz25 nnz26 => ?_)
      have bz27 := nnz26.below (Below.refl _ _) (Nat.le_refl _)
      replace hB := below_after hB bz27
      replace h0 := h0.after bz27
      replace ho5 := ho5.below bz27
      have hz28 : At Wz25 wdz20.heap.size (.cells #[.int .i64 (1 + mx)] 2 (0, 0)) := nnz26.at_
      refine hK' _ _ ⟨hB, h0⟩ (fun _ => ho5) ?_
      clear hK' K' nnz26 bz27
      go_frame
      refine y_oper 22 (by kernel_rfl) rfl rfl (fun K' hK' => ?_)
      have lz33 := hB.size
      have lz34 := h0.lt
      have lz35 : g5 < Wz25.heap.size := (ho5.lt rfl).2
      have lz36 : Wz6.heap.size ≤ g5 := (ho5.lt rfl).1
      have lz37 := hz28.lt
      refine wp_appI (some 44) rfl _ _ rfl (.slice (some ⟨g5, 0, none⟩) (depsL N ss k).length c5) (depsL N ss k) (1 + mx) rfl ho5 wdz20.heap.size rfl hz28 (by rw [depsL_len]; omega) (by omega) (fun v6 Wz30 noz32 grz31 => ?_)
      replace hB := below_grownI hB grz31 ho5 (by omega)
      replace h0 := h0.grown grz31 (OwnI.ne_lt2 ho5 (by omega))
      replace ho5 := noz32
      refine hK' _ _ ⟨hB, h0⟩ (fun h => absurd (by decide) h) ?_
      clear hK' K' grz31
      go_frame
      refine y_oper 23 (by kernel_rfl) rfl rfl (fun K' hK' => ?_)
      refine wp_exec (some 4) rfl (v6) (exec_assign _ rfl (v6) rfl) ?_
      refine hK' _ _ ⟨hB, h0⟩ (fun h => absurd (by decide) h) ?_
      clear hK' K'
      go_frame
      refine y_done (by kernel_rfl) ?_ _
      go_upto_region 6 with (fail)
      refine wp_region_lit ?_
      refine ls_ex (some 20) (.int .i64 k) rfl rfl (exec_move _ rfl (.int .i64 k) rfl) ?_
      go_frame
      refine ls_ex (some 21) (.int .i64 (k + 1)) rfl rfl (exec_add _ _ _ _ rfl k 1 (k + 1) rfl rfl (IntWalk.i64_in _ (by omega))) ?_
      go_frame
      refine ls_ex (some 6) (.int .i64 (k + 1)) rfl rfl (exec_assign _ rfl (.int .i64 (k + 1)) rfl) ?_
      go_frame
      refine wpList_nil ?_
      go_wp2_with fail
      go_roundw
      case rel => exact ⟨k + 1, _, by omega, by go_num, rfl, hB, h0, by rw [HS.out]; exact ho5⟩
      case measure => simp [intOf]; omega
    · have ho7 : OwnI wr Wz6.heap.size v5 (depsL N ss ss.length) := by rw [← show k = ss.length by omega]; exact ho5
      clear ho5
      obtain ⟨g5, c5, rfl, hg5, hg5b⟩ := ho7.form (by rw [depsL_len]; omega)
      go_upto_region 5 with (fail)
      refine wp_region_lit ?_
      refine ls_ex (some 15) (.int .i64 k) rfl rfl (exec_move _ rfl (.int .i64 k) rfl) ?_
      go_frame
      refine ls_ex (some 16) (.pointer (some ⟨w.heap.size, 2, none⟩)) rfl rfl (exec_fieldAddr 36 _ 2 rfl _ (by kernel_rfl)) ?_
      go_frame
      refine ls_ex (some 17) (.slice As ss.length cs) rfl rfl (exec_load_one 33 _ rfl w.heap.size 2 rfl (.slice As ss.length cs) _ Try.underlying33 rfl (h0.at_ 2)) ?_
      go_frame
      refine ls_ex (some 18) (.int .i64 ss.length) rfl rfl (exec_len _ 33 57 rfl As ss.length cs rfl Try.underlying33) ?_
      go_frame
      refine ls_ex (some 19) (.bool false) rfl rfl (exec_lss _ _ _ _ rfl k ss.length rfl rfl false (decide_eq_false (by omega))) ?_
      go_frame
      refine wpList_nil ?_
      go_upto_region 8 with (fail)
      refine wp_region_lit ?_
      refine ls_ex (some 7) (.int .i64 0) rfl rfl (exec_assign _ rfl (.int .i64 0) rfl) ?_
      go_frame
      refine wpList_nil ?_
      go_wp2_with fail
      have hlb := h0.lt
      obtain ⟨we, rfl⟩ : ∃ x : World, x = wr := ⟨_, rfl⟩
      go_loopw [7, 5] (fun s7 s5 wr => ∃ (j : Nat) (v6 : Value), j ≤ os.length ∧ s7 = .int .i64 j ∧ v6 = s5 ∧ Below w.heap.size w wr ∧ At wr w.heap.size (.cells #[.int .i64 p, .int .i64 (N : Int), .slice As ss.length cs, .slice Ao os.length co] 36 (0, 0)) ∧ OwnI wr Wz6.heap.size (.slice (some ⟨g5, 0, none⟩) (depsL N ss ss.length).length c5) (depsL N ss ss.length) ∧ OwnE wr we.heap.size v6 (doutL os (depsL N ss ss.length) j) ∧ we.heap.size ≤ wr.heap.size) (fun s7 _ _ => os.length - (intOf s7).toNat)
      case atStart => exact ⟨0, _, by omega, rfl, rfl, hB, h0, ho7, OwnE.start _ _ _, Nat.le_refl _⟩
      case round =>
        clear hB h0 ho7
        obtain ⟨j, v6, hj, rfl, rfl, hB, h0, ho7, ho6, hz⟩ := hrel
        by_cases hlt : j < os.length
        · obtain ⟨b, off, rfl, hc⟩ := (ho.keep hB).at_ hlt
          clear hc
          obtain ⟨V, f, hq, hVl, hf1, hf2, hf0⟩ := HOt.out j hlt
          have Hq := Lib.hid hq
          by_cases hz0 : f = 0
          · have HZ : Hid ((f == 0) = true) := Lib.hid (by simpa using hz0)
            have HS : Hid ((doutL os (depsL N ss ss.length) (j + 1)) = (doutL os (depsL N ss ss.length) j) ++ [0]) := Lib.hid (by rw [doutL_step _ hlt, hq, hf0 hz0]; simp only [doV]; rw [show (k0 [((0 : Nat) : Int), f]).toNat = 0 from rfl, depsL_zero (by omega)])
            clear hq hz0 hf0
            go_upto_region 9 with (fail)
            refine wp_region_lit ?_
            refine ls_ex (some 45) (.int .i64 j) rfl rfl (exec_move _ rfl (.int .i64 j) rfl) ?_
            go_frame
            refine ls_ex (some 46) (.pointer (some ⟨w.heap.size, 3, none⟩)) rfl rfl (exec_fieldAddr 36 _ 3 rfl _ (by kernel_rfl)) ?_
            go_frame
            refine ls_ex (some 47) (.slice (some ⟨b, off, none⟩) os.length co) rfl rfl (exec_load_one 34 _ rfl w.heap.size 3 rfl (.slice (some ⟨b, off, none⟩) os.length co) _ Try.underlying34 rfl (h0.at_ 3)) ?_
            go_frame
            refine ls_ex (some 48) (.int .i64 os.length) rfl rfl (exec_len _ 34 61 rfl ((some ⟨b, off, none⟩)) os.length co rfl Try.underlying34) ?_
            go_frame
            refine ls_ex (some 49) (.bool true) rfl rfl (exec_lss _ _ _ _ rfl j os.length rfl rfl true (decide_eq_true (by omega))) ?_
            go_frame
            refine wpList_nil ?_
            go_upto_region 11 with (fail)
            refine wp_region_lit ?_
            refine ls_ex (some 52) (.pointer (some ⟨w.heap.size, 3, none⟩)) rfl rfl (exec_fieldAddr 36 _ 3 rfl _ (by kernel_rfl)) ?_
            go_frame
            refine ls_ex (some 53) (.slice (some ⟨b, off, none⟩) os.length co) rfl rfl (exec_load_one 34 _ rfl w.heap.size 3 rfl (.slice (some ⟨b, off, none⟩) os.length co) _ Try.underlying34 rfl (h0.at_ 3)) ?_
            go_frame
            refine ls_ex (some 54) (.int .i64 j) rfl rfl (exec_move _ rfl (.int .i64 j) rfl) ?_
            go_frame
            refine ls_ex (some 55) (.pointer (some ⟨b, off + j * 2, none⟩)) rfl rfl (exec_index_slice _ 61 _ _ rfl b off os.length co j 2 rfl rfl Try.underlying34 (by kernel_rfl) (by omega)) ?_
            go_frame
            refine ls_ex (some 56) (.pointer (some ⟨b, off + j * 2 + 1, none⟩)) rfl rfl (exec_fieldAddr 61 _ 1 rfl _ (by kernel_rfl)) ?_
            go_frame
            refine ls_ex (some 57) (.int .i64 f) rfl rfl (exec_load_one 2 _ rfl b (off + j * 2 + 1) rfl (.int .i64 f) _ Try.underlying2 rfl (RdK.cells_2 (ho.keep hB) hlt Hq.out 1 (by omega))) ?_
            go_frame
            refine ls_ex (some 58) (.bool true) rfl rfl (exec_eql _ _ _ _ rfl f 0 rfl rfl true HZ.out) ?_
            go_frame
            refine wpList_nil ?_
            go_upto_region 12 with (fail)
            refine wp_region_lit ?_
            refine ls_ex (some 59) (v6) rfl rfl (exec_move _ rfl (v6) rfl) ?_
            go_frame
            refine ls_op rfl (fun K' hK' => ?_)
            have lz38 := hB.size
            have lz39 := h0.lt
            have naz44 := ho7.away_new
            refine wp_new (some 60) rfl (exec_bsi1 _ rfl 0 rfl) (fun Wz40 nnz41 => ?_)
            have bz42 := nnz41.below (Below.refl _ _) (Nat.le_refl _)
            replace hB := below_after hB bz42
            replace h0 := h0.after bz42
            replace ho7 := ho7.below bz42
            replace ho6 := ho6.keep bz42
            replace hz := size_after hz bz42
            have hz43 : At Wz40 wr.heap.size (.cells #[.int .i64 0] 2 (0, 0)) := nnz41.at_
            refine hK' _ _ ?_
            clear hK' K' nnz41 bz42
            go_frame
            refine ls_op rfl (fun K' hK' => ?_)
            have lz48 := hB.size
            have lz49 := h0.lt
            have lz50 := hz43.lt
            refine wp_appE (some 61) rfl _ _ rfl v6 (doutL os (depsL N ss ss.length) j) (0) rfl ho6 wr.heap.size rfl hz43 (by rw [doutL_len]; omega) (by omega) (fun v8 Wz45 noz47 b2z46 => ?_)
            replace hB := hB.trans (below_mono b2z46 (by omega))
            replace h0 := h0.keep b2z46 (by omega)
            replace ho7 := OwnI.keepB ho7 (fun g hg => by simp only [Value.ownBlock, Option.some.injEq] at hg; omega) b2z46
            replace ho6 := noz47
            replace hz := Nat.le_trans hz b2z46.size
            refine hK' _ _ ?_
            clear hK' K' b2z46
            go_frame
            refine ls_ex (some 5) (v8) rfl rfl (exec_assign _ rfl (v8) rfl) ?_
            go_frame
            refine wpList_nil ?_
            go_upto_region 10 with (fail)
            refine wp_region_lit ?_
            refine ls_ex (some 50) (.int .i64 j) rfl rfl (exec_move _ rfl (.int .i64 j) rfl) ?_
            go_frame
            refine ls_ex (some 51) (.int .i64 (j + 1)) rfl rfl (exec_add _ _ _ _ rfl j 1 (j + 1) rfl rfl (IntWalk.i64_in _ (by omega))) ?_
            go_frame
            refine ls_ex (some 7) (.int .i64 (j + 1)) rfl rfl (exec_assign _ rfl (.int .i64 (j + 1)) rfl) ?_
            go_frame
            refine wpList_nil ?_
            go_wp2_with fail
            go_roundw
            case rel => exact ⟨j + 1, _, by omega, by go_num, rfl, hB, h0, ho7, by rw [HS.out]; exact ho6, hz⟩
            case measure => simp [intOf]; omega
          · have HZ : Hid ((f == 0) = false) := Lib.hid (by simpa using hz0)
            have HS : Hid ((doutL os (depsL N ss ss.length) (j + 1)) = (doutL os (depsL N ss ss.length) j) ++ [getI (depsL N ss ss.length) V]) := Lib.hid (by rw [doutL_step _ hlt, hq]; rfl)
            clear hq hz0 hf0
            go_upto_region 9 with (fail)
            refine wp_region_lit ?_
            refine ls_ex (some 45) (.int .i64 j) rfl rfl (exec_move _ rfl (.int .i64 j) rfl) ?_
            go_frame
            refine ls_ex (some 46) (.pointer (some ⟨w.heap.size, 3, none⟩)) rfl rfl (exec_fieldAddr 36 _ 3 rfl _ (by kernel_rfl)) ?_
            go_frame
            refine ls_ex (some 47) (.slice (some ⟨b, off, none⟩) os.length co) rfl rfl (exec_load_one 34 _ rfl w.heap.size 3 rfl (.slice (some ⟨b, off, none⟩) os.length co) _ Try.underlying34 rfl (h0.at_ 3)) ?_
            go_frame
            refine ls_ex (some 48) (.int .i64 os.length) rfl rfl (exec_len _ 34 61 rfl ((some ⟨b, off, none⟩)) os.length co rfl Try.underlying34) ?_
            go_frame
            refine ls_ex (some 49) (.bool true) rfl rfl (exec_lss _ _ _ _ rfl j os.length rfl rfl true (decide_eq_true (by omega))) ?_
            go_frame
            refine wpList_nil ?_
            go_upto_region 11 with (fail)
            refine wp_region_lit ?_
            refine ls_ex (some 52) (.pointer (some ⟨w.heap.size, 3, none⟩)) rfl rfl (exec_fieldAddr 36 _ 3 rfl _ (by kernel_rfl)) ?_
            go_frame
            refine ls_ex (some 53) (.slice (some ⟨b, off, none⟩) os.length co) rfl rfl (exec_load_one 34 _ rfl w.heap.size 3 rfl (.slice (some ⟨b, off, none⟩) os.length co) _ Try.underlying34 rfl (h0.at_ 3)) ?_
            go_frame
            refine ls_ex (some 54) (.int .i64 j) rfl rfl (exec_move _ rfl (.int .i64 j) rfl) ?_
            go_frame
            refine ls_ex (some 55) (.pointer (some ⟨b, off + j * 2, none⟩)) rfl rfl (exec_index_slice _ 61 _ _ rfl b off os.length co j 2 rfl rfl Try.underlying34 (by kernel_rfl) (by omega)) ?_
            go_frame
            refine ls_ex (some 56) (.pointer (some ⟨b, off + j * 2 + 1, none⟩)) rfl rfl (exec_fieldAddr 61 _ 1 rfl _ (by kernel_rfl)) ?_
            go_frame
            refine ls_ex (some 57) (.int .i64 f) rfl rfl (exec_load_one 2 _ rfl b (off + j * 2 + 1) rfl (.int .i64 f) _ Try.underlying2 rfl (RdK.cells_2 (ho.keep hB) hlt Hq.out 1 (by omega))) ?_
            go_frame
            refine ls_ex (some 58) (.bool false) rfl rfl (exec_eql _ _ _ _ rfl f 0 rfl rfl false HZ.out) ?_
            go_frame
            refine wpList_nil ?_
            go_upto_region 13 with (fail)
            refine wp_region_lit ?_
            refine ls_ex (some 62) (v6) rfl rfl (exec_move _ rfl (v6) rfl) ?_
            go_frame
            refine ls_ex (some 63) (.slice (some ⟨g5, 0, none⟩) (depsL N ss ss.length).length c5) rfl rfl (exec_move _ rfl (.slice (some ⟨g5, 0, none⟩) (depsL N ss ss.length).length c5) rfl) ?_
            go_frame
            refine ls_ex (some 64) (.pointer (some ⟨w.heap.size, 3, none⟩)) rfl rfl (exec_fieldAddr 36 _ 3 rfl _ (by kernel_rfl)) ?_
            go_frame
            refine ls_ex (some 65) (.slice (some ⟨b, off, none⟩) os.length co) rfl rfl (exec_load_one 34 _ rfl w.heap.size 3 rfl (.slice (some ⟨b, off, none⟩) os.length co) _ Try.underlying34 rfl (h0.at_ 3)) ?_
            go_frame
            refine ls_ex (some 66) (.int .i64 j) rfl rfl (exec_move _ rfl (.int .i64 j) rfl) ?_
            go_frame
            refine ls_ex (some 67) (.pointer (some ⟨b, off + j * 2, none⟩)) rfl rfl (exec_index_slice _ 61 _ _ rfl b off os.length co j 2 rfl rfl Try.underlying34 (by kernel_rfl) (by omega)) ?_
            go_frame
            refine ls_ex (some 68) (.pointer (some ⟨b, off + j * 2, none⟩)) rfl rfl (exec_fieldAddr 61 _ 0 rfl _ (by kernel_rfl)) ?_
            go_frame
            refine ls_ex (some 69) (.int .i64 (V : Int)) rfl rfl (exec_load_one 2 _ rfl b (off + j * 2) rfl (.int .i64 (V : Int)) _ Try.underlying2 rfl (RdK.cells_2 (ho.keep hB) hlt Hq.out 0 (by omega))) ?_
            go_frame
            refine ls_ex (some 70) (.pointer (some ⟨g5, V * 1, none⟩)) rfl rfl (exec_ix0 _ 2 _ _ rfl g5 ((depsL N ss ss.length).length) c5 V 1 rfl rfl Try.underlying46 (by kernel_rfl) (by rw [depsL_len]; omega)) ?_
            go_frame
            refine ls_ex (some 71) (.int .i64 (getI (depsL N ss ss.length) V)) rfl rfl (exec_load_one 2 _ rfl g5 (V * 1) rfl (.int .i64 (getI (depsL N ss ss.length) V)) _ Try.underlying2 rfl (by rw [Nat.mul_one]; exact OwnI.cell ho7 (by rw [depsL_len]; omega))) ?_
            go_frame
            refine ls_op rfl (fun K' hK' => ?_)
            have lz51 := hB.size
            have lz52 := h0.lt
            have naz57 := ho7.away_new
            refine wp_new (some 72) rfl (exec_bsi1 _ rfl ((getI (depsL N ss ss.length) V)) rfl) (fun Wz53 nnz54 => ?_)
            have bz55 := nnz54.below (Below.refl _ _) (Nat.le_refl _)
            replace hB := below_after hB bz55
            replace h0 := h0.after bz55
            replace ho7 := ho7.below bz55
            replace ho6 := ho6.keep bz55
            replace hz := size_after hz bz55
            have hz56 : At Wz53 wr.heap.size (.cells #[.int .i64 (getI (depsL N ss ss.length) V)] 2 (0, 0)) := nnz54.at_
            refine hK' _ _ ?_
            clear hK' K' nnz54 bz55
            go_frame
            refine ls_op rfl (fun K' hK' => ?_)
            have lz61 := hB.size
            have lz62 := h0.lt
            have lz63 := hz56.lt
            refine wp_appE (some 73) rfl _ _ rfl v6 (doutL os (depsL N ss ss.length) j) (getI (depsL N ss ss.length) V) rfl ho6 wr.heap.size rfl hz56 (by rw [doutL_len]; omega) (by omega) (fun v8 Wz58 noz60 b2z59 => ?_)
            replace hB := hB.trans (below_mono b2z59 (by omega))
            replace h0 := h0.keep b2z59 (by omega)
            replace ho7 := OwnI.keepB ho7 (fun g hg => by simp only [Value.ownBlock, Option.some.injEq] at hg; omega) b2z59
            replace ho6 := noz60
            replace hz := Nat.le_trans hz b2z59.size
            refine hK' _ _ ?_
            clear hK' K' b2z59
            go_frame
            refine ls_ex (some 5) (v8) rfl rfl (exec_assign _ rfl (v8) rfl) ?_
            go_frame
            refine wpList_nil ?_
            go_upto_region 10 with (fail)
            refine wp_region_lit ?_
            refine ls_ex (some 50) (.int .i64 j) rfl rfl (exec_move _ rfl (.int .i64 j) rfl) ?_
            go_frame
            refine ls_ex (some 51) (.int .i64 (j + 1)) rfl rfl (exec_add _ _ _ _ rfl j 1 (j + 1) rfl rfl (IntWalk.i64_in _ (by omega))) ?_
            go_frame
            refine ls_ex (some 7) (.int .i64 (j + 1)) rfl rfl (exec_assign _ rfl (.int .i64 (j + 1)) rfl) ?_
            go_frame
            refine wpList_nil ?_
            go_wp2_with fail
            go_roundw
            case rel => exact ⟨j + 1, _, by omega, by go_num, rfl, hB, h0, ho7, by rw [HS.out]; exact ho6, hz⟩
            case measure => simp [intOf]; omega
        · have ho8 : OwnE wr we.heap.size v6 (doutL os (depsL N ss ss.length) os.length) := by have h9 := ho6; rwa [show j = os.length by omega] at h9
          clear ho6
          go_upto_region 9 with (fail)
          refine wp_region_lit ?_
          refine ls_ex (some 45) (.int .i64 j) rfl rfl (exec_move _ rfl (.int .i64 j) rfl) ?_
          go_frame
          refine ls_ex (some 46) (.pointer (some ⟨w.heap.size, 3, none⟩)) rfl rfl (exec_fieldAddr 36 _ 3 rfl _ (by kernel_rfl)) ?_
          go_frame
          refine ls_ex (some 47) (.slice Ao os.length co) rfl rfl (exec_load_one 34 _ rfl w.heap.size 3 rfl (.slice Ao os.length co) _ Try.underlying34 rfl (h0.at_ 3)) ?_
          go_frame
          refine ls_ex (some 48) (.int .i64 os.length) rfl rfl (exec_len _ 34 61 rfl Ao os.length co rfl Try.underlying34) ?_
          go_frame
          refine ls_ex (some 49) (.bool false) rfl rfl (exec_lss _ _ _ _ rfl j os.length rfl rfl false (decide_eq_false (by omega))) ?_
          go_frame
          refine wpList_nil ?_
          go_upto_region 14 with (fail)
          refine wp_region_lit ?_
          refine ls_ex (some 74) (v6) rfl rfl (exec_move _ rfl (v6) rfl) ?_
          go_frame
          refine ls_ex (some 2) (v6) rfl rfl (exec_assign _ rfl (v6) rfl) ?_
          go_frame
          refine ls_ex (some 3) (.int .i64 0) rfl rfl (exec_assign _ rfl (.int .i64 0) rfl) ?_
          go_frame
          refine wpList_nil ?_
          go_wp2_with fail
          go_ret2
          exact ⟨_, by rw [Hc.out]; rfl, by rw [Hr.out]; exact (ho8.own (by rw [doutL_len]; omega)).mono (by omega), hB⟩
set_option maxHeartbeats 25600000 in
theorem implDepths_b (p : Int) (N : Nat) (As Ao : Option Addr) (cs co : Nat) (ss os : List (List Int)) (w : World) (hs : RdK 3 w As ss) (ho : RdK 2 w Ao os) (hns : ss.length ≤ 1048576) (hno : os.length ≤ 1048576) (hpr : progB p (N : Int) ss os = true) :
    Calls Try.prog 24 #[.agg #[.int .i64 p, .int .i64 (N : Int), .slice As ss.length cs, .slice Ao os.length co]] w (ResI w (dpL p (N : Int) ss os) (dpCode p (N : Int) ss os)) := by
  have hB := Below.refl w.heap.size w
  have hpp := progB_parts hpr
  have hn9 := hpp.2.1
  have hN9 : N ≤ 30 := by omega
  have hl9 := hpp.2.2.1
  have ho9 := hpp.2.2.2.1
  have Hc : Hid (dpCode p (N : Int) ss os = 0) := Lib.hid (by unfold dpCode; rw [hpr]; rfl)
  have Hr : Hid (dpL p (N : Int) ss os = doutL os (depsL N ss ss.length) os.length) := Lib.hid (by unfold dpL; rw [hpr]; rfl)
  have HSt := Lib.hid (fun k (hk : k < ss.length) => stp_at hs.good hpr hk)
  have HOt := Lib.hid (fun j (hj : j < os.length) => otp_at ho.good hpr hj)
  have HP := Lib.hid hpr
  obtain ⟨M, hM1, hM2⟩ : ∃ M, N + ss.length ≤ M ∧ M ≤ N + ss.length := ⟨_, Nat.le_refl _, Nat.le_refl _⟩
  have HSt2 : Hid (∀ k (hk : k < ss.length), ∃ (L R : Nat) (f : Int), ss[k] = [(L : Int), (R : Int), f] ∧ L < N + k ∧ R < N + k ∧ L ≠ R) := Lib.hid (fun k hk => by obtain ⟨L, R, f, hq, h1, h2, h3, _⟩ := HSt.out k hk; exact ⟨L, R, f, hq, by omega, by omega, h3⟩)
  clear hpr hpp
  go_enter Try.func24, Try.ntmps24
  go_upto_region 0 with (fail)
  refine wp_region_lit ?_
  refine ls_op rfl (fun K' hK' => ?_)
  have lz1 := hB.size
  refine wp_new (some 1) rfl (exec_box 36 _ rfl (#[.int .i64 p, .int .i64 (N : Int), .slice As ss.length cs, .slice Ao os.length co]) rfl) (fun Wz2 nnz3 => ?_)
  have bz4 := nnz3.below (Below.refl _ _) (Nat.le_refl _)
  replace hB := below_after hB bz4
  have hz5 : At Wz2 w.heap.size (.cells #[.int .i64 p, .int .i64 (N : Int), .slice As ss.length cs, .slice Ao os.length co] 36 (0, 0)) := nnz3.at_
  refine hK' _ _ ?_
  clear hK' K' nnz3 bz4
  go_frame
  refine ls_ex (some 2) (.slice none 0 0) rfl rfl (exec_assign _ rfl (.slice none 0 0) rfl) ?_
  go_frame
  refine ls_ex (some 3) (.int .i64 0) rfl rfl (exec_assign _ rfl (.int .i64 0) rfl) ?_
  go_frame
  refine wpList_nil ?_
  go_upto_region 1 with (fail)
  refine wp_region_lit ?_
  refine ls_ex (some 8) (.agg #[.int .i64 p, .int .i64 (N : Int), .slice As ss.length cs, .slice Ao os.length co]) rfl rfl (exec_load_all 36 _ rfl w.heap.size rfl _ _ _ hz5 Try.underlying36 rfl 4 (by kernel_rfl) rfl) ?_
  go_frame
  refine ls_op rfl (fun K' hK' => ?_)
  have lz8 := hB.size
  have lz9 := hz5.lt
  refine wp_call1 (some 9) rfl 15 _ _ rfl (fun args w => by kernel_rfl) _ rfl _ (implIsProgram_c p (N : Int) As Ao cs co ss os _ (hs.keep hB) (ho.keep hB) hns hno) (fun e Wz6 h => ?_)
  obtain ⟨rfl, bz7⟩ := h
  replace hB := below_after hB bz7
  replace hz5 := hz5.after bz7
  rw [HP.out]
  clear bz7
  refine ⟨_, rfl, ?_⟩
  refine hK' _ _ ?_
  clear hK' K'
  go_frame
  refine ls_ex (some 10) (.bool false) rfl rfl (exec_not _ _ rfl true rfl) ?_
  go_frame
  refine wpList_nil ?_
  go_upto_region 3 with (fail)
  refine wp_region_lit ?_
  refine ls_ex (some 11) (.agg #[.int .i64 p, .int .i64 (N : Int), .slice As ss.length cs, .slice Ao os.length co]) rfl rfl (exec_load_all 36 _ rfl w.heap.size rfl _ _ _ hz5 Try.underlying36 rfl 4 (by kernel_rfl) rfl) ?_
  go_frame
  refine ls_op rfl (fun K' hK' => ?_)
  have lz12 := hB.size
  have lz13 := hz5.lt
  refine wp_call1 (some 12) rfl 50 _ _ rfl (fun args w => by kernel_rfl) _ rfl _ (nodesOf_c p N M As Ao cs co ss os _ (hs.keep hB) hM1 hM2 hN9 hl9 HSt2.out) (fun e Wz10 h => ?_)
  obtain ⟨g5, rfl, hg5, hN2, bz11⟩ := h
  replace hB := below_after hB bz11
  replace hz5 := hz5.after bz11
  clear bz11
  refine ⟨_, rfl, ?_⟩
  refine hK' _ _ ?_
  clear hK' K'
  go_frame
  refine ls_ex (some 4) (.slice (some ⟨g5, 0, none⟩) M M) rfl rfl (exec_assign _ rfl (.slice (some ⟨g5, 0, none⟩) M M) rfl) ?_
  go_frame
  refine wpList_nil ?_
  go_upto_region 4 with (fail)
  refine wp_region_lit ?_
  refine ls_ex (some 13) (.pointer (some ⟨w.heap.size, 3, none⟩)) rfl rfl (exec_fieldAddr 36 _ 3 rfl _ (by kernel_rfl)) ?_
  go_frame
  refine ls_ex (some 14) (.slice Ao os.length co) rfl rfl (exec_load_one 34 _ rfl w.heap.size 3 rfl (.slice Ao os.length co) _ Try.underlying34 rfl (hz5.at_ 3)) ?_
  go_frame
  refine ls_ex (some 15) (.int .i64 os.length) rfl rfl (exec_len _ 34 61 rfl Ao os.length co rfl Try.underlying34) ?_
  go_frame
  refine ls_op rfl (fun K' hK' => ?_)
  have lz14 := hB.size
  have lz15 := hz5.lt
  have lz16 := hN2.lt
  refine wp_make_I (some 16) rfl _ _ rfl os.length rfl rfl (by omega) (fun Wz17 nnz18 => ?_)
  have bz19 := nnz18.below (Below.refl _ _) (Nat.le_refl _)
  replace hB := below_after hB bz19
  replace hz5 := hz5.after bz19
  replace hN2 := hN2.after bz19
  have hO : At Wz17 Wz10.heap.size (.cells (iar (List.replicate os.length 0)) 2 (0, 0)) := nnz18.at_
  refine hK' _ _ ?_
  clear hK' K' nnz18 bz19
  go_frame
  refine ls_ex (some 5) (.slice (some ⟨Wz10.heap.size, 0, none⟩) os.length os.length) rfl rfl (exec_assign _ rfl (.slice (some ⟨Wz10.heap.size, 0, none⟩) os.length os.length) rfl) ?_
  go_frame
  refine wpList_nil ?_
  go_upto_region 5 with (fail)
  refine wp_region_lit ?_
  refine ls_ex (some 17) (.pointer (some ⟨w.heap.size, 3, none⟩)) rfl rfl (exec_fieldAddr 36 _ 3 rfl _ (by kernel_rfl)) ?_
  go_frame
  refine ls_ex (some 18) (.slice Ao os.length co) rfl rfl (exec_load_one 34 _ rfl w.heap.size 3 rfl (.slice Ao os.length co) _ Try.underlying34 rfl (hz5.at_ 3)) ?_
  go_frame
  refine ls_ex (some 19) (.int .i64 os.length) rfl rfl (exec_len _ 34 61 rfl Ao os.length co rfl Try.underlying34) ?_
  go_frame
  refine ls_ex (some 20) (.int .i64 0) rfl rfl (exec_move _ rfl (.int .i64 0) rfl) ?_
  go_frame
  refine wpList_nil ?_
  go_wp2_with fail
  have hlo := hO.lt
  have hl5 := hN2.lt
  go_loopw [20] (fun s20 wr => ∃ j : Nat, j ≤ os.length ∧ s20 = .int .i64 j ∧ Below w.heap.size w wr ∧ At wr w.heap.size (.cells #[.int .i64 p, .int .i64 (N : Int), .slice As ss.length cs, .slice Ao os.length co] 36 (0, 0)) ∧ At wr g5 (.cells (ndArr g5 M (ndOf N ss ss.length)) 77 (0, 0)) ∧ At wr Wz10.heap.size (.cells (iar ((doutL os (depsL N ss ss.length) j) ++ List.replicate (os.length - j) 0)) 2 (0, 0))) (fun s20 _ => os.length - (intOf s20).toNat)
  case atStart => exact ⟨0, by omega, rfl, hB, hz5, hN2, by have h9 := hO; exact h9⟩
  case round =>
    clear hB hz5 hN2 hO
    obtain ⟨j, hj, rfl, hB, h0, hN2, hO⟩ := hrel
    by_cases hlt : j < os.length
    · obtain ⟨b, off, rfl, hc⟩ := (ho.keep hB).at_ hlt
      clear hc
      obtain ⟨V, f, hq, hVl, hf1, hf2, _⟩ := HOt.out j hlt
      have Hq := Lib.hid hq
      have HS : Hid ((doutL os (depsL N ss ss.length) (j + 1)) = (doutL os (depsL N ss ss.length) j) ++ [getI (depsL N ss ss.length) V]) := Lib.hid (by rw [doutL_step _ hlt, hq]; rfl)
      clear hq
      go_upto_region 6 with (fail)
      refine wp_region_lit ?_
      refine ls_ex (some 21) (.bool true) rfl rfl (exec_lss _ _ _ _ rfl j os.length rfl rfl true (decide_eq_true (by omega))) ?_
      go_frame
      refine wpList_nil ?_
      go_upto_region 7 with (fail)
      refine wp_region_lit ?_
      refine ls_ex (some 22) (.int .i64 j) rfl rfl (exec_move _ rfl (.int .i64 j) rfl) ?_
      go_frame
      refine ls_ex (some 23) (.pointer (some ⟨b, off + j * 2, none⟩)) rfl rfl (exec_index_slice _ 61 _ _ rfl b off os.length co j 2 rfl rfl Try.underlying34 (by kernel_rfl) (by omega)) ?_
      go_frame
      refine ls_ex (some 24) (.agg #[.int .i64 (V : Int), .int .i64 f]) rfl rfl (exec_load_2 61 _ rfl b (off + j * 2) rfl (V : Int) f _ (RdK.cells_2 (ho.keep hB) hlt Hq.out) Try.underlying61 rfl (by kernel_rfl)) ?_
      go_frame
      refine ls_op rfl (fun K' hK' => ?_)
      have lz20 := hB.size
      have lz21 := h0.lt
      have lz22 := hN2.lt
      have lz23 := hO.lt
      refine wp_new (some 7) rfl (al_impl_Output rfl) (fun Wz24 nnz25 => ?_)
      have bz26 := nnz25.below (Below.refl _ _) (Nat.le_refl _)
      replace hB := below_after hB bz26
      replace h0 := h0.after bz26
      replace hN2 := hN2.after bz26
      replace hO := hO.after bz26
      have hz27 : At Wz24 wr.heap.size (.cells #[.int .i64 0, .int .i64 0] 61 (0, 0)) := nnz25.at_
      refine hK' _ _ ?_
      clear hK' K' nnz25 bz26
      go_frame
      refine ls_ex (some 6) (.int .i64 j) rfl rfl (exec_assign _ rfl (.int .i64 j) rfl) ?_
      go_frame
      refine ls_op rfl (fun K' hK' => ?_)
      refine wp_store_all 61 _ _ rfl rfl wr.heap.size rfl #[.int .i64 (V : Int), .int .i64 f] rfl _ _ hz27 2 (by kernel_rfl) rfl rfl (by intro x hx; simp at hx; rcases hx with rfl | rfl <;> rfl) (fun Wz28 pz29 => ?_)
      replace hB := pz29.below hB (by omega)
      replace h0 := pz29.other h0 (by omega)
      replace hN2 := pz29.other hN2 (by omega)
      replace hO := pz29.other hO (by omega)
      replace hz27 : At Wz28 wr.heap.size (.cells #[.int .i64 (V : Int), .int .i64 f] 61 (0, 0)) := pz29.at_
      refine hK' _ _ ?_
      clear hK' K' pz29
      refine wpList_nil ?_
      go_upto_region 8 with (fail)
      refine wp_region_lit ?_
      refine ls_ex (some 25) (.slice (some ⟨Wz10.heap.size, 0, none⟩) os.length os.length) rfl rfl (exec_move _ rfl (.slice (some ⟨Wz10.heap.size, 0, none⟩) os.length os.length) rfl) ?_
      go_frame
      refine ls_ex (some 26) (.int .i64 j) rfl rfl (exec_move _ rfl (.int .i64 j) rfl) ?_
      go_frame
      refine ls_ex (some 27) (.slice (some ⟨g5, 0, none⟩) M M) rfl rfl (exec_move _ rfl (.slice (some ⟨g5, 0, none⟩) M M) rfl) ?_
      go_frame
      refine ls_ex (some 28) (.pointer (some ⟨wr.heap.size, 0, none⟩)) rfl rfl (exec_fieldAddr 61 _ 0 rfl _ (by kernel_rfl)) ?_
      go_frame
      refine ls_ex (some 29) (.int .i64 (V : Int)) rfl rfl (exec_load_one 2 _ rfl wr.heap.size 0 rfl (.int .i64 (V : Int)) _ Try.underlying2 rfl (hz27.at_ 0)) ?_
      go_frame
      refine ls_ex (some 30) (.pointer (some ⟨g5, V * 7, none⟩)) rfl rfl (exec_ix0 _ 77 _ _ rfl g5 M M V 7 rfl rfl Try.underlying73 (by kernel_rfl) (by omega)) ?_
      go_frame
      refine ls_ex (some 31) (.pointer (some ⟨g5, V * 7 + 5, none⟩)) rfl rfl (exec_fieldAddr 77 _ 5 rfl _ (by kernel_rfl)) ?_
      go_frame
      refine ls_ex (some 32) (.int .i64 (getI (depsL N ss ss.length) V)) rfl rfl (exec_load_one 2 _ rfl g5 (V * 7 + 5) rfl (.int .i64 (getI (depsL N ss ss.length) V)) _ Try.underlying2 rfl (nd_cell hN2 (show V < M by omega) 5 (by omega) _ rfl)) ?_
      go_frame
      refine ls_ex (some 33) (.pointer (some ⟨Wz10.heap.size, j * 1, none⟩)) rfl rfl (exec_ix0 _ 2 _ _ rfl Wz10.heap.size os.length os.length j 1 rfl rfl Try.underlying46 (by kernel_rfl) (by omega)) ?_
      go_frame
      refine ls_op rfl (fun K' hK' => ?_)
      refine wp_store_one 2 _ _ rfl rfl Wz10.heap.size (j * 1) rfl (.int .i64 (getI (depsL N ss ss.length) V)) rfl rfl rfl _ _ hO (by kernel_rfl) (by rw [iar_size, List.length_append, doutL_len, List.length_replicate]; omega) (fun Wz30 pz31 => ?_)
      replace hB := pz31.below hB (by omega)
      replace h0 := pz31.other h0 (by omega)
      replace hN2 := pz31.other hN2 (by omega)
      replace hz27 := pz31.other hz27 (by omega)
      replace hO : At Wz30 Wz10.heap.size (.cells (iar (((doutL os (depsL N ss ss.length) j) ++ [getI (depsL N ss ss.length) V]) ++ List.replicate (os.length - (j + 1)) 0)) 2 (0, 0)) := by have h9 := pz31.at_; rwa [Nat.mul_one, iar_set, fill_app (doutL_len _ _ _) hlt] at h9
      refine hK' _ _ ?_
      clear hK' K' pz31
      refine wpList_nil ?_
      go_upto_region 9 with (fail)
      refine wp_region_lit ?_
      refine ls_ex (some 34) (.int .i64 (j + 1)) rfl rfl (exec_add _ _ _ _ rfl j 1 (j + 1) rfl rfl (IntWalk.i64_in _ (by omega))) ?_
      go_frame
      refine ls_ex (some 20) (.int .i64 (j + 1)) rfl rfl (exec_move _ rfl (.int .i64 (j + 1)) rfl) ?_
      go_frame
      refine wpList_nil ?_
      go_wp2_with fail
      go_roundw
      case rel => exact ⟨j + 1, by omega, by go_num, hB, h0, hN2, by rw [HS.out]; exact hO⟩
      case measure => simp [intOf]; omega
    · have hO2 : At wr Wz10.heap.size (.cells (iar (doutL os (depsL N ss ss.length) os.length)) 2 (0, 0)) := by have h9 := hO; rw [show j = os.length by omega, Nat.sub_self, List.replicate_zero, List.append_nil] at h9; exact h9
      clear hO
      go_upto_region 6 with (fail)
      refine wp_region_lit ?_
      refine ls_ex (some 21) (.bool false) rfl rfl (exec_lss _ _ _ _ rfl j os.length rfl rfl false (decide_eq_false (by omega))) ?_
      go_frame
      refine wpList_nil ?_
      go_upto_region 10 with (fail)
      refine wp_region_lit ?_
      refine ls_ex (some 35) (.slice (some ⟨Wz10.heap.size, 0, none⟩) os.length os.length) rfl rfl (exec_move _ rfl (.slice (some ⟨Wz10.heap.size, 0, none⟩) os.length os.length) rfl) ?_
      go_frame
      refine ls_ex (some 2) (.slice (some ⟨Wz10.heap.size, 0, none⟩) os.length os.length) rfl rfl (exec_assign _ rfl (.slice (some ⟨Wz10.heap.size, 0, none⟩) os.length os.length) rfl) ?_
      go_frame
      refine ls_ex (some 3) (.int .i64 0) rfl rfl (exec_assign _ rfl (.int .i64 0) rfl) ?_
      go_frame
      refine wpList_nil ?_
      go_wp2_with fail
      go_ret2
      have hol := hO2.lt
      exact ⟨_, by rw [Hc.out]; rfl, by rw [Hr.out]; have h9 := OwnI.of_at (lo := w.heap.size) hO2 (by omega) (by rw [doutL_len]; omega); rwa [doutL_len] at h9, hB⟩
theorem specDepthsOf_c (p n : Int) (As Ao : Option Addr) (cs co : Nat) (ss os : List (List Int)) (w : World) (hs : RdK 3 w As ss) (ho : RdK 2 w Ao os) (hns : ss.length ≤ 1048576) (hno : os.length ≤ 1048576) : Calls Try.prog 23 #[.agg #[.int .i64 p, .int .i64 n, .slice As ss.length cs, .slice Ao os.length co]] w (ResI w (dpL p n ss os) (dpCode p n ss os)) := by
  cases hpr : progB p n ss os with
  | false => exact specDepths_a p n As Ao cs co ss os w hs ho hns hno hpr
  | true =>
    obtain ⟨N, rfl⟩ := Int.eq_ofNat_of_zero_le (show 0 ≤ n by have := (progB_parts hpr).2.1; omega)
    exact specDepths_b p N As Ao cs co ss os w hs ho hns hno hpr
theorem implDepthsOf_c (p n : Int) (As Ao : Option Addr) (cs co : Nat) (ss os : List (List Int)) (w : World) (hs : RdK 3 w As ss) (ho : RdK 2 w Ao os) (hns : ss.length ≤ 1048576) (hno : os.length ≤ 1048576) : Calls Try.prog 24 #[.agg #[.int .i64 p, .int .i64 n, .slice As ss.length cs, .slice Ao os.length co]] w (ResI w (dpL p n ss os) (dpCode p n ss os)) := by
  cases hpr : progB p n ss os with
  | false => exact implDepths_a p n As Ao cs co ss os w hs ho hns hno hpr
  | true =>
    obtain ⟨N, rfl⟩ := Int.eq_ofNat_of_zero_le (show 0 ≤ n by have := (progB_parts hpr).2.1; omega)
    exact implDepths_b p N As Ao cs co ss os w hs ho hns hno hpr
theorem dpL_len (p n : Int) (ss os : List (List Int)) : (dpL p n ss os).length ≤ 1048576 := by
  unfold dpL
  split
  · rename_i hp
    have := (progB_parts hp).2.2.2.1
    rw [doutL_len]; omega
  · simp
end Go.Proofs.Ytokmchadckcilaa
