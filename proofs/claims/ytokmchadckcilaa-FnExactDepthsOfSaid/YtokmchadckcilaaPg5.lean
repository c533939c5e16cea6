/-
  spec.l05Numbers, l07Run. (Made by mkpg5.py.)
-/
import Derived.Test.YtokmchadckcilaaPg4
import Derived.Test.YtokmchadckcilaaHeldT
namespace Go.Proofs.Ytokmchadckcilaa
open Go.RowKit
set_option maxRecDepth 100000
attribute [local irreducible] wpList
theorem inB_sp (x p : Int) : inB x p = (decide (0 ≤ x) && decide (x ≤ p - 1)) := by
  rw [Bool.eq_iff_iff]
  simp only [inB, Bool.and_eq_true, decide_eq_true_eq]
  omega
set_option maxHeartbeats 12800000 in
theorem l07Run_c (p n : Int) (As Ao : Option Addr) (cs co : Nat) (ss os : List (List Int)) (w : World) (hs : RdK 3 w As ss) (ho : RdK 2 w Ao os) (Ax : Option Addr) (cx : Nat) (xs : List Int) (hx : RdI w Ax xs) (hnx : xs.length ≤ 1048576) (hpr : progB p n ss os = true) (hxn : (xs.length : Int) = n) (hxb : NumsP p xs) :
    Calls Try.prog 57 #[.agg #[.int .i64 p, .int .i64 n, .slice As ss.length cs, .slice Ao os.length co], .slice Ax xs.length cx] w (fun e w' => ∃ v, e = .returned v ∧ OwnI w' w.heap.size v (runL p ss os xs) ∧ Below w.heap.size w w') := by
  have hB := Below.refl w.heap.size w
  have hpp := progB_parts hpr
  have hp5 := primeB_bounds hpp.1
  have hn9 := hpp.2.1
  have hl9 := hpp.2.2.1
  have ho9 := hpp.2.2.2.1
  have hx1 : 0 < xs.length := by omega
  have hxa : (xs.length : Int) ≤ n := by omega
  have hxb2 : n ≤ (xs.length : Int) := by omega
  have HPr := Lib.hid hpr
  have HV : Hid (∀ k, k ≤ ss.length → NumsP p (valsL p ss xs k)) := Lib.hid (valsL_nums hpr hs.good hxb)
  clear hxn hpr hpp hxb
  go_enter Try.func57, Try.ntmps57
  go_upto_region 0 with (fail)
  refine wp_region_lit ?_
  refine ls_op rfl (fun K' hK' => ?_)
  have lz1 := hB.size
  refine wp_new (some 2) rfl (exec_box 36 _ rfl (#[.int .i64 p, .int .i64 n, .slice As ss.length cs, .slice Ao os.length co]) rfl) (fun Wz2 nnz3 => ?_)
  have bz4 := nnz3.below (Below.refl _ _) (Nat.le_refl _)
  replace hB := below_after hB bz4
  have hz5 : At Wz2 w.heap.size (.cells #[.int .i64 p, .int .i64 n, .slice As ss.length cs, .slice Ao os.length co] 36 (0, 0)) := nnz3.at_
  refine hK' _ _ ?_
  clear hK' K' nnz3 bz4
  go_frame
  refine ls_ex (some 4) (.slice none 0 0) rfl rfl (exec_assign _ rfl (.slice none 0 0) rfl) ?_
  go_frame
  refine wpList_nil ?_
  go_upto_region 1 with (fail)
  refine wp_region_lit ?_
  refine ls_ex (some 10) (.slice Ax xs.length cx) rfl rfl (exec_move _ rfl (.slice Ax xs.length cx) rfl) ?_
  go_frame
  refine ls_op rfl (fun K' hK' => ?_)
  have lz8 := hB.size
  have lz9 := hz5.lt
  refine wp_call1 (some 11) rfl 59 _ _ rfl (fun args w => by kernel_rfl) _ rfl _ (l01Own_c Ax cx xs _ (hx.keep hB) hx1 hnx) (fun e Wz6 h => ?_)
  obtain ⟨v5, rfl, ho5, bz7⟩ := h
  replace hB := below_after hB bz7
  replace hz5 := hz5.after bz7
  clear bz7
  refine ⟨_, rfl, ?_⟩
  refine hK' _ _ ?_
  clear hK' K'
  go_frame
  refine ls_op rfl (fun K' hK' => ?_)
  have lz10 := hB.size
  have lz11 := hz5.lt
  refine wp_new (some 12) rfl (exec_bs0I rfl) (fun Wz12 nnz13 => ?_)
  have bz14 := nnz13.below (Below.refl _ _) (Nat.le_refl _)
  replace hB := below_after hB bz14
  replace hz5 := hz5.after bz14
  replace ho5 := ho5.below bz14
  refine hK' _ _ ?_
  clear hK' K' nnz13 bz14
  go_frame
  refine ls_ex (some 5) (v5) rfl rfl (exec_assign _ rfl (v5) rfl) ?_
  go_frame
  refine ls_ex (some 6) (.slice (some ⟨Wz6.heap.size, 0, none⟩) 0 0) rfl rfl (exec_assign _ rfl (.slice (some ⟨Wz6.heap.size, 0, none⟩) 0 0) rfl) ?_
  go_frame
  refine wpList_nil ?_
  go_upto_region 2 with (fail)
  refine wp_region_lit ?_
  refine ls_ex (some 7) (.int .i64 0) rfl rfl (exec_assign _ rfl (.int .i64 0) rfl) ?_
  go_frame
  refine wpList_nil ?_
  go_wp2_with fail
  go_loopw [7, 5] (fun s7 s5 wr => ∃ (k : Nat) (v5 : Value), k ≤ ss.length ∧ s7 = .int .i64 k ∧ v5 = s5 ∧ Below w.heap.size w wr ∧ At wr w.heap.size (.cells #[.int .i64 p, .int .i64 n, .slice As ss.length cs, .slice Ao os.length co] 36 (0, 0)) ∧ OwnI wr Wz2.heap.size v5 (valsL p ss xs k)) (fun s7 _ _ => ss.length - (intOf s7).toNat)
  case atStart => exact ⟨0, _, by omega, rfl, rfl, hB, hz5, ho5⟩
  case round =>
    clear hB hz5 ho5
    obtain ⟨k, v5, hk, rfl, rfl, hB, h0, ho5⟩ := hrel
    by_cases hlt : k < ss.length
    · obtain ⟨b, off, rfl, hc⟩ := (hs.keep hB).at_ hlt
      clear hc
      obtain ⟨L, R, f, hq, hL, hR, _, hf1, hf2⟩ := stp_at hs.good HPr.out hlt
      have Hq := Lib.hid hq
      have HS : Hid ((valsL p ss xs (k + 1)) = (valsL p ss xs k) ++ [stepV p (valsL p ss xs k) [(L : Int), (R : Int), f]]) := Lib.hid (by rw [valsL_step p xs hlt, hq])
      clear hq
      obtain ⟨g5, c5, rfl, hg5, hg5b⟩ := ho5.form (by rw [valsL_len]; omega)
      have hvL := (HV.out k (by omega)) L
      have hvR := (HV.out k (by omega)) R
      have hm := mul25 hp5.2 (show 0 ≤ f by omega) (show f < p by omega) hvR.1 hvR.2
      go_upto_region 3 with (fail)
      refine wp_region_lit ?_
      refine ls_ex (some 13) (.int .i64 k) rfl rfl (exec_move _ rfl (.int .i64 k) rfl) ?_
      go_frame
      refine ls_ex (some 14) (.pointer (some ⟨w.heap.size, 2, none⟩)) rfl rfl (exec_fieldAddr 36 _ 2 rfl _ (by kernel_rfl)) ?_
      go_frame
      refine ls_ex (some 15) (.slice (some ⟨b, off, none⟩) ss.length cs) rfl rfl (exec_load_one 33 _ rfl w.heap.size 2 rfl (.slice (some ⟨b, off, none⟩) ss.length cs) _ Try.underlying33 rfl (h0.at_ 2)) ?_
      go_frame
      refine ls_ex (some 16) (.int .i64 ss.length) rfl rfl (exec_len _ 33 57 rfl ((some ⟨b, off, none⟩)) ss.length cs rfl Try.underlying33) ?_
      go_frame
      refine ls_ex (some 17) (.bool true) rfl rfl (exec_lss _ _ _ _ rfl k ss.length rfl rfl true (decide_eq_true (by omega))) ?_
      go_frame
      refine wpList_nil ?_
      go_upto_region 5 with (fail)
      refine wp_region_lit ?_
      refine ls_ex (some 20) (.pointer (some ⟨w.heap.size, 2, none⟩)) rfl rfl (exec_fieldAddr 36 _ 2 rfl _ (by kernel_rfl)) ?_
      go_frame
      refine ls_ex (some 21) (.slice (some ⟨b, off, none⟩) ss.length cs) rfl rfl (exec_load_one 33 _ rfl w.heap.size 2 rfl (.slice (some ⟨b, off, none⟩) ss.length cs) _ Try.underlying33 rfl (h0.at_ 2)) ?_
      go_frame
      refine ls_ex (some 22) (.int .i64 k) rfl rfl (exec_move _ rfl (.int .i64 k) rfl) ?_
      go_frame
      refine ls_ex (some 23) (.pointer (some ⟨b, off + k * 3, none⟩)) rfl rfl (exec_index_slice _ 57 _ _ rfl b off ss.length cs k 3 rfl rfl Try.underlying33 (by kernel_rfl) (by omega)) ?_
      go_frame
      refine ls_ex (some 24) (.agg #[.int .i64 (L : Int), .int .i64 (R : Int), .int .i64 f]) rfl rfl (exec_load_3 57 _ rfl b (off + k * 3) rfl (L : Int) (R : Int) f _ (RdK.cells_3 (hs.keep hB) hlt Hq.out) Try.underlying57 rfl (by kernel_rfl)) ?_
      go_frame
      refine ls_op rfl (fun K' hK' => ?_)
      have lz15 := hB.size
      have lz16 := h0.lt
      have naz21 := ho5.away_new
      refine wp_new (some 8) rfl (al_impl_Step rfl) (fun Wz17 nnz18 => ?_)
      have bz19 := nnz18.below (Below.refl _ _) (Nat.le_refl _)
      replace hB := below_after hB bz19
      replace h0 := h0.after bz19
      replace ho5 := ho5.below bz19
      have hz20 : At Wz17 wr.heap.size (.cells #[.int .i64 0, .int .i64 0, .int .i64 0] 57 (0, 0)) := nnz18.at_
      refine hK' _ _ ?_
      clear hK' K' nnz18 bz19
      go_frame
      refine ls_op rfl (fun K' hK' => ?_)
      refine wp_store_all 57 _ _ rfl rfl wr.heap.size rfl #[.int .i64 (L : Int), .int .i64 (R : Int), .int .i64 f] rfl _ _ hz20 3 (by kernel_rfl) rfl rfl (by intro x hx; simp at hx; rcases hx with rfl | rfl | rfl <;> rfl) (fun Wz22 pz23 => ?_)
      replace hB := pz23.below hB (by omega)
      replace h0 := pz23.other h0 (by omega)
      replace ho5 := ho5.put pz23 naz21
      replace hz20 : At Wz22 wr.heap.size (.cells #[.int .i64 (L : Int), .int .i64 (R : Int), .int .i64 f] 57 (0, 0)) := pz23.at_
      refine hK' _ _ ?_
      clear hK' K' pz23
      refine wpList_nil ?_
      go_upto_region 6 with (fail)
      refine wp_region_y (zs := [19, 20]) (S := fun w' => Below w.heap.size w w' ∧ At w' w.heap.size (.cells #[.int .i64 p, .int .i64 n, .slice (some ⟨b, off, none⟩) ss.length cs, .slice Ao os.length co] 36 (0, 0))) (S2 := fun w' => At w' wr.heap.size (.cells #[.int .i64 (L : Int), .int .i64 (R : Int), .int .i64 f] 57 (0, 0)) ∧ OwnI w' Wz2.heap.size (.slice (some ⟨g5, 0, none⟩) (valsL p ss xs k).length c5) (valsL p ss xs k)) (by kernel_rfl) ?_
      change wpAnyY _ _ _ _ _ _ _ _ _ _ (World.drew _)
      generalize hwdz24 : World.drew _ = wdz24
      replace hB : Below w.heap.size w wdz24 := by rw [← hwdz24]; exact hB.drew
      replace h0 : At wdz24 w.heap.size (.cells #[.int .i64 p, .int .i64 n, .slice (some ⟨b, off, none⟩) ss.length cs, .slice Ao os.length co] 36 (0, 0)) := by rw [← hwdz24]; exact h0
      replace ho5 : OwnI wdz24 Wz2.heap.size (.slice (some ⟨g5, 0, none⟩) (valsL p ss xs k).length c5) (valsL p ss xs k) := by rw [← hwdz24]; exact ho5.drew
      replace hz20 : At wdz24 wr.heap.size (.cells #[.int .i64 (L : Int), .int .i64 (R : Int), .int .i64 f] 57 (0, 0)) := by rw [← hwdz24]; exact hz20
      clear hwdz24
      refine y_yield 0 (some 25) (.slice (some ⟨g5, 0, none⟩) (valsL p ss xs k).length c5) rfl (by kernel_rfl) (by kernel_rfl) (by kernel_rfl) (fun _ _ _ h => h) rfl rfl ⟨hB, h0⟩ (fun w' h' => exec_move _ rfl (.slice (some ⟨g5, 0, none⟩) (valsL p ss xs k).length c5) rfl) ?_
      go_frame
      refine y_yield 1 (some 26) (.slice (some ⟨g5, 0, none⟩) (valsL p ss xs k).length c5) rfl (by kernel_rfl) (by kernel_rfl) (by kernel_rfl) (fun _ _ _ h => h) rfl rfl ⟨hB, h0⟩ (fun w' h' => exec_move _ rfl (.slice (some ⟨g5, 0, none⟩) (valsL p ss xs k).length c5) rfl) ?_
      go_frame
      refine y_yield 2 (some 27) (.pointer (some ⟨wr.heap.size, 0, none⟩)) rfl (by kernel_rfl) (by kernel_rfl) (by kernel_rfl) (fun _ _ _ h => h) rfl rfl ⟨hB, h0⟩ (fun w' h' => exec_fieldAddr 57 _ 0 rfl _ (by kernel_rfl)) ?_
      go_frame
      refine y_yield3 3 (some 28) (.int .i64 (L : Int)) rfl 21 (by kernel_rfl) (by kernel_rfl) (by kernel_rfl) (by kernel_rfl) (by kernel_rfl) (fun _ _ _ h => h) rfl rfl ⟨hB, h0⟩ ⟨hz20, ho5⟩ (fun w' h' h2' => exec_load_one 2 _ rfl wr.heap.size 0 rfl (.int .i64 (L : Int)) _ Try.underlying2 rfl (h2'.1.at_ 0)) ?_
      go_frame
      refine y_yield 4 (some 29) (.pointer (some ⟨g5, L * 1, none⟩)) rfl (by kernel_rfl) (by kernel_rfl) (by kernel_rfl) (fun _ _ _ h => h) rfl rfl ⟨hB, h0⟩ (fun w' h' => exec_ix0 _ 2 _ _ rfl g5 ((valsL p ss xs k).length) c5 L 1 rfl rfl Try.underlying46 (by kernel_rfl) (by rw [valsL_len]; omega)) ?_
      go_frame
      refine y_yield3 5 (some 30) (.int .i64 (getI (valsL p ss xs k) L)) rfl 21 (by kernel_rfl) (by kernel_rfl) (by kernel_rfl) (by kernel_rfl) (by kernel_rfl) (fun _ _ _ h => h) rfl rfl ⟨hB, h0⟩ ⟨hz20, ho5⟩ (fun w' h' h2' => exec_load_one 2 _ rfl g5 (L * 1) rfl (.int .i64 (getI (valsL p ss xs k) L)) _ Try.underlying2 rfl (by rw [Nat.mul_one]; exact OwnI.cell h2'.2 (by rw [valsL_len]; omega))) ?_
      go_frame
      refine y_yield 6 (some 31) (.pointer (some ⟨wr.heap.size, 2, none⟩)) rfl (by kernel_rfl) (by kernel_rfl) (by kernel_rfl) (fun _ _ _ h => h) rfl rfl ⟨hB, h0⟩ (fun w' h' => exec_fieldAddr 57 _ 2 rfl _ (by kernel_rfl)) ?_
      go_frame
      refine y_yield3 7 (some 32) (.int .i64 f) rfl 21 (by kernel_rfl) (by kernel_rfl) (by kernel_rfl) (by kernel_rfl) (by kernel_rfl) (fun _ _ _ h => h) rfl rfl ⟨hB, h0⟩ ⟨hz20, ho5⟩ (fun w' h' h2' => exec_load_one 2 _ rfl wr.heap.size 2 rfl (.int .i64 f) _ Try.underlying2 rfl (h2'.1.at_ 2)) ?_
      go_frame
      refine y_yield 8 (some 33) (.slice (some ⟨g5, 0, none⟩) (valsL p ss xs k).length c5) rfl (by kernel_rfl) (by kernel_rfl) (by kernel_rfl) (fun _ _ _ h => h) rfl rfl ⟨hB, h0⟩ (fun w' h' => exec_move _ rfl (.slice (some ⟨g5, 0, none⟩) (valsL p ss xs k).length c5) rfl) ?_
      go_frame
      refine y_yield 9 (some 34) (.pointer (some ⟨wr.heap.size, 1, none⟩)) rfl (by kernel_rfl) (by kernel_rfl) (by kernel_rfl) (fun _ _ _ h => h) rfl rfl ⟨hB, h0⟩ (fun w' h' => exec_fieldAddr 57 _ 1 rfl _ (by kernel_rfl)) ?_
      go_frame
      refine y_yield3 10 (some 35) (.int .i64 (R : Int)) rfl 21 (by kernel_rfl) (by kernel_rfl) (by kernel_rfl) (by kernel_rfl) (by kernel_rfl) (fun _ _ _ h => h) rfl rfl ⟨hB, h0⟩ ⟨hz20, ho5⟩ (fun w' h' h2' => exec_load_one 2 _ rfl wr.heap.size 1 rfl (.int .i64 (R : Int)) _ Try.underlying2 rfl (h2'.1.at_ 1)) ?_
      go_frame
      refine y_yield 11 (some 36) (.pointer (some ⟨g5, R * 1, none⟩)) rfl (by kernel_rfl) (by kernel_rfl) (by kernel_rfl) (fun _ _ _ h => h) rfl rfl ⟨hB, h0⟩ (fun w' h' => exec_ix0 _ 2 _ _ rfl g5 ((valsL p ss xs k).length) c5 R 1 rfl rfl Try.underlying46 (by kernel_rfl) (by rw [valsL_len]; omega)) ?_
      go_frame
      refine y_yield3 12 (some 37) (.int .i64 (getI (valsL p ss xs k) R)) rfl 21 (by kernel_rfl) (by kernel_rfl) (by kernel_rfl) (by kernel_rfl) (by kernel_rfl) (fun _ _ _ h => h) rfl rfl ⟨hB, h0⟩ ⟨hz20, ho5⟩ (fun w' h' h2' => exec_load_one 2 _ rfl g5 (R * 1) rfl (.int .i64 (getI (valsL p ss xs k) R)) _ Try.underlying2 rfl (by rw [Nat.mul_one]; exact OwnI.cell h2'.2 (by rw [valsL_len]; omega))) ?_
      go_frame
      refine y_yield 13 (some 38) (.int .i64 (f * (getI (valsL p ss xs k) R))) rfl (by kernel_rfl) (by kernel_rfl) (by kernel_rfl) (fun _ _ _ h => h) rfl rfl ⟨hB, h0⟩ (fun w' h' => exec_mul _ _ _ _ rfl f ((getI (valsL p ss xs k) R)) (f * (getI (valsL p ss xs k) R)) rfl rfl (IntWalk.i64_in _ (by omega))) ?_
      go_frame
      refine y_yield 14 (some 39) (.int .i64 ((getI (valsL p ss xs k) L) + (f * (getI (valsL p ss xs k) R)))) rfl (by kernel_rfl) (by kernel_rfl) (by kernel_rfl) (fun _ _ _ h => h) rfl rfl ⟨hB, h0⟩ (fun w' h' => exec_add _ _ _ _ rfl ((getI (valsL p ss xs k) L)) ((f * (getI (valsL p ss xs k) R))) ((getI (valsL p ss xs k) L) + (f * (getI (valsL p ss xs k) R))) rfl rfl (IntWalk.i64_in _ (by omega))) ?_
      go_frame
      refine y_yield 15 (some 40) (.pointer (some ⟨w.heap.size, 0, none⟩)) rfl (by kernel_rfl) (by kernel_rfl) (by kernel_rfl) (fun _ _ _ h => h) rfl rfl ⟨hB, h0⟩ (fun w' h' => exec_fieldAddr 36 _ 0 rfl _ (by kernel_rfl)) ?_
      go_frame
      refine y_yield 16 (some 41) (.int .i64 p) rfl (by kernel_rfl) (by kernel_rfl) (by kernel_rfl) (fun _ _ _ h => h) rfl rfl ⟨hB, h0⟩ (fun w' h' => exec_load_one 2 _ rfl w.heap.size 0 rfl (.int .i64 p) _ Try.underlying2 rfl (h'.2.at_ 0)) ?_
      go_frame
      refine y_yield 17 (some 42) (.int .i64 (stepV p (valsL p ss xs k) [(L : Int), (R : Int), f])) rfl (by kernel_rfl) (by kernel_rfl) (by kernel_rfl) (fun _ _ _ h => h) rfl rfl ⟨hB, h0⟩ (fun w' h' => exec_rem _ _ _ _ rfl (getI (valsL p ss xs k) L + (f * getI (valsL p ss xs k) R)) p _ rfl rfl (by omega) rfl) ?_
      go_frame
      refine y_oper 18 (by kernel_rfl) rfl rfl (fun K' hK' => ?_)
      have lz25 := hB.size
      have lz26 := h0.lt
      have lz27 := hz20.lt
      have naz32 := ho5.away_new
      refine wp_new (some 43) rfl (exec_bsi1 _ rfl ((stepV p (valsL p ss xs k) [(L : Int), (R : Int), f])) rfl) (fun Wz28 nnz29 => ?_)
      have bz30 := nnz29.below (Below.refl _ _) (Nat.le_refl _)
      replace hB := below_after hB bz30
      replace h0 := h0.after bz30
      replace ho5 := ho5.below bz30
      replace hz20 := hz20.after bz30
      have hz31 : At Wz28 wdz24.heap.size (.cells #[.int .i64 (stepV p (valsL p ss xs k) [(L : Int), (R : Int), f])] 2 (0, 0)) := nnz29.at_
      refine hK' _ _ ⟨hB, h0⟩ (fun _ => ⟨hz20, ho5⟩) ?_
      clear hK' K' nnz29 bz30
      go_frame
      refine y_oper 19 (by kernel_rfl) rfl rfl (fun K' hK' => ?_)
      have lz36 := hB.size
      have lz37 := h0.lt
      have lz38 := hz20.lt
      have lz39 := hz31.lt
      refine wp_appI (some 44) rfl _ _ rfl (.slice (some ⟨g5, 0, none⟩) (valsL p ss xs k).length c5) (valsL p ss xs k) (stepV p (valsL p ss xs k) [(L : Int), (R : Int), f]) rfl ho5 wdz24.heap.size rfl hz31 (by rw [valsL_len]; omega) (by omega) (fun v6 Wz33 noz35 grz34 => ?_)
      replace hB := below_grownI hB grz34 ho5 (by omega)
      replace h0 := h0.grown grz34 (OwnI.ne_lt2 ho5 (by omega))
      replace ho5 := noz35
      refine hK' _ _ ⟨hB, h0⟩ (fun h => absurd (by decide) h) ?_
      clear hK' K' grz34
      go_frame
      refine y_oper 20 (by kernel_rfl) rfl rfl (fun K' hK' => ?_)
      refine wp_exec (some 5) rfl (v6) (exec_assign _ rfl (v6) rfl) ?_
      refine hK' _ _ ⟨hB, h0⟩ (fun h => absurd (by decide) h) ?_
      clear hK' K'
      go_frame
      refine y_done (by kernel_rfl) ?_ _
      go_upto_region 4 with (fail)
      refine wp_region_lit ?_
      refine ls_ex (some 18) (.int .i64 k) rfl rfl (exec_move _ rfl (.int .i64 k) rfl) ?_
      go_frame
      refine ls_ex (some 19) (.int .i64 (k + 1)) rfl rfl (exec_add _ _ _ _ rfl k 1 (k + 1) rfl rfl (IntWalk.i64_in _ (by omega))) ?_
      go_frame
      refine ls_ex (some 7) (.int .i64 (k + 1)) rfl rfl (exec_assign _ rfl (.int .i64 (k + 1)) rfl) ?_
      go_frame
      refine wpList_nil ?_
      go_wp2_with fail
      go_roundw
      case rel => exact ⟨k + 1, _, by omega, by go_num, rfl, hB, h0, by rw [HS.out]; exact ho5⟩
      case measure => simp [intOf]; omega
    · have ho7 : OwnI wr Wz2.heap.size v5 (valsL p ss xs ss.length) := by rw [← show k = ss.length by omega]; exact ho5
      clear ho5
      obtain ⟨g5, c5, rfl, hg5, hg5b⟩ := ho7.form (by rw [valsL_len]; omega)
      go_upto_region 3 with (fail)
      refine wp_region_lit ?_
      refine ls_ex (some 13) (.int .i64 k) rfl rfl (exec_move _ rfl (.int .i64 k) rfl) ?_
      go_frame
      refine ls_ex (some 14) (.pointer (some ⟨w.heap.size, 2, none⟩)) rfl rfl (exec_fieldAddr 36 _ 2 rfl _ (by kernel_rfl)) ?_
      go_frame
      refine ls_ex (some 15) (.slice As ss.length cs) rfl rfl (exec_load_one 33 _ rfl w.heap.size 2 rfl (.slice As ss.length cs) _ Try.underlying33 rfl (h0.at_ 2)) ?_
      go_frame
      refine ls_ex (some 16) (.int .i64 ss.length) rfl rfl (exec_len _ 33 57 rfl As ss.length cs rfl Try.underlying33) ?_
      go_frame
      refine ls_ex (some 17) (.bool false) rfl rfl (exec_lss _ _ _ _ rfl k ss.length rfl rfl false (decide_eq_false (by omega))) ?_
      go_frame
      refine wpList_nil ?_
      go_upto_region 7 with (fail)
      refine wp_region_lit ?_
      refine ls_ex (some 9) (.int .i64 0) rfl rfl (exec_assign _ rfl (.int .i64 0) rfl) ?_
      go_frame
      refine wpList_nil ?_
      go_wp2_with fail
      have hlb := h0.lt
      obtain ⟨we, rfl⟩ : ∃ x : World, x = wr := ⟨_, rfl⟩
      go_loopw [9, 6] (fun s9 s6 wr => ∃ (j : Nat) (v6 : Value), j ≤ os.length ∧ s9 = .int .i64 j ∧ v6 = s6 ∧ Below w.heap.size w wr ∧ At wr w.heap.size (.cells #[.int .i64 p, .int .i64 n, .slice As ss.length cs, .slice Ao os.length co] 36 (0, 0)) ∧ OwnI wr Wz2.heap.size (.slice (some ⟨g5, 0, none⟩) (valsL p ss xs ss.length).length c5) (valsL p ss xs ss.length) ∧ OwnE wr we.heap.size v6 (outsL p os (valsL p ss xs ss.length) j) ∧ we.heap.size ≤ wr.heap.size) (fun s9 _ _ => os.length - (intOf s9).toNat)
      case atStart => exact ⟨0, _, by omega, rfl, rfl, hB, h0, ho7, OwnE.start _ _ _, Nat.le_refl _⟩
      case round =>
        clear hB h0 ho7
        obtain ⟨j, v6, hj, rfl, rfl, hB, h0, ho7, ho6, hz⟩ := hrel
        by_cases hlt : j < os.length
        · obtain ⟨b, off, rfl, hc⟩ := (ho.keep hB).at_ hlt
          clear hc
          obtain ⟨V, f, hq, hVl, hf1, hf2, _⟩ := otp_at ho.good HPr.out hlt
          have Hq := Lib.hid hq
          have HS : Hid (outsL p os (valsL p ss xs ss.length) (j + 1) = (outsL p os (valsL p ss xs ss.length) j) ++ [outV p (valsL p ss xs ss.length) [(V : Int), f]]) := Lib.hid (by rw [outsL_step p _ hlt, hq])
          clear hq
          have hvV := (HV.out ss.length (by omega)) V
          have hm := mul25 hp5.2 (show 0 ≤ f by omega) (show f < p by omega) hvV.1 hvV.2
          go_upto_region 8 with (fail)
          refine wp_region_lit ?_
          refine ls_ex (some 45) (.int .i64 j) rfl rfl (exec_move _ rfl (.int .i64 j) rfl) ?_
          go_frame
          refine ls_ex (some 46) (.pointer (some ⟨w.heap.size, 3, none⟩)) rfl rfl (exec_fieldAddr 36 _ 3 rfl _ (by kernel_rfl)) ?_
          go_frame
          refine ls_ex (some 47) (.slice (some ⟨b, off, none⟩) os.length co) rfl rfl (exec_load_one 34 _ rfl w.heap.size 3 rfl (.slice (some ⟨b, off, none⟩) os.length co) _ Try.underlying34 rfl (h0.at_ 3)) ?_
          go_frame
          refine ls_ex (some 48) (.int .i64 os.length) rfl rfl (exec_len _ 34 61 rfl ((some ⟨b, off, none⟩)) os.length co rfl Try.underlying34) ?_
          go_frame
          refine ls_ex (some 49) (.bool true) rfl rfl (exec_lss _ _ _ _ rfl j os.length rfl rfl true (decide_eq_true (by omega))) ?_
          go_frame
          refine wpList_nil ?_
          go_upto_region 10 with (fail)
          refine wp_region_y (zs := [21, 22]) (S := fun w' => Below w.heap.size w w' ∧ At w' w.heap.size (.cells #[.int .i64 p, .int .i64 n, .slice As ss.length cs, .slice (some ⟨b, off, none⟩) os.length co] 36 (0, 0)) ∧ OwnI w' Wz2.heap.size (.slice (some ⟨g5, 0, none⟩) (valsL p ss xs ss.length).length c5) (valsL p ss xs ss.length)) (S2 := fun w' => True) (by kernel_rfl) ?_
          change wpAnyY _ _ _ _ _ _ _ _ _ _ (World.drew _)
          generalize hwdz40 : World.drew _ = wdz40
          replace hB : Below w.heap.size w wdz40 := by rw [← hwdz40]; exact hB.drew
          replace h0 : At wdz40 w.heap.size (.cells #[.int .i64 p, .int .i64 n, .slice As ss.length cs, .slice (some ⟨b, off, none⟩) os.length co] 36 (0, 0)) := by rw [← hwdz40]; exact h0
          replace ho7 : OwnI wdz40 Wz2.heap.size (.slice (some ⟨g5, 0, none⟩) (valsL p ss xs ss.length).length c5) (valsL p ss xs ss.length) := by rw [← hwdz40]; exact ho7.drew
          replace ho6 : OwnE wdz40 we.heap.size v6 (outsL p os (valsL p ss xs ss.length) j) := by rw [← hwdz40]; exact ho6
          replace hz : we.heap.size ≤ wdz40.heap.size := by rw [← hwdz40]; exact hz
          clear hwdz40
          refine y_yield 0 (some 52) (v6) rfl (by kernel_rfl) (by kernel_rfl) (by kernel_rfl) (fun _ _ _ h => h) rfl rfl ⟨hB, h0, ho7⟩ (fun w' h' => exec_move _ rfl (v6) rfl) ?_
          go_frame
          refine y_yield 1 (some 53) (.pointer (some ⟨w.heap.size, 3, none⟩)) rfl (by kernel_rfl) (by kernel_rfl) (by kernel_rfl) (fun _ _ _ h => h) rfl rfl ⟨hB, h0, ho7⟩ (fun w' h' => exec_fieldAddr 36 _ 3 rfl _ (by kernel_rfl)) ?_
          go_frame
          refine y_yield 2 (some 54) (.slice (some ⟨b, off, none⟩) os.length co) rfl (by kernel_rfl) (by kernel_rfl) (by kernel_rfl) (fun _ _ _ h => h) rfl rfl ⟨hB, h0, ho7⟩ (fun w' h' => exec_load_one 34 _ rfl w.heap.size 3 rfl (.slice (some ⟨b, off, none⟩) os.length co) _ Try.underlying34 rfl (h'.2.1.at_ 3)) ?_
          go_frame
          refine y_yield 3 (some 55) (.int .i64 j) rfl (by kernel_rfl) (by kernel_rfl) (by kernel_rfl) (fun _ _ _ h => h) rfl rfl ⟨hB, h0, ho7⟩ (fun w' h' => exec_move _ rfl (.int .i64 j) rfl) ?_
          go_frame
          refine y_yield 4 (some 56) (.pointer (some ⟨b, off + j * 2, none⟩)) rfl (by kernel_rfl) (by kernel_rfl) (by kernel_rfl) (fun _ _ _ h => h) rfl rfl ⟨hB, h0, ho7⟩ (fun w' h' => exec_index_slice _ 61 _ _ rfl b off os.length co j 2 rfl rfl Try.underlying34 (by kernel_rfl) (by omega)) ?_
          go_frame
          refine y_yield 5 (some 57) (.pointer (some ⟨b, off + j * 2 + 1, none⟩)) rfl (by kernel_rfl) (by kernel_rfl) (by kernel_rfl) (fun _ _ _ h => h) rfl rfl ⟨hB, h0, ho7⟩ (fun w' h' => exec_fieldAddr 61 _ 1 rfl _ (by kernel_rfl)) ?_
          go_frame
          refine y_yield 6 (some 58) (.int .i64 f) rfl (by kernel_rfl) (by kernel_rfl) (by kernel_rfl) (fun _ _ _ h => h) rfl rfl ⟨hB, h0, ho7⟩ (fun w' h' => exec_load_one 2 _ rfl b (off + j * 2 + 1) rfl (.int .i64 f) _ Try.underlying2 rfl (RdK.cells_2 (ho.keep h'.1) hlt Hq.out 1 (by omega))) ?_
          go_frame
          refine y_yield 7 (some 59) (.slice (some ⟨g5, 0, none⟩) (valsL p ss xs ss.length).length c5) rfl (by kernel_rfl) (by kernel_rfl) (by kernel_rfl) (fun _ _ _ h => h) rfl rfl ⟨hB, h0, ho7⟩ (fun w' h' => exec_move _ rfl (.slice (some ⟨g5, 0, none⟩) (valsL p ss xs ss.length).length c5) rfl) ?_
          go_frame
          refine y_yield 8 (some 60) (.pointer (some ⟨w.heap.size, 3, none⟩)) rfl (by kernel_rfl) (by kernel_rfl) (by kernel_rfl) (fun _ _ _ h => h) rfl rfl ⟨hB, h0, ho7⟩ (fun w' h' => exec_fieldAddr 36 _ 3 rfl _ (by kernel_rfl)) ?_
          go_frame
          refine y_yield 9 (some 61) (.slice (some ⟨b, off, none⟩) os.length co) rfl (by kernel_rfl) (by kernel_rfl) (by kernel_rfl) (fun _ _ _ h => h) rfl rfl ⟨hB, h0, ho7⟩ (fun w' h' => exec_load_one 34 _ rfl w.heap.size 3 rfl (.slice (some ⟨b, off, none⟩) os.length co) _ Try.underlying34 rfl (h'.2.1.at_ 3)) ?_
          go_frame
          refine y_yield 10 (some 62) (.int .i64 j) rfl (by kernel_rfl) (by kernel_rfl) (by kernel_rfl) (fun _ _ _ h => h) rfl rfl ⟨hB, h0, ho7⟩ (fun w' h' => exec_move _ rfl (.int .i64 j) rfl) ?_
          go_frame
          refine y_yield 11 (some 63) (.pointer (some ⟨b, off + j * 2, none⟩)) rfl (by kernel_rfl) (by kernel_rfl) (by kernel_rfl) (fun _ _ _ h => h) rfl rfl ⟨hB, h0, ho7⟩ (fun w' h' => exec_index_slice _ 61 _ _ rfl b off os.length co j 2 rfl rfl Try.underlying34 (by kernel_rfl) (by omega)) ?_
          go_frame
          refine y_yield 12 (some 64) (.pointer (some ⟨b, off + j * 2, none⟩)) rfl (by kernel_rfl) (by kernel_rfl) (by kernel_rfl) (fun _ _ _ h => h) rfl rfl ⟨hB, h0, ho7⟩ (fun w' h' => exec_fieldAddr 61 _ 0 rfl _ (by kernel_rfl)) ?_
          go_frame
          refine y_yield 13 (some 65) (.int .i64 (V : Int)) rfl (by kernel_rfl) (by kernel_rfl) (by kernel_rfl) (fun _ _ _ h => h) rfl rfl ⟨hB, h0, ho7⟩ (fun w' h' => exec_load_one 2 _ rfl b (off + j * 2) rfl (.int .i64 (V : Int)) _ Try.underlying2 rfl (RdK.cells_2 (ho.keep h'.1) hlt Hq.out 0 (by omega))) ?_
          go_frame
          refine y_yield 14 (some 66) (.pointer (some ⟨g5, V * 1, none⟩)) rfl (by kernel_rfl) (by kernel_rfl) (by kernel_rfl) (fun _ _ _ h => h) rfl rfl ⟨hB, h0, ho7⟩ (fun w' h' => exec_ix0 _ 2 _ _ rfl g5 ((valsL p ss xs ss.length).length) c5 V 1 rfl rfl Try.underlying46 (by kernel_rfl) (by rw [valsL_len]; omega)) ?_
          go_frame
          refine y_yield 15 (some 67) (.int .i64 (getI (valsL p ss xs ss.length) V)) rfl (by kernel_rfl) (by kernel_rfl) (by kernel_rfl) (fun _ _ _ h => h) rfl rfl ⟨hB, h0, ho7⟩ (fun w' h' => exec_load_one 2 _ rfl g5 (V * 1) rfl (.int .i64 (getI (valsL p ss xs ss.length) V)) _ Try.underlying2 rfl (by rw [Nat.mul_one]; exact OwnI.cell h'.2.2 (by rw [valsL_len]; omega))) ?_
          go_frame
          refine y_yield 16 (some 68) (.int .i64 (f * (getI (valsL p ss xs ss.length) V))) rfl (by kernel_rfl) (by kernel_rfl) (by kernel_rfl) (fun _ _ _ h => h) rfl rfl ⟨hB, h0, ho7⟩ (fun w' h' => exec_mul _ _ _ _ rfl f ((getI (valsL p ss xs ss.length) V)) (f * (getI (valsL p ss xs ss.length) V)) rfl rfl (IntWalk.i64_in _ (by omega))) ?_
          go_frame
          refine y_yield 17 (some 69) (.pointer (some ⟨w.heap.size, 0, none⟩)) rfl (by kernel_rfl) (by kernel_rfl) (by kernel_rfl) (fun _ _ _ h => h) rfl rfl ⟨hB, h0, ho7⟩ (fun w' h' => exec_fieldAddr 36 _ 0 rfl _ (by kernel_rfl)) ?_
          go_frame
          refine y_yield 18 (some 70) (.int .i64 p) rfl (by kernel_rfl) (by kernel_rfl) (by kernel_rfl) (fun _ _ _ h => h) rfl rfl ⟨hB, h0, ho7⟩ (fun w' h' => exec_load_one 2 _ rfl w.heap.size 0 rfl (.int .i64 p) _ Try.underlying2 rfl (h'.2.1.at_ 0)) ?_
          go_frame
          refine y_yield 19 (some 71) (.int .i64 (outV p (valsL p ss xs ss.length) [(V : Int), f])) rfl (by kernel_rfl) (by kernel_rfl) (by kernel_rfl) (fun _ _ _ h => h) rfl rfl ⟨hB, h0, ho7⟩ (fun w' h' => exec_rem _ _ _ _ rfl (f * getI (valsL p ss xs ss.length) V) p _ rfl rfl (by omega) rfl) ?_
          go_frame
          refine y_oper 20 (by kernel_rfl) rfl rfl (fun K' hK' => ?_)
          have lz41 := hB.size
          have lz42 := h0.lt
          have naz47 := ho7.away_new
          refine wp_new (some 72) rfl (exec_bsi1 _ rfl ((outV p (valsL p ss xs ss.length) [(V : Int), f])) rfl) (fun Wz43 nnz44 => ?_)
          have bz45 := nnz44.below (Below.refl _ _) (Nat.le_refl _)
          replace hB := below_after hB bz45
          replace h0 := h0.after bz45
          replace ho7 := ho7.below bz45
          replace ho6 := ho6.keep bz45
          replace hz := size_after hz bz45
          have hz46 : At Wz43 wdz40.heap.size (.cells #[.int .i64 (outV p (valsL p ss xs ss.length) [(V : Int), f])] 2 (0, 0)) := nnz44.at_
          refine hK' _ _ ⟨hB, h0, ho7⟩ (fun _ => trivial) ?_
          clear hK' K' nnz44 bz45
          go_frame
          refine y_oper 21 (by kernel_rfl) rfl rfl (fun K' hK' => ?_)
          have lz51 := hB.size
          have lz52 := h0.lt
          have lz53 := hz46.lt
          refine wp_appE (some 73) rfl _ _ rfl v6 (outsL p os (valsL p ss xs ss.length) j) (outV p (valsL p ss xs ss.length) [(V : Int), f]) rfl ho6 wdz40.heap.size rfl hz46 (by rw [outsL_len]; omega) (by omega) (fun v8 Wz48 noz50 b2z49 => ?_)
          replace hB := hB.trans (below_mono b2z49 (by omega))
          replace h0 := h0.keep b2z49 (by omega)
          replace ho7 := OwnI.keepB ho7 (fun g hg => by simp only [Value.ownBlock, Option.some.injEq] at hg; omega) b2z49
          replace ho6 := noz50
          replace hz := Nat.le_trans hz b2z49.size
          refine hK' _ _ ⟨hB, h0, ho7⟩ (fun h => absurd (by decide) h) ?_
          clear hK' K' b2z49
          go_frame
          refine y_oper 22 (by kernel_rfl) rfl rfl (fun K' hK' => ?_)
          refine wp_exec (some 6) rfl (v8) (exec_assign _ rfl (v8) rfl) ?_
          refine hK' _ _ ⟨hB, h0, ho7⟩ (fun h => absurd (by decide) h) ?_
          clear hK' K'
          go_frame
          refine y_done (by kernel_rfl) ?_ _
          go_upto_region 9 with (fail)
          refine wp_region_lit ?_
          refine ls_ex (some 50) (.int .i64 j) rfl rfl (exec_move _ rfl (.int .i64 j) rfl) ?_
          go_frame
          refine ls_ex (some 51) (.int .i64 (j + 1)) rfl rfl (exec_add _ _ _ _ rfl j 1 (j + 1) rfl rfl (IntWalk.i64_in _ (by omega))) ?_
          go_frame
          refine ls_ex (some 9) (.int .i64 (j + 1)) rfl rfl (exec_assign _ rfl (.int .i64 (j + 1)) rfl) ?_
          go_frame
          refine wpList_nil ?_
          go_wp2_with fail
          go_roundw
          case rel => exact ⟨j + 1, _, by omega, by go_num, rfl, hB, h0, ho7, by rw [HS.out]; exact ho6, hz⟩
          case measure => simp [intOf]; omega
        · have ho8 : OwnE wr we.heap.size v6 (runL p ss os xs) := by unfold runL; rw [← show j = os.length by omega]; exact ho6
          clear ho6
          go_upto_region 8 with (fail)
          refine wp_region_lit ?_
          refine ls_ex (some 45) (.int .i64 j) rfl rfl (exec_move _ rfl (.int .i64 j) rfl) ?_
          go_frame
          refine ls_ex (some 46) (.pointer (some ⟨w.heap.size, 3, none⟩)) rfl rfl (exec_fieldAddr 36 _ 3 rfl _ (by kernel_rfl)) ?_
          go_frame
          refine ls_ex (some 47) (.slice Ao os.length co) rfl rfl (exec_load_one 34 _ rfl w.heap.size 3 rfl (.slice Ao os.length co) _ Try.underlying34 rfl (h0.at_ 3)) ?_
          go_frame
          refine ls_ex (some 48) (.int .i64 os.length) rfl rfl (exec_len _ 34 61 rfl Ao os.length co rfl Try.underlying34) ?_
          go_frame
          refine ls_ex (some 49) (.bool false) rfl rfl (exec_lss _ _ _ _ rfl j os.length rfl rfl false (decide_eq_false (by omega))) ?_
          go_frame
          refine wpList_nil ?_
          go_upto_region 11 with (fail)
          refine wp_region_lit ?_
          refine ls_ex (some 74) (v6) rfl rfl (exec_move _ rfl (v6) rfl) ?_
          go_frame
          refine ls_ex (some 4) (v6) rfl rfl (exec_assign _ rfl (v6) rfl) ?_
          go_frame
          refine wpList_nil ?_
          go_wp2_with fail
          go_ret
          exact ⟨_, rfl, (ho8.own (by unfold runL; rw [outsL_len]; omega)).mono (by omega), hB⟩
end Go.Proofs.Ytokmchadckcilaa
