/-
  laws.FnExactContractTensor: the walk: it returns true and writes nothing that was there. (Made by genlaw2.py.)
-/
import Derived.Test.YtolgfpcadfjliaaTen1
import Derived.Test.YtolgfpcadfjliaaRowB
namespace Go.Proofs.Ytolgfpcadfjliaa
open Go.RowKit
set_option maxRecDepth 100000
theorem ka_world {w wr : World} {bs : List (Nat × Obj)} (_ : KA w bs wr) : ∃ x : World, x = wr := ⟨wr, rfl⟩
set_option maxHeartbeats 6400000 in
theorem lawContractTensor_walk (tp tn tm tk : Int) (tA : Option Addr) (tc : Nat) (tq : List Int) (i : Int) (xsA : Option Addr) (xsc : Nat) (xs : List Int) (N : Nat) (R : Nat → List Int) (code : Int) (w : World) (hr_t : RdI w tA tq)  (hn_t : tq.length ≤ 9223372036854775807) (hm_xs : RdI w xsA xs) (hn_xs : xs.length ≤ 9223372036854775807) (hrl : N + tot R N ≤ 1048576)
    (hS : (tq.length ≤ 1048576 → xs.length ≤ 1048576 → ∀ (gt : Nat) (gxs : Nat) (w : World), RdI w (some ⟨gt, 0, none⟩) tq → RdI w (some ⟨gxs, 0, none⟩) xs → Calls Try.prog 15 #[.agg #[.int .i64 tp, .int .i64 tn, .int .i64 tm, .int .i64 tk, .slice (some ⟨gt, 0, none⟩) tq.length tq.length], .int .i64 i, .slice (some ⟨gxs, 0, none⟩) xs.length xs.length] w (ResV w N R code)))
    (hI : (tq.length ≤ 1048576 → xs.length ≤ 1048576 → ∀ (gt : Nat) (gxs : Nat) (w : World), RdI w (some ⟨gt, 0, none⟩) tq → RdI w (some ⟨gxs, 0, none⟩) xs → Calls Try.prog 17 #[.agg #[.int .i64 tp, .int .i64 tn, .int .i64 tm, .int .i64 tk, .slice (some ⟨gt, 0, none⟩) tq.length tq.length], .int .i64 i, .slice (some ⟨gxs, 0, none⟩) xs.length xs.length] w (ResR w N R code))) :
    Calls Try.prog 4 #[.agg #[.int .i64 tp, .int .i64 tn, .int .i64 tm, .int .i64 tk, .slice tA tq.length tc], .int .i64 i, .slice xsA xs.length xsc] w fun e w' => e = .returned (.bool true) ∧ Below w.heap.size w w' := by
  have hcode : (code != code) = false := by simp
  go_enter Try.func4, Try.ntmps4
  by_cases hL_xs : (1048576 : Int) < (xs.length : Int)
  · go_wp2_with (refine wpList_abs1 ?_; intro w0 hsz0 hB0 ha0; have hK : KA w [(w.heap.size, .cells #[.int .i64 tp, .int .i64 tn, .int .i64 tm, .int .i64 tk, .slice tA tq.length tc] 24 (0, 0))] w0 := ⟨hB0, by intro b hb; simp only [List.mem_cons, List.not_mem_nil, or_false] at hb; rcases hb with rfl; exact ha0⟩; have z0 : w.heap.size + 1 ≤ w0.heap.size := Nat.le_of_eq hsz0.symm; clear hB0 hsz0 ha0)
    go_ret
    exact ⟨rfl, hK.below⟩
  go_wp2_with (first | (refine wpList_abs1 ?_; intro w0 hsz0 hB0 ha0; have hK : KA w [(w.heap.size, .cells #[.int .i64 tp, .int .i64 tn, .int .i64 tm, .int .i64 tk, .slice tA tq.length tc] 24 (0, 0))] w0 := ⟨hB0, by intro b hb; simp only [List.mem_cons, List.not_mem_nil, or_false] at hb; rcases hb with rfl; exact ha0⟩; have z0 : w.heap.size + 1 ≤ w0.heap.size := Nat.le_of_eq hsz0.symm; clear hB0 hsz0 ha0) | (refine wpList_load_all rfl 24 _ rfl w.heap.size rfl _ _ _ (by exact (hK.box (w.heap.size, .cells #[.int .i64 tp, .int .i64 tn, .int .i64 tm, .int .i64 tk, .slice tA tq.length tc] 24 (0, 0)) (by simp))) Try.underlying24 rfl 5 (by kernel_rfl) rfl ?_))
  refine (szTensor_e tp tn tm tk tA tq.length tc 1048576 _ (by omega) hn_t (by omega)).mono ?_
  rintro e w1 ⟨r1, rfl, hr1, b1⟩
  have z1 : w0.heap.size ≤ w1.heap.size := size_after (Nat.le_refl _) b1
  replace hK := hK.after b1
  clear b1
  rcases hr1 with rfl | ⟨hr1, he1⟩
  · go_wp2_with fail
    go_ret
    exact ⟨rfl, hK.below⟩
  have hg1 : ¬ r1 < 0 := by omega
  have t_t : tq.length ≤ 1048576 := by omega
  have t_xs : xs.length ≤ 1048576 := by omega
  have HSp := Lib.hid (hS t_t t_xs)
  have HIm := Lib.hid (hI t_t t_xs)
  clear hS hI
  have t9R : Hid (∀ i, i < N → (R i).length ≤ 9000000000000000000) := Lib.hid (fun i hi => by have := tot_ge R hi; omega)
  go_wp2_with (refine wpList_load_all rfl 24 _ rfl w.heap.size rfl _ _ _ (by exact (hK.box (w.heap.size, .cells #[.int .i64 tp, .int .i64 tn, .int .i64 tm, .int .i64 tk, .slice tA tq.length tc] 24 (0, 0)) (by simp))) Try.underlying24 rfl 5 (by kernel_rfl) rfl ?_)
  refine (toTensor_c tp tn tm tk tA tc tq _ (hr_t.keep hK.below) t_t).mono ?_
  rintro e w2 ⟨g2, rfl, hg2, h2, b2⟩
  have z2 : w1.heap.size ≤ w2.heap.size := size_after (Nat.le_refl _) b2
  replace hK := hK.after b2
  clear b2
  replace hg2 := Nat.le_trans (Nat.le_refl _) hg2
  go_wp2_with fail
  refine (toInt64S_c xsA xsc xs _ (hm_xs.keep hK.below) t_xs).mono ?_
  rintro e w3 ⟨g3, rfl, hg3, h3, b3⟩
  have z3 : w2.heap.size ≤ w3.heap.size := size_after (Nat.le_refl _) b3
  replace hK := hK.after b3
  replace h2 := h2.after b3
  clear b3
  replace hg3 := Nat.le_trans (Nat.le_refl _) hg3
  go_wp2_with fail
  refine (HSp.out _ _ _ (RdI.of_iar h2) (RdI.of_iar h3)).mono ?_
  rintro e w4 ⟨v4, rfl, o0, b4⟩
  have z4 : w3.heap.size ≤ w4.heap.size := size_after (Nat.le_refl _) b4
  replace hK := hK.after b4
  replace h2 := h2.after b4
  replace h3 := h3.after b4
  clear b4
  clear h2
  clear h3
  obtain ⟨A0, c0, rfl, _⟩ := o0.rd
  replace o0 := o0.mono (Nat.le_refl _) (Nat.le_refl _)
  go_wp2_with (refine wpList_load_all rfl 24 _ rfl w.heap.size rfl _ _ _ (by exact (hK.box (w.heap.size, .cells #[.int .i64 tp, .int .i64 tn, .int .i64 tm, .int .i64 tk, .slice tA tq.length tc] 24 (0, 0)) (by simp))) Try.underlying24 rfl 5 (by kernel_rfl) rfl ?_)
  refine (toTensor_c tp tn tm tk tA tc tq _ (hr_t.keep hK.below) t_t).mono ?_
  rintro e w5 ⟨g5, rfl, hg5, h5, b5⟩
  have z5 : w4.heap.size ≤ w5.heap.size := size_after (Nat.le_refl _) b5
  replace hK := hK.after b5
  replace o0 := o0.below b5
  clear b5
  replace hg5 := Nat.le_trans (Nat.le_refl _) hg5
  have oh5 := OwnI.of_at h5 hg5 t_t
  have ioh5 := oh5.inn
  clear h5
  have bx := below1 w5 (.cells #[.int .i64 tp, .int .i64 tn, .int .i64 tm, .int .i64 tk, .slice (some ⟨g5, 0, none⟩) tq.length tq.length] 29 (0, 0))
  replace hK := hK.after bx
  replace o0 := o0.below bx
  replace oh5 := oh5.below bx
  have hx := al1_0 w5 (.cells #[.int .i64 tp, .int .i64 tn, .int .i64 tm, .int .i64 tk, .slice (some ⟨g5, 0, none⟩) tq.length tq.length] 29 (0, 0))
  replace hK : KA w [(w5.heap.size, .cells #[.int .i64 tp, .int .i64 tn, .int .i64 tm, .int .i64 tk, .slice (some ⟨g5, 0, none⟩) tq.length tq.length] 29 (0, 0)), (w.heap.size, .cells #[.int .i64 tp, .int .i64 tn, .int .i64 tm, .int .i64 tk, .slice tA tq.length tc] 24 (0, 0))] _ := hK.more hx
  clear bx hx
  go_wp2_with fail
  refine (toInt64S_c xsA xsc xs _ (hm_xs.keep hK.below) t_xs).mono ?_
  rintro e w7 ⟨g7, rfl, hg7, h7, b7⟩
  have z7 : w5.heap.size + 1 ≤ w7.heap.size := size_after (Nat.le_of_eq (size_al1 w5 (.cells #[.int .i64 tp, .int .i64 tn, .int .i64 tm, .int .i64 tk, .slice (some ⟨g5, 0, none⟩) tq.length tq.length] 29 (0, 0))).symm) b7
  replace hK := hK.after b7
  replace o0 := o0.below b7
  replace oh5 := oh5.below b7
  clear b7
  replace hg7 := Nat.le_trans (Nat.le_of_eq (size_al1 w5 (.cells #[.int .i64 tp, .int .i64 tn, .int .i64 tm, .int .i64 tk, .slice (some ⟨g5, 0, none⟩) tq.length tq.length] 29 (0, 0))).symm) hg7
  have oh7 := OwnI.of_at h7 hg7 t_xs
  have ioh7 := oh7.inn
  clear h7
  go_wp2_with (refine wpList_load_all rfl 29 _ rfl w5.heap.size rfl _ _ _ (by exact (hK.box (w5.heap.size, .cells #[.int .i64 tp, .int .i64 tn, .int .i64 tm, .int .i64 tk, .slice (some ⟨g5, 0, none⟩) tq.length tq.length] 29 (0, 0)) (by simp))) Try.underlying29 rfl 5 (by kernel_rfl) rfl ?_)
  refine (HIm.out _ _ _ (oh5.rd') (oh7.rd')).mono ?_
  rintro e w8 ⟨v8, rfl, o1, b8⟩
  have z8 : w7.heap.size ≤ w8.heap.size := size_after (Nat.le_refl _) b8
  replace hK := hK.after b8
  replace o0 := o0.below b8
  replace oh5 := oh5.below b8
  replace oh7 := oh7.below b8
  clear b8
  obtain ⟨A1, c1, rfl, _⟩ := o1.rd
  replace o1 := o1.mono (Nat.le_refl _) (Nat.le_refl _)
  go_wp2_with fail
  refine (eqInt64SS_c _ _ _ _ N R _ (o1.rd') (o0.rd') (by omega) t9R.out).mono ?_
  rintro e w9 ⟨rfl, b9⟩
  have z9 : w8.heap.size ≤ w9.heap.size := size_after (Nat.le_refl _) b9
  replace hK := hK.after b9
  replace o0 := o0.below b9
  replace oh5 := oh5.below b9
  replace oh7 := oh7.below b9
  replace o1 := o1.below b9
  clear b9
  go_wp2_with fail
  refine wp_region_held (S := fun w' => ∀ b ∈ ([(w5.heap.size, .cells #[.int .i64 tp, .int .i64 tn, .int .i64 tm, .int .i64 tk, .slice (some ⟨g5, 0, none⟩) tq.length tq.length] 29 (0, 0)), (w.heap.size, .cells #[.int .i64 tp, .int .i64 tn, .int .i64 tm, .int .i64 tk, .slice tA tq.length tc] 24 (0, 0))] : List (Nat × Obj)), At w' b.1 b.2) (by kernel_rfl) ?_
  change wpAnyH _ _ _ _ _ _ _ _ (World.drew _)
  obtain ⟨w10, hw10, hK, o0, oh5, oh7, o1, z10⟩ : ∃ W, W = World.drew _ ∧ KA w [(w5.heap.size, .cells #[.int .i64 tp, .int .i64 tn, .int .i64 tm, .int .i64 tk, .slice (some ⟨g5, 0, none⟩) tq.length tq.length] 29 (0, 0)), (w.heap.size, .cells #[.int .i64 tp, .int .i64 tn, .int .i64 tm, .int .i64 tk, .slice tA tq.length tc] 24 (0, 0))] W ∧ OwnV W (w3.heap.size) w4.heap.size (.slice A0 N c0) N R ∧ OwnI W (w4.heap.size) (.slice (some ⟨g5, 0, none⟩) tq.length tq.length) tq ∧ OwnI W (w5.heap.size + 1) (.slice (some ⟨g7, 0, none⟩) xs.length xs.length) xs ∧ OwnR W (w7.heap.size) w8.heap.size (.slice A1 N c1) N R ∧ w9.heap.size ≤ W.heap.size := ⟨_, rfl, hK.drew, o0.drewN 1, oh5, oh7, o1.drewN 1, Nat.le_refl _⟩
  rw [← hw10]
  clear hw10
  refine held_yield 0 (some 56) (.agg #[.int .i64 tp, .int .i64 tn, .int .i64 tm, .int .i64 tk, .slice (some ⟨g5, 0, none⟩) tq.length tq.length]) rfl (by kernel_rfl) (by kernel_rfl) (by kernel_rfl) (fun _ _ _ h => h) rfl rfl hK.box (fun w' h' => exec_load_all 29 _ rfl w5.heap.size rfl _ _ _ (h' (w5.heap.size, .cells #[.int .i64 tp, .int .i64 tn, .int .i64 tm, .int .i64 tk, .slice (some ⟨g5, 0, none⟩) tq.length tq.length] 29 (0, 0)) (by simp)) Try.underlying29 rfl 5 (by kernel_rfl) rfl) ?_
  go_frame
  refine held_yield 1 (some 57) (.agg #[.int .i64 tp, .int .i64 tn, .int .i64 tm, .int .i64 tk, .slice tA tq.length tc]) rfl (by kernel_rfl) (by kernel_rfl) (by kernel_rfl) (fun _ _ _ h => h) rfl rfl hK.box (fun w' h' => exec_load_all 24 _ rfl w.heap.size rfl _ _ _ (h' (w.heap.size, .cells #[.int .i64 tp, .int .i64 tn, .int .i64 tm, .int .i64 tk, .slice tA tq.length tc] 24 (0, 0)) (by simp)) Try.underlying24 rfl 5 (by kernel_rfl) rfl) ?_
  go_frame
  refine held_oper 2 (by kernel_rfl) rfl rfl (fun K' hK' => ?_)
  refine wp_call1 (some 58) rfl 8 _ _ rfl (fun args w => by kernel_rfl) _ rfl _ (toTensor_c tp tn tm tk tA tc tq _ (hr_t.keep hK.below) t_t) (fun e w11 h => ?_)
  obtain ⟨g11, rfl, hg11, h11, b11⟩ := h
  have z11 : w10.heap.size ≤ w11.heap.size := size_after (Nat.le_refl _) b11
  replace hK := hK.after b11
  replace o0 := o0.below b11
  replace oh5 := oh5.below b11
  replace oh7 := oh7.below b11
  replace o1 := o1.below b11
  clear b11
  replace hg11 := Nat.le_trans (Nat.le_refl _) hg11
  refine ⟨_, rfl, hK' _ _ hK.box ?_⟩
  clear hK' K'
  go_frame
  refine held_oper 3 (by kernel_rfl) rfl rfl (fun K' hK' => ?_)
  refine wp_call2 (some 59) rfl 11 _ _ _ rfl (fun args w => by kernel_rfl) _ _ rfl rfl _ (eqTensor_c tp tn tm tk _ _ _ _ tq _ (oh5.rd') (RdI.of_iar h11) (by omega)) (fun e w12 h => ?_)
  obtain ⟨rfl, b12⟩ := h
  have z12 : w11.heap.size ≤ w12.heap.size := size_after (Nat.le_refl _) b12
  replace hK := hK.after b12
  replace o0 := o0.below b12
  replace oh5 := oh5.below b12
  replace oh7 := oh7.below b12
  replace o1 := o1.below b12
  replace h11 := h11.after b12
  clear b12
  clear h11
  refine ⟨_, rfl, hK' _ _ hK.box ?_⟩
  clear hK' K'
  go_frame
  refine held_exec 4 (some 60) (.bool false) (by kernel_rfl) rfl rfl rfl (exec_not 4 _ rfl true rfl) hK.box ?_
  go_frame
  refine wpAnyH_done (by kernel_rfl) ?_ _
  go_wp2_with fail
  refine (toInt64S_c xsA xsc xs _ (hm_xs.keep hK.below) t_xs).mono ?_
  rintro e w13 ⟨g13, rfl, hg13, h13, b13⟩
  have z13 : w12.heap.size ≤ w13.heap.size := size_after (Nat.le_refl _) b13
  replace hK := hK.after b13
  replace o0 := o0.below b13
  replace oh5 := oh5.below b13
  replace oh7 := oh7.below b13
  replace o1 := o1.below b13
  clear b13
  replace hg13 := Nat.le_trans (Nat.le_refl _) hg13
  go_wp2_with fail
  refine (eqInt64S_c _ _ _ _ xs _ (oh7.rd') (RdI.of_iar h13) (by omega)).mono ?_
  rintro e w14 ⟨rfl, b14⟩
  have z14 : w13.heap.size ≤ w14.heap.size := size_after (Nat.le_refl _) b14
  replace hK := hK.after b14
  replace o0 := o0.below b14
  replace oh5 := oh5.below b14
  replace oh7 := oh7.below b14
  replace o1 := o1.below b14
  replace h13 := h13.after b14
  clear b14
  clear h13
  go_wp2_with (refine wpList_load_all rfl 29 _ rfl w5.heap.size rfl _ _ _ (by exact (hK.box (w5.heap.size, .cells #[.int .i64 tp, .int .i64 tn, .int .i64 tm, .int .i64 tk, .slice (some ⟨g5, 0, none⟩) tq.length tq.length] 29 (0, 0)) (by simp))) Try.underlying29 rfl 5 (by kernel_rfl) rfl ?_)
  refine (markTensor_2 tp tn tm tk (1) _ _ (by simp) oh5 t_t (by omega)).mono ?_
  rintro e w15 ⟨rfl, hG, hH⟩
  have S15 := Same.of_in hG ioh5
  have z15 : w14.heap.size ≤ w15.heap.size := Nat.le_trans (Nat.le_refl _) S15.size
  replace hK := hK.same S15 (by omega) (by intro b hb; simp only [List.mem_cons, List.not_mem_nil, or_false] at hb; rcases hb with rfl | rfl <;> (dsimp only; omega))
  replace o0 := o0.same S15 (by omega)
  replace oh7 := oh7.same ioh7 S15 (by omega)
  replace o1 := o1.same S15 (by omega)
  clear S15 hG
  clear hH
  clear oh5
  go_wp2_with fail
  refine (markInt64S_2 (1 + tq.length) _ _ (by simp) oh7 t_xs (by omega)).mono ?_
  rintro e w16 ⟨rfl, hG, hH⟩
  have S16 := Same.of_in hG ioh7
  have z16 : w15.heap.size ≤ w16.heap.size := Nat.le_trans (Nat.le_refl _) S16.size
  replace hK := hK.same S16 (by omega) (by intro b hb; simp only [List.mem_cons, List.not_mem_nil, or_false] at hb; rcases hb with rfl | rfl <;> (dsimp only; omega))
  replace o0 := o0.same S16 (by omega)
  replace o1 := o1.same S16 (by omega)
  clear S16 hG
  clear hH
  clear oh7
  go_wp2_with fail
  refine (eqInt64SS_c _ _ _ _ N R _ (o1.rd') (o0.rd') (by omega) t9R.out).mono ?_
  rintro e w17 ⟨rfl, b17⟩
  have z17 : w16.heap.size ≤ w17.heap.size := size_after (Nat.le_refl _) b17
  replace hK := hK.after b17
  replace o0 := o0.below b17
  replace o1 := o1.below b17
  clear b17
  go_wp2_with fail
  have hneg18 : ¬ (1 : Int) + ((tot R N : Nat) : Int) < 0 := by omega
  refine (markR_2 (1) _ N R _ (by simp) o1 hrl (by omega)).mono ?_
  rintro e w18 ⟨rfl, hH, S18⟩
  have z18 : w17.heap.size ≤ w18.heap.size := Nat.le_trans (Nat.le_refl _) S18.size
  replace hK := hK.same S18 (by omega) (by intro b hb; simp only [List.mem_cons, List.not_mem_nil, or_false] at hb; rcases hb with rfl | rfl <;> (dsimp only; omega))
  replace o0 := o0.same S18 (by omega)
  clear S18
  clear o1
  go_wp2_with fail
  refine (heldR_2 N R _ hH hrl).mono ?_
  rintro e w19 ⟨rfl, rfl⟩
  go_wp2_with (refine wpList_load_all rfl 24 _ rfl w.heap.size rfl _ _ _ (by exact (hK.box (w.heap.size, .cells #[.int .i64 tp, .int .i64 tn, .int .i64 tm, .int .i64 tk, .slice tA tq.length tc] 24 (0, 0)) (by simp))) Try.underlying24 rfl 5 (by kernel_rfl) rfl ?_)
  refine (toTensor_c tp tn tm tk tA tc tq _ (hr_t.keep hK.below) t_t).mono ?_
  rintro e w20 ⟨g20, rfl, hg20, h20, b20⟩
  have z20 : w18.heap.size ≤ w20.heap.size := size_after (Nat.le_refl _) b20
  replace hK := hK.after b20
  replace o0 := o0.below b20
  replace hH := hH.below b20
  clear b20
  replace hg20 := Nat.le_trans (Nat.le_refl _) hg20
  go_wp2_with fail
  refine (toInt64S_c xsA xsc xs _ (hm_xs.keep hK.below) t_xs).mono ?_
  rintro e w21 ⟨g21, rfl, hg21, h21, b21⟩
  have z21 : w20.heap.size ≤ w21.heap.size := size_after (Nat.le_refl _) b21
  replace hK := hK.after b21
  replace o0 := o0.below b21
  replace hH := hH.below b21
  replace h20 := h20.after b21
  clear b21
  replace hg21 := Nat.le_trans (Nat.le_refl _) hg21
  go_wp2_with fail
  refine (HIm.out _ _ _ (RdI.of_iar h20) (RdI.of_iar h21)).mono ?_
  rintro e w22 ⟨v22, rfl, o2, b22⟩
  have z22 : w21.heap.size ≤ w22.heap.size := size_after (Nat.le_refl _) b22
  replace hK := hK.after b22
  replace o0 := o0.below b22
  replace hH := hH.below b22
  replace h20 := h20.after b22
  replace h21 := h21.after b22
  clear b22
  clear h20
  clear h21
  obtain ⟨A2, c2, rfl, _⟩ := o2.rd
  replace o2 := o2.mono (Nat.le_refl _) (Nat.le_refl _)
  go_wp2_with fail
  refine (eqInt64SS_c _ _ _ _ N R _ (o2.rd') (o0.rd') (by omega) t9R.out).mono ?_
  rintro e w23 ⟨rfl, b23⟩
  have z23 : w22.heap.size ≤ w23.heap.size := size_after (Nat.le_refl _) b23
  replace hK := hK.after b23
  replace o0 := o0.below b23
  replace hH := hH.below b23
  replace o2 := o2.below b23
  clear b23
  clear o2 o0
  go_wp2_with fail
  refine (heldR_2 N R _ hH hrl).mono ?_
  rintro e w24 ⟨rfl, rfl⟩
  go_wp2_with fail
  go_ret
  exact ⟨rfl, hK.below⟩
end Go.Proofs.Ytolgfpcadfjliaa
