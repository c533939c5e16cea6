/-
  laws.FnExactMakeProduct: the walk: it returns true and writes nothing that was there. (Made by genlaw2.py.)
-/
import Derived.Test.YtpoekhpchhmkaaaMat1
namespace Go.Proofs.Ytpoekhpchhmkaaa
open Go.RowKit
set_option maxRecDepth 100000
set_option maxHeartbeats 6400000 in
theorem lawMakeProduct_walk (xp xn xm xk : Int) (xA : Option Addr) (xc : Nat) (xq : List (List Nat)) (lA : Option Addr) (lc ln : Nat) (l : Nat → List Int) (yA : Option Addr) (yc yn : Nat) (y : Nat → List Int) (N : Nat) (R : Nat → List Int) (code : Int) (w : World) (hr_x : Rd w xA xq) (hn_x : xq.length ≤ 9223372036854775807) (hm_l : RdM w lA ln l) (hn_l : ln ≤ 9223372036854775807) (hl_l : ∀ i, i < ln → (l i).length ≤ 9223372036854775807) (hm_y : RdM w yA yn y) (hn_y : yn ≤ 9223372036854775807) (hl_y : ∀ i, i < yn → (y i).length ≤ 9223372036854775807) (hrl : N + tot R N ≤ 1048576)
    (hS : (xq.length ≤ 1048576 → ln + tot l ln ≤ 1048576 → yn + tot y yn ≤ 1048576 → ∀ (gx : Nat) (Al : Option Addr) (cl : Nat) (Ay : Option Addr) (cy : Nat) (w : World), Rd w (some ⟨gx, 0, none⟩) xq → RdM w Al ln l → RdM w Ay yn y → Calls Try.prog 18 #[.agg #[.int .i64 xp, .int .i64 xn, .int .i64 xm, .int .i64 xk, .slice (some ⟨gx, 0, none⟩) xq.length xq.length], .slice Al ln cl, .slice Ay yn cy] w (ResM w N R code)))
    (hI : (xq.length ≤ 1048576 → ln + tot l ln ≤ 1048576 → yn + tot y yn ≤ 1048576 → ∀ (gx : Nat) (Al : Option Addr) (cl : Nat) (Ay : Option Addr) (cy : Nat) (w : World), Rd w (some ⟨gx, 0, none⟩) xq → RdM w Al ln l → RdM w Ay yn y → Calls Try.prog 20 #[.agg #[.int .i64 xp, .int .i64 xn, .int .i64 xm, .int .i64 xk, .slice (some ⟨gx, 0, none⟩) xq.length xq.length], .slice Al ln cl, .slice Ay yn cy] w (ResM w N R code))) :
    Calls Try.prog 5 #[.agg #[.int .i64 xp, .int .i64 xn, .int .i64 xm, .int .i64 xk, .slice xA xq.length xc], .slice lA ln lc, .slice yA yn yc] w fun e w' => e = .returned (.bool true) ∧ Below w.heap.size w w' := by
  have hcode : (code != code) = false := by simp
  go_enter Try.func5, Try.ntmps5
  go_wp2_with (first | (refine wpList_abs1 ?_; intro w0 hsz0 hB0 ha0; have hK : KA w [(w.heap.size, .cells #[.int .i64 xp, .int .i64 xn, .int .i64 xm, .int .i64 xk, .slice xA xq.length xc] 24 (0, 0))] w0 := ⟨hB0, by intro b hb; simp only [List.mem_cons, List.not_mem_nil, or_false] at hb; rcases hb with rfl; exact ha0⟩; have z0 : w.heap.size + 1 ≤ w0.heap.size := Nat.le_of_eq hsz0.symm; clear hB0 hsz0 ha0) | (refine wpList_load_all rfl 24 _ rfl w.heap.size rfl _ _ _ (by exact (hK.box (w.heap.size, .cells #[.int .i64 xp, .int .i64 xn, .int .i64 xm, .int .i64 xk, .slice xA xq.length xc] 24 (0, 0)) (by simp))) Try.underlying24 rfl 5 (by kernel_rfl) rfl ?_))
  refine (szScheme_e xp xn xm xk xA xq.length xc 1048576 _ (by omega) hn_x (by omega)).mono ?_
  rintro e w1 ⟨r1, rfl, hr1, b1⟩
  have z1 : w0.heap.size ≤ w1.heap.size := size_after (Nat.le_refl _) b1
  replace hK := hK.after b1
  clear b1
  rcases hr1 with rfl | ⟨hr1, he1⟩
  · go_wp2_with fail
    go_ret
    exact ⟨rfl, hK.below⟩
  have hg1 : ¬ r1 < 0 := by omega
  go_wp2_with fail
  refine (szInt64SS_c lA ln lc l r1 _ (hm_l.keep hK.below) (by omega) hn_l hl_l (by omega)).mono ?_
  rintro e w2 ⟨r2, rfl, hr2, hw2⟩
  subst hw2
  rcases hr2 with rfl | ⟨hr2, he2⟩
  · go_wp2_with fail
    go_ret
    exact ⟨rfl, hK.below⟩
  have hg2 : ¬ r2 < 0 := by omega
  go_wp2_with fail
  refine (szInt64SS_c yA yn yc y r2 _ (hm_y.keep hK.below) (by omega) hn_y hl_y (by omega)).mono ?_
  rintro e w3 ⟨r3, rfl, hr3, hw3⟩
  subst hw3
  rcases hr3 with rfl | ⟨hr3, he3⟩
  · go_wp2_with fail
    go_ret
    exact ⟨rfl, hK.below⟩
  have hg3 : ¬ r3 < 0 := by omega
  have t_x : xq.length ≤ 1048576 := by omega
  have t_l : ln + tot l ln ≤ 1048576 := by omega
  have tl_l : Hid (∀ i, i < ln → (l i).length ≤ 1048576) := Lib.hid (fun i hi => by have := tot_ge l hi; omega)
  have t9_l : Hid (∀ i, i < ln → (l i).length ≤ 9000000000000000000) := Lib.hid (fun i hi => by have := tot_ge l hi; omega)
  have t_y : yn + tot y yn ≤ 1048576 := by omega
  have tl_y : Hid (∀ i, i < yn → (y i).length ≤ 1048576) := Lib.hid (fun i hi => by have := tot_ge y hi; omega)
  have t9_y : Hid (∀ i, i < yn → (y i).length ≤ 9000000000000000000) := Lib.hid (fun i hi => by have := tot_ge y hi; omega)
  have HSp := Lib.hid (hS t_x t_l t_y)
  have HIm := Lib.hid (hI t_x t_l t_y)
  clear hS hI
  have t9R : Hid (∀ i, i < N → (R i).length ≤ 9000000000000000000) := Lib.hid (fun i hi => by have := tot_ge R hi; omega)
  clear hl_l hl_y
  go_wp2_with (refine wpList_load_all rfl 24 _ rfl w.heap.size rfl _ _ _ (by exact (hK.box (w.heap.size, .cells #[.int .i64 xp, .int .i64 xn, .int .i64 xm, .int .i64 xk, .slice xA xq.length xc] 24 (0, 0)) (by simp))) Try.underlying24 rfl 5 (by kernel_rfl) rfl ?_)
  refine (toScheme_c xp xn xm xk xA xc xq _ (hr_x.keep hK.below) t_x).mono ?_
  rintro e w4 ⟨g4, rfl, hg4, h4, b4⟩
  have z4 : w1.heap.size ≤ w4.heap.size := size_after (Nat.le_refl _) b4
  replace hK := hK.after b4
  clear b4
  replace hg4 := Nat.le_trans (Nat.le_refl _) hg4
  go_wp2_with fail
  refine (toInt64SS_c lA lc ln l _ (hm_l.keep hK.below) (by omega) tl_l.out).mono ?_
  rintro e w5 ⟨v5, rfl, h5, b5⟩
  have z5 : w4.heap.size ≤ w5.heap.size := size_after (Nat.le_refl _) b5
  replace hK := hK.after b5
  replace h4 := h4.after b5
  clear b5
  obtain ⟨A5, c5, rfl, _⟩ := h5.rd
  replace h5 := h5.mono (Nat.le_refl _) (Nat.le_refl _)
  go_wp2_with fail
  refine (toInt64SS_c yA yc yn y _ (hm_y.keep hK.below) (by omega) tl_y.out).mono ?_
  rintro e w6 ⟨v6, rfl, h6, b6⟩
  have z6 : w5.heap.size ≤ w6.heap.size := size_after (Nat.le_refl _) b6
  replace hK := hK.after b6
  replace h4 := h4.after b6
  replace h5 := h5.below b6
  clear b6
  obtain ⟨A6, c6, rfl, _⟩ := h6.rd
  replace h6 := h6.mono (Nat.le_refl _) (Nat.le_refl _)
  go_wp2_with fail
  refine (HSp.out _ _ _ _ _ _ (Rd.of_at h4 hr_x.good) (h5.rd') (h6.rd')).mono ?_
  rintro e w7 ⟨v7, rfl, o0, b7⟩
  have z7 : w6.heap.size ≤ w7.heap.size := size_after (Nat.le_refl _) b7
  replace hK := hK.after b7
  replace h4 := h4.after b7
  replace h5 := h5.below b7
  replace h6 := h6.below b7
  clear b7
  clear h4
  clear h5
  clear h6
  obtain ⟨A0, c0, rfl, _⟩ := o0.rd
  replace o0 := o0.mono (Nat.le_refl _) (Nat.le_refl _)
  go_wp2_with (refine wpList_load_all rfl 24 _ rfl w.heap.size rfl _ _ _ (by exact (hK.box (w.heap.size, .cells #[.int .i64 xp, .int .i64 xn, .int .i64 xm, .int .i64 xk, .slice xA xq.length xc] 24 (0, 0)) (by simp))) Try.underlying24 rfl 5 (by kernel_rfl) rfl ?_)
  refine (toScheme_c xp xn xm xk xA xc xq _ (hr_x.keep hK.below) t_x).mono ?_
  rintro e w8 ⟨g8, rfl, hg8, h8, b8⟩
  have z8 : w7.heap.size ≤ w8.heap.size := size_after (Nat.le_refl _) b8
  replace hK := hK.after b8
  replace o0 := o0.below b8
  clear b8
  replace hg8 := Nat.le_trans (Nat.le_refl _) hg8
  have oh8 := Own.of_at h8 hr_x.len hg8 t_x
  have ioh8 := oh8.inn
  clear h8
  have bx := below1 w8 (.cells #[.int .i64 xp, .int .i64 xn, .int .i64 xm, .int .i64 xk, .slice (some ⟨g8, 0, none⟩) xq.length xq.length] 31 (0, 0))
  replace hK := hK.after bx
  replace o0 := o0.below bx
  replace oh8 := oh8.below bx
  have hx := al1_0 w8 (.cells #[.int .i64 xp, .int .i64 xn, .int .i64 xm, .int .i64 xk, .slice (some ⟨g8, 0, none⟩) xq.length xq.length] 31 (0, 0))
  replace hK : KA w [(w8.heap.size, .cells #[.int .i64 xp, .int .i64 xn, .int .i64 xm, .int .i64 xk, .slice (some ⟨g8, 0, none⟩) xq.length xq.length] 31 (0, 0)), (w.heap.size, .cells #[.int .i64 xp, .int .i64 xn, .int .i64 xm, .int .i64 xk, .slice xA xq.length xc] 24 (0, 0))] _ := hK.more hx
  clear bx hx
  go_wp2_with fail
  refine (toInt64SS_c lA lc ln l _ (hm_l.keep hK.below) (by omega) tl_l.out).mono ?_
  rintro e w10 ⟨v10, rfl, h10, b10⟩
  have z10 : w8.heap.size + 1 ≤ w10.heap.size := size_after (Nat.le_of_eq (size_al1 w8 (.cells #[.int .i64 xp, .int .i64 xn, .int .i64 xm, .int .i64 xk, .slice (some ⟨g8, 0, none⟩) xq.length xq.length] 31 (0, 0))).symm) b10
  replace hK := hK.after b10
  replace o0 := o0.below b10
  replace oh8 := oh8.below b10
  clear b10
  obtain ⟨A10, c10, rfl, _⟩ := h10.rd
  replace h10 := h10.mono (Nat.le_of_eq (size_al1 w8 (.cells #[.int .i64 xp, .int .i64 xn, .int .i64 xm, .int .i64 xk, .slice (some ⟨g8, 0, none⟩) xq.length xq.length] 31 (0, 0))).symm) (Nat.le_refl _)
  go_wp2_with fail
  refine (toInt64SS_c yA yc yn y _ (hm_y.keep hK.below) (by omega) tl_y.out).mono ?_
  rintro e w11 ⟨v11, rfl, h11, b11⟩
  have z11 : w10.heap.size ≤ w11.heap.size := size_after (Nat.le_refl _) b11
  replace hK := hK.after b11
  replace o0 := o0.below b11
  replace oh8 := oh8.below b11
  replace h10 := h10.below b11
  clear b11
  obtain ⟨A11, c11, rfl, _⟩ := h11.rd
  replace h11 := h11.mono (Nat.le_refl _) (Nat.le_refl _)
  go_wp2_with (refine wpList_load_all rfl 31 _ rfl w8.heap.size rfl _ _ _ (by exact (hK.box (w8.heap.size, .cells #[.int .i64 xp, .int .i64 xn, .int .i64 xm, .int .i64 xk, .slice (some ⟨g8, 0, none⟩) xq.length xq.length] 31 (0, 0)) (by simp))) Try.underlying31 rfl 5 (by kernel_rfl) rfl ?_)
  refine (HIm.out _ _ _ _ _ _ (oh8.rd' hr_x.good) (h10.rd') (h11.rd')).mono ?_
  rintro e w12 ⟨v12, rfl, o1, b12⟩
  have z12 : w11.heap.size ≤ w12.heap.size := size_after (Nat.le_refl _) b12
  replace hK := hK.after b12
  replace o0 := o0.below b12
  replace oh8 := oh8.below b12
  replace h10 := h10.below b12
  replace h11 := h11.below b12
  clear b12
  obtain ⟨A1, c1, rfl, _⟩ := o1.rd
  replace o1 := o1.mono (Nat.le_refl _) (Nat.le_refl _)
  go_wp2_with fail
  refine (eqInt64SS_c _ _ _ _ N R _ (o1.rd') (o0.rd') (by omega) t9R.out).mono ?_
  rintro e w13 ⟨rfl, b13⟩
  have z13 : w12.heap.size ≤ w13.heap.size := size_after (Nat.le_refl _) b13
  replace hK := hK.after b13
  replace o0 := o0.below b13
  replace oh8 := oh8.below b13
  replace h10 := h10.below b13
  replace h11 := h11.below b13
  replace o1 := o1.below b13
  clear b13
  go_wp2_with fail
  refine wp_region_held (S := fun w' => ∀ b ∈ ([(w8.heap.size, .cells #[.int .i64 xp, .int .i64 xn, .int .i64 xm, .int .i64 xk, .slice (some ⟨g8, 0, none⟩) xq.length xq.length] 31 (0, 0)), (w.heap.size, .cells #[.int .i64 xp, .int .i64 xn, .int .i64 xm, .int .i64 xk, .slice xA xq.length xc] 24 (0, 0))] : List (Nat × Obj)), At w' b.1 b.2) (by kernel_rfl) ?_
  change wpAnyH _ _ _ _ _ _ _ _ (World.drew _)
  obtain ⟨w14, hw14, hK, o0, oh8, h10, h11, o1, z14⟩ : ∃ W, W = World.drew _ ∧ KA w [(w8.heap.size, .cells #[.int .i64 xp, .int .i64 xn, .int .i64 xm, .int .i64 xk, .slice (some ⟨g8, 0, none⟩) xq.length xq.length] 31 (0, 0)), (w.heap.size, .cells #[.int .i64 xp, .int .i64 xn, .int .i64 xm, .int .i64 xk, .slice xA xq.length xc] 24 (0, 0))] W ∧ OwnM W (w6.heap.size) w7.heap.size (.slice A0 N c0) N R ∧ Own W (w7.heap.size) (.slice (some ⟨g8, 0, none⟩) xq.length xq.length) xq ∧ OwnM W (w8.heap.size + 1) w10.heap.size (.slice A10 ln c10) ln l ∧ OwnM W (w10.heap.size) w11.heap.size (.slice A11 yn c11) yn y ∧ OwnM W (w11.heap.size) w12.heap.size (.slice A1 N c1) N R ∧ w13.heap.size ≤ W.heap.size := ⟨_, rfl, hK.drew, o0.drewN 1, oh8.drew, h10.drewN 1, h11.drewN 1, o1.drewN 1, Nat.le_refl _⟩
  rw [← hw14]
  clear hw14
  refine held_yield 0 (some 67) (.agg #[.int .i64 xp, .int .i64 xn, .int .i64 xm, .int .i64 xk, .slice (some ⟨g8, 0, none⟩) xq.length xq.length]) rfl (by kernel_rfl) (by kernel_rfl) (by kernel_rfl) (fun _ _ _ h => h) rfl rfl hK.box (fun w' h' => exec_load_all 31 _ rfl w8.heap.size rfl _ _ _ (h' (w8.heap.size, .cells #[.int .i64 xp, .int .i64 xn, .int .i64 xm, .int .i64 xk, .slice (some ⟨g8, 0, none⟩) xq.length xq.length] 31 (0, 0)) (by simp)) Try.underlying31 rfl 5 (by kernel_rfl) rfl) ?_
  go_frame
  refine held_yield 1 (some 68) (.agg #[.int .i64 xp, .int .i64 xn, .int .i64 xm, .int .i64 xk, .slice xA xq.length xc]) rfl (by kernel_rfl) (by kernel_rfl) (by kernel_rfl) (fun _ _ _ h => h) rfl rfl hK.box (fun w' h' => exec_load_all 24 _ rfl w.heap.size rfl _ _ _ (h' (w.heap.size, .cells #[.int .i64 xp, .int .i64 xn, .int .i64 xm, .int .i64 xk, .slice xA xq.length xc] 24 (0, 0)) (by simp)) Try.underlying24 rfl 5 (by kernel_rfl) rfl) ?_
  go_frame
  refine held_oper 2 (by kernel_rfl) rfl rfl (fun K' hK' => ?_)
  refine wp_call1 (some 69) rfl 9 _ _ rfl (fun args w => by kernel_rfl) _ rfl _ (toScheme_c xp xn xm xk xA xc xq _ (hr_x.keep hK.below) t_x) (fun e w15 h => ?_)
  obtain ⟨g15, rfl, hg15, h15, b15⟩ := h
  have z15 : w14.heap.size ≤ w15.heap.size := size_after (Nat.le_refl _) b15
  replace hK := hK.after b15
  replace o0 := o0.below b15
  replace oh8 := oh8.below b15
  replace h10 := h10.below b15
  replace h11 := h11.below b15
  replace o1 := o1.below b15
  clear b15
  replace hg15 := Nat.le_trans (Nat.le_refl _) hg15
  refine ⟨_, rfl, hK' _ _ hK.box ?_⟩
  clear hK' K'
  go_frame
  refine held_oper 3 (by kernel_rfl) rfl rfl (fun K' hK' => ?_)
  refine wp_call2 (some 70) rfl 12 _ _ _ rfl (fun args w => by kernel_rfl) _ _ rfl rfl _ (eqScheme_c xp xn xm xk _ _ _ _ xq _ (oh8.rd' hr_x.good) (Rd.of_at h15 hr_x.good) (by omega)) (fun e w16 h => ?_)
  obtain ⟨rfl, b16⟩ := h
  have z16 : w15.heap.size ≤ w16.heap.size := size_after (Nat.le_refl _) b16
  replace hK := hK.after b16
  replace o0 := o0.below b16
  replace oh8 := oh8.below b16
  replace h10 := h10.below b16
  replace h11 := h11.below b16
  replace o1 := o1.below b16
  replace h15 := h15.after b16
  clear b16
  clear h15
  refine ⟨_, rfl, hK' _ _ hK.box ?_⟩
  clear hK' K'
  go_frame
  refine held_exec 4 (some 71) (.bool false) (by kernel_rfl) rfl rfl rfl (exec_not 4 _ rfl true rfl) hK.box ?_
  go_frame
  refine wpAnyH_done (by kernel_rfl) ?_ _
  go_wp2_with fail
  refine (toInt64SS_c lA lc ln l _ (hm_l.keep hK.below) (by omega) tl_l.out).mono ?_
  rintro e w17 ⟨v17, rfl, h17, b17⟩
  have z17 : w16.heap.size ≤ w17.heap.size := size_after (Nat.le_refl _) b17
  replace hK := hK.after b17
  replace o0 := o0.below b17
  replace oh8 := oh8.below b17
  replace h10 := h10.below b17
  replace h11 := h11.below b17
  replace o1 := o1.below b17
  clear b17
  obtain ⟨A17, c17, rfl, _⟩ := h17.rd
  replace h17 := h17.mono (Nat.le_refl _) (Nat.le_refl _)
  go_wp2_with fail
  refine (eqInt64SS_c _ _ _ _ ln l _ (h10.rd') (h17.rd') (by omega) t9_l.out).mono ?_
  rintro e w18 ⟨rfl, b18⟩
  have z18 : w17.heap.size ≤ w18.heap.size := size_after (Nat.le_refl _) b18
  replace hK := hK.after b18
  replace o0 := o0.below b18
  replace oh8 := oh8.below b18
  replace h10 := h10.below b18
  replace h11 := h11.below b18
  replace o1 := o1.below b18
  replace h17 := h17.below b18
  clear b18
  clear h17
  go_wp2_with fail
  refine (toInt64SS_c yA yc yn y _ (hm_y.keep hK.below) (by omega) tl_y.out).mono ?_
  rintro e w19 ⟨v19, rfl, h19, b19⟩
  have z19 : w18.heap.size ≤ w19.heap.size := size_after (Nat.le_refl _) b19
  replace hK := hK.after b19
  replace o0 := o0.below b19
  replace oh8 := oh8.below b19
  replace h10 := h10.below b19
  replace h11 := h11.below b19
  replace o1 := o1.below b19
  clear b19
  obtain ⟨A19, c19, rfl, _⟩ := h19.rd
  replace h19 := h19.mono (Nat.le_refl _) (Nat.le_refl _)
  go_wp2_with fail
  refine (eqInt64SS_c _ _ _ _ yn y _ (h11.rd') (h19.rd') (by omega) t9_y.out).mono ?_
  rintro e w20 ⟨rfl, b20⟩
  have z20 : w19.heap.size ≤ w20.heap.size := size_after (Nat.le_refl _) b20
  replace hK := hK.after b20
  replace o0 := o0.below b20
  replace oh8 := oh8.below b20
  replace h10 := h10.below b20
  replace h11 := h11.below b20
  replace o1 := o1.below b20
  replace h19 := h19.below b20
  clear b20
  clear h19
  go_wp2_with (refine wpList_load_all rfl 31 _ rfl w8.heap.size rfl _ _ _ (by exact (hK.box (w8.heap.size, .cells #[.int .i64 xp, .int .i64 xn, .int .i64 xm, .int .i64 xk, .slice (some ⟨g8, 0, none⟩) xq.length xq.length] 31 (0, 0)) (by simp))) Try.underlying31 rfl 5 (by kernel_rfl) rfl ?_)
  refine (markScheme_2 xp xn xm xk (1) _ _ (by simp) oh8 t_x (by omega)).mono ?_
  rintro e w21 ⟨rfl, hG, hH⟩
  have S21 := Same.of_in hG ioh8
  have z21 : w20.heap.size ≤ w21.heap.size := Nat.le_trans (Nat.le_refl _) S21.size
  replace hK := hK.same S21 (by omega) (by intro b hb; simp only [List.mem_cons, List.not_mem_nil, or_false] at hb; rcases hb with rfl | rfl <;> (dsimp only; omega))
  replace o0 := o0.same S21 (by omega)
  replace h10 := h10.same S21 (by omega)
  replace h11 := h11.same S21 (by omega)
  replace o1 := o1.same S21 (by omega)
  clear S21 hG
  clear hH
  clear oh8
  go_wp2_with fail
  refine (markInt64SS_2 (1 + xq.length * 27) _ ln l _ (by simp) h10 t_l (by omega)).mono ?_
  rintro e w22 ⟨rfl, hH, S22⟩
  have z22 : w21.heap.size ≤ w22.heap.size := Nat.le_trans (Nat.le_refl _) S22.size
  replace hK := hK.same S22 (by omega) (by intro b hb; simp only [List.mem_cons, List.not_mem_nil, or_false] at hb; rcases hb with rfl | rfl <;> (dsimp only; omega))
  replace o0 := o0.same S22 (by omega)
  replace h11 := h11.same S22 (by omega)
  replace o1 := o1.same S22 (by omega)
  clear S22
  clear hH
  clear h10
  go_wp2_with fail
  refine (markInt64SS_2 (1 + xq.length * 27 + tot l ln) _ yn y _ (by simp) h11 t_y (by omega)).mono ?_
  rintro e w23 ⟨rfl, hH, S23⟩
  have z23 : w22.heap.size ≤ w23.heap.size := Nat.le_trans (Nat.le_refl _) S23.size
  replace hK := hK.same S23 (by omega) (by intro b hb; simp only [List.mem_cons, List.not_mem_nil, or_false] at hb; rcases hb with rfl | rfl <;> (dsimp only; omega))
  replace o0 := o0.same S23 (by omega)
  replace o1 := o1.same S23 (by omega)
  clear S23
  clear hH
  clear h11
  go_wp2_with fail
  refine (eqInt64SS_c _ _ _ _ N R _ (o1.rd') (o0.rd') (by omega) t9R.out).mono ?_
  rintro e w24 ⟨rfl, b24⟩
  have z24 : w23.heap.size ≤ w24.heap.size := size_after (Nat.le_refl _) b24
  replace hK := hK.after b24
  replace o0 := o0.below b24
  replace o1 := o1.below b24
  clear b24
  go_wp2_with fail
  have hneg25 : ¬ (1 : Int) + ((tot R N : Nat) : Int) < 0 := by omega
  refine (markInt64SS_2 (1) _ N R _ (by simp) o1 hrl (by omega)).mono ?_
  rintro e w25 ⟨rfl, hH, S25⟩
  have z25 : w24.heap.size ≤ w25.heap.size := Nat.le_trans (Nat.le_refl _) S25.size
  replace hK := hK.same S25 (by omega) (by intro b hb; simp only [List.mem_cons, List.not_mem_nil, or_false] at hb; rcases hb with rfl | rfl <;> (dsimp only; omega))
  replace o0 := o0.same S25 (by omega)
  clear S25
  clear o1
  go_wp2_with fail
  refine (heldInt64SS_2 N R _ hH hrl).mono ?_
  rintro e w26 ⟨rfl, rfl⟩
  go_wp2_with (refine wpList_load_all rfl 24 _ rfl w.heap.size rfl _ _ _ (by exact (hK.box (w.heap.size, .cells #[.int .i64 xp, .int .i64 xn, .int .i64 xm, .int .i64 xk, .slice xA xq.length xc] 24 (0, 0)) (by simp))) Try.underlying24 rfl 5 (by kernel_rfl) rfl ?_)
  refine (toScheme_c xp xn xm xk xA xc xq _ (hr_x.keep hK.below) t_x).mono ?_
  rintro e w27 ⟨g27, rfl, hg27, h27, b27⟩
  have z27 : w25.heap.size ≤ w27.heap.size := size_after (Nat.le_refl _) b27
  replace hK := hK.after b27
  replace o0 := o0.below b27
  replace hH := hH.below b27
  clear b27
  replace hg27 := Nat.le_trans (Nat.le_refl _) hg27
  go_wp2_with fail
  refine (toInt64SS_c lA lc ln l _ (hm_l.keep hK.below) (by omega) tl_l.out).mono ?_
  rintro e w28 ⟨v28, rfl, h28, b28⟩
  have z28 : w27.heap.size ≤ w28.heap.size := size_after (Nat.le_refl _) b28
  replace hK := hK.after b28
  replace o0 := o0.below b28
  replace hH := hH.below b28
  replace h27 := h27.after b28
  clear b28
  obtain ⟨A28, c28, rfl, _⟩ := h28.rd
  replace h28 := h28.mono (Nat.le_refl _) (Nat.le_refl _)
  go_wp2_with fail
  refine (toInt64SS_c yA yc yn y _ (hm_y.keep hK.below) (by omega) tl_y.out).mono ?_
  rintro e w29 ⟨v29, rfl, h29, b29⟩
  have z29 : w28.heap.size ≤ w29.heap.size := size_after (Nat.le_refl _) b29
  replace hK := hK.after b29
  replace o0 := o0.below b29
  replace hH := hH.below b29
  replace h27 := h27.after b29
  replace h28 := h28.below b29
  clear b29
  obtain ⟨A29, c29, rfl, _⟩ := h29.rd
  replace h29 := h29.mono (Nat.le_refl _) (Nat.le_refl _)
  go_wp2_with fail
  refine (HIm.out _ _ _ _ _ _ (Rd.of_at h27 hr_x.good) (h28.rd') (h29.rd')).mono ?_
  rintro e w30 ⟨v30, rfl, o2, b30⟩
  have z30 : w29.heap.size ≤ w30.heap.size := size_after (Nat.le_refl _) b30
  replace hK := hK.after b30
  replace o0 := o0.below b30
  replace hH := hH.below b30
  replace h27 := h27.after b30
  replace h28 := h28.below b30
  replace h29 := h29.below b30
  clear b30
  clear h27
  clear h28
  clear h29
  obtain ⟨A2, c2, rfl, _⟩ := o2.rd
  replace o2 := o2.mono (Nat.le_refl _) (Nat.le_refl _)
  go_wp2_with fail
  refine (eqInt64SS_c _ _ _ _ N R _ (o2.rd') (o0.rd') (by omega) t9R.out).mono ?_
  rintro e w31 ⟨rfl, b31⟩
  have z31 : w30.heap.size ≤ w31.heap.size := size_after (Nat.le_refl _) b31
  replace hK := hK.after b31
  replace o0 := o0.below b31
  replace hH := hH.below b31
  replace o2 := o2.below b31
  clear b31
  clear o2 o0
  go_wp2_with fail
  refine (heldInt64SS_2 N R _ hH hrl).mono ?_
  rintro e w32 ⟨rfl, rfl⟩
  go_wp2_with fail
  go_ret
  exact ⟨rfl, hK.below⟩
end Go.Proofs.Ytpoekhpchhmkaaa
