/-
  laws.FnExactRunProgram: the walk: it returns true and writes nothing that was there. (Made by genlaw2.py.)
-/
import Derived.Test.YtoaibfbamecdlaaPg1
namespace Go.Proofs.Ytoaibfbamecdlaa
open Go.RowKit
set_option maxRecDepth 100000
theorem ka_world {w wr : World} {bs : List (Nat × Obj)} (_ : KA w bs wr) : ∃ x : World, x = wr := ⟨wr, rfl⟩
set_option maxHeartbeats 6400000 in
theorem lawRunProgram_walk (xp xn : Int) (xAs xAo : Option Addr) (xcs xco : Nat) (xss xos : List (List Int)) (yA : Option Addr) (yc : Nat) (y : List Int) (rs : List Int) (code : Int) (w : World) (hr_x : RdK 3 w xAs xss) (hn_x : xss.length ≤ 9223372036854775807) (hr2_x : RdK 2 w xAo xos) (hn2_x : xos.length ≤ 9223372036854775807) (hm_y : RdI w yA y) (hn_y : y.length ≤ 9223372036854775807) (hrl : rs.length ≤ 1048576)
    (hS : (xss.length + xos.length ≤ 1048576 → y.length ≤ 1048576 → ∀ (gx jx : Nat) (gy : Nat) (w : World), RdK 3 w (some ⟨gx, 0, none⟩) xss → RdK 2 w (some ⟨jx, 0, none⟩) xos → RdI w (some ⟨gy, 0, none⟩) y → Calls Try.prog 6 #[.agg #[.int .i64 xp, .int .i64 xn, .slice (some ⟨gx, 0, none⟩) xss.length xss.length, .slice (some ⟨jx, 0, none⟩) xos.length xos.length], .slice (some ⟨gy, 0, none⟩) y.length y.length] w (ResI w rs code)))
    (hI : (xss.length + xos.length ≤ 1048576 → y.length ≤ 1048576 → ∀ (gx jx : Nat) (gy : Nat) (w : World), RdK 3 w (some ⟨gx, 0, none⟩) xss → RdK 2 w (some ⟨jx, 0, none⟩) xos → RdI w (some ⟨gy, 0, none⟩) y → Calls Try.prog 9 #[.agg #[.int .i64 xp, .int .i64 xn, .slice (some ⟨gx, 0, none⟩) xss.length xss.length, .slice (some ⟨jx, 0, none⟩) xos.length xos.length], .slice (some ⟨gy, 0, none⟩) y.length y.length] w (ResI w rs code))) :
    Calls Try.prog 3 #[.agg #[.int .i64 xp, .int .i64 xn, .slice xAs xss.length xcs, .slice xAo xos.length xco], .slice yA y.length yc] w fun e w' => e = .returned (.bool true) ∧ Below w.heap.size w w' := by
  have hcode : (code != code) = false := by simp
  go_enter Try.func3, Try.ntmps3
  by_cases hL_y : (1048576 : Int) < (y.length : Int)
  · go_wp2_with (refine wpList_abs1 ?_; intro w0 hsz0 hB0 ha0; have hK : KA w [(w.heap.size, .cells #[.int .i64 xp, .int .i64 xn, .slice xAs xss.length xcs, .slice xAo xos.length xco] 25 (0, 0))] w0 := ⟨hB0, by intro b hb; simp only [List.mem_cons, List.not_mem_nil, or_false] at hb; rcases hb with rfl; exact ha0⟩; have z0 : w.heap.size + 1 ≤ w0.heap.size := Nat.le_of_eq hsz0.symm; clear hB0 hsz0 ha0)
    go_ret
    exact ⟨rfl, hK.below⟩
  go_wp2_with (first | (refine wpList_abs1 ?_; intro w0 hsz0 hB0 ha0; have hK : KA w [(w.heap.size, .cells #[.int .i64 xp, .int .i64 xn, .slice xAs xss.length xcs, .slice xAo xos.length xco] 25 (0, 0))] w0 := ⟨hB0, by intro b hb; simp only [List.mem_cons, List.not_mem_nil, or_false] at hb; rcases hb with rfl; exact ha0⟩; have z0 : w.heap.size + 1 ≤ w0.heap.size := Nat.le_of_eq hsz0.symm; clear hB0 hsz0 ha0) | (refine wpList_load_all rfl 25 _ rfl w.heap.size rfl _ _ _ (by exact (hK.box (w.heap.size, .cells #[.int .i64 xp, .int .i64 xn, .slice xAs xss.length xcs, .slice xAo xos.length xco] 25 (0, 0)) (by simp))) Try.underlying25 rfl 4 (by kernel_rfl) rfl ?_))
  refine (szProgram_e xp xn xAs xAo xss.length xcs xos.length xco 1048576 _ (by omega) hn_x hn2_x (by omega)).mono ?_
  rintro e w1 ⟨r1, rfl, hr1, b1⟩
  have z1 : w0.heap.size ≤ w1.heap.size := size_after (Nat.le_refl _) b1
  replace hK := hK.after b1
  clear b1
  rcases hr1 with rfl | ⟨hr1, he1⟩
  · go_wp2_with fail
    go_ret
    exact ⟨rfl, hK.below⟩
  have hg1 : ¬ r1 < 0 := by omega
  have t_x : xss.length + xos.length ≤ 1048576 := by omega
  have t_y : y.length ≤ 1048576 := by omega
  have HSp := Lib.hid (hS t_x t_y)
  have HIm := Lib.hid (hI t_x t_y)
  clear hS hI
  go_wp2_with (refine wpList_load_all rfl 25 _ rfl w.heap.size rfl _ _ _ (by exact (hK.box (w.heap.size, .cells #[.int .i64 xp, .int .i64 xn, .slice xAs xss.length xcs, .slice xAo xos.length xco] 25 (0, 0)) (by simp))) Try.underlying25 rfl 4 (by kernel_rfl) rfl ?_)
  refine (toProgram_c xp xn xAs xAo xcs xco xss xos _ (hr_x.keep hK.below) (hr2_x.keep hK.below) (by omega) (by omega)).mono ?_
  rintro e w2 ⟨g2, gj2, rfl, hg2, hgj2, h2, j2, b2⟩
  have z2 : w1.heap.size ≤ w2.heap.size := size_after (Nat.le_refl _) b2
  replace hK := hK.after b2
  clear b2
  replace hg2 := Nat.le_trans (Nat.le_refl _) hg2
  have hgk2 := Nat.le_trans hg2 (Nat.le_of_lt hgj2)
  go_wp2_with fail
  refine (toInt64S_c yA yc y _ (hm_y.keep hK.below) t_y).mono ?_
  rintro e w3 ⟨g3, rfl, hg3, h3, b3⟩
  have z3 : w2.heap.size ≤ w3.heap.size := size_after (Nat.le_refl _) b3
  replace hK := hK.after b3
  replace h2 := h2.after b3
  replace j2 := j2.after b3
  clear b3
  replace hg3 := Nat.le_trans (Nat.le_refl _) hg3
  go_wp2_with fail
  refine (HSp.out _ _ _ _ (RdK.of_at h2 hr_x.good) (RdK.of_at j2 hr2_x.good) (RdI.of_iar h3)).mono ?_
  rintro e w4 ⟨v4, rfl, o0, b4⟩
  have z4 : w3.heap.size ≤ w4.heap.size := size_after (Nat.le_refl _) b4
  replace hK := hK.after b4
  replace h2 := h2.after b4
  replace j2 := j2.after b4
  replace h3 := h3.after b4
  clear b4
  clear h2 j2
  clear h3
  replace o0 := o0.mono (Nat.le_refl _)
  have io0 := o0.inn
  obtain ⟨A0, c0, rfl, _⟩ := o0.rd
  go_wp2_with (refine wpList_load_all rfl 25 _ rfl w.heap.size rfl _ _ _ (by exact (hK.box (w.heap.size, .cells #[.int .i64 xp, .int .i64 xn, .slice xAs xss.length xcs, .slice xAo xos.length xco] 25 (0, 0)) (by simp))) Try.underlying25 rfl 4 (by kernel_rfl) rfl ?_)
  refine (toProgram_c xp xn xAs xAo xcs xco xss xos _ (hr_x.keep hK.below) (hr2_x.keep hK.below) (by omega) (by omega)).mono ?_
  rintro e w5 ⟨g5, gj5, rfl, hg5, hgj5, h5, j5, b5⟩
  have z5 : w4.heap.size ≤ w5.heap.size := size_after (Nat.le_refl _) b5
  replace hK := hK.after b5
  replace o0 := o0.below b5
  clear b5
  replace hg5 := Nat.le_trans (Nat.le_refl _) hg5
  have hgk5 := Nat.le_trans hg5 (Nat.le_of_lt hgj5)
  have oh5 := OwnK.of_at (lo := w4.heap.size) h5 hr_x.good hg5 (by omega)
  have ioh5 := oh5.inn
  have oj5 := OwnK.of_at (lo := w4.heap.size) j5 hr2_x.good hgk5 (by omega)
  have ioj5 := oj5.inn
  clear h5 j5
  have bx := below1 w5 (.cells #[.int .i64 xp, .int .i64 xn, .slice (some ⟨g5, 0, none⟩) xss.length xss.length, .slice (some ⟨gj5, 0, none⟩) xos.length xos.length] 33 (0, 0))
  replace hK := hK.after bx
  replace o0 := o0.below bx
  replace oh5 := oh5.below bx
  replace oj5 := oj5.below bx
  have hx := al1_0 w5 (.cells #[.int .i64 xp, .int .i64 xn, .slice (some ⟨g5, 0, none⟩) xss.length xss.length, .slice (some ⟨gj5, 0, none⟩) xos.length xos.length] 33 (0, 0))
  replace hK : KA w [(w5.heap.size, .cells #[.int .i64 xp, .int .i64 xn, .slice (some ⟨g5, 0, none⟩) xss.length xss.length, .slice (some ⟨gj5, 0, none⟩) xos.length xos.length] 33 (0, 0)), (w.heap.size, .cells #[.int .i64 xp, .int .i64 xn, .slice xAs xss.length xcs, .slice xAo xos.length xco] 25 (0, 0))] _ := hK.more hx
  clear bx hx
  go_wp2_with fail
  refine (toInt64S_c yA yc y _ (hm_y.keep hK.below) t_y).mono ?_
  rintro e w7 ⟨g7, rfl, hg7, h7, b7⟩
  have z7 : w5.heap.size + 1 ≤ w7.heap.size := size_after (Nat.le_of_eq (size_al1 w5 (.cells #[.int .i64 xp, .int .i64 xn, .slice (some ⟨g5, 0, none⟩) xss.length xss.length, .slice (some ⟨gj5, 0, none⟩) xos.length xos.length] 33 (0, 0))).symm) b7
  replace hK := hK.after b7
  replace o0 := o0.below b7
  replace oh5 := oh5.below b7
  replace oj5 := oj5.below b7
  clear b7
  replace hg7 := Nat.le_trans (Nat.le_of_eq (size_al1 w5 (.cells #[.int .i64 xp, .int .i64 xn, .slice (some ⟨g5, 0, none⟩) xss.length xss.length, .slice (some ⟨gj5, 0, none⟩) xos.length xos.length] 33 (0, 0))).symm) hg7
  have oh7 := OwnI.of_at h7 hg7 t_y
  have ioh7 := oh7.inn
  clear h7
  go_wp2_with (refine wpList_load_all rfl 33 _ rfl w5.heap.size rfl _ _ _ (by exact (hK.box (w5.heap.size, .cells #[.int .i64 xp, .int .i64 xn, .slice (some ⟨g5, 0, none⟩) xss.length xss.length, .slice (some ⟨gj5, 0, none⟩) xos.length xos.length] 33 (0, 0)) (by simp))) Try.underlying33 rfl 4 (by kernel_rfl) rfl ?_)
  refine (HIm.out _ _ _ _ (oh5.rd') (oj5.rd') (oh7.rd')).mono ?_
  rintro e w8 ⟨v8, rfl, o1, b8⟩
  have z8 : w7.heap.size ≤ w8.heap.size := size_after (Nat.le_refl _) b8
  replace hK := hK.after b8
  replace o0 := o0.below b8
  replace oh5 := oh5.below b8
  replace oj5 := oj5.below b8
  replace oh7 := oh7.below b8
  clear b8
  replace o1 := o1.mono (Nat.le_refl _)
  have io1 := o1.inn
  obtain ⟨A1, c1, rfl, _⟩ := o1.rd
  go_wp2_with fail
  refine (eqInt64S_c _ _ _ _ rs _ (o1.rd') (o0.rd') (by omega)).mono ?_
  rintro e w9 ⟨rfl, b9⟩
  have z9 : w8.heap.size ≤ w9.heap.size := size_after (Nat.le_refl _) b9
  replace hK := hK.after b9
  replace o0 := o0.below b9
  replace oh5 := oh5.below b9
  replace oj5 := oj5.below b9
  replace oh7 := oh7.below b9
  replace o1 := o1.below b9
  clear b9
  go_wp2_with fail
  refine wp_region_held (S := fun w' => ∀ b ∈ ([(w5.heap.size, .cells #[.int .i64 xp, .int .i64 xn, .slice (some ⟨g5, 0, none⟩) xss.length xss.length, .slice (some ⟨gj5, 0, none⟩) xos.length xos.length] 33 (0, 0)), (w.heap.size, .cells #[.int .i64 xp, .int .i64 xn, .slice xAs xss.length xcs, .slice xAo xos.length xco] 25 (0, 0))] : List (Nat × Obj)), At w' b.1 b.2) (by kernel_rfl) ?_
  change wpAnyH _ _ _ _ _ _ _ _ (World.drew _)
  obtain ⟨w10, hw10, hK, o0, oh5, oj5, oh7, o1, z10⟩ : ∃ W, W = World.drew _ ∧ KA w [(w5.heap.size, .cells #[.int .i64 xp, .int .i64 xn, .slice (some ⟨g5, 0, none⟩) xss.length xss.length, .slice (some ⟨gj5, 0, none⟩) xos.length xos.length] 33 (0, 0)), (w.heap.size, .cells #[.int .i64 xp, .int .i64 xn, .slice xAs xss.length xcs, .slice xAo xos.length xco] 25 (0, 0))] W ∧ OwnI W (w3.heap.size) (.slice A0 rs.length c0) rs ∧ OwnK 66 3 W (w4.heap.size) (.slice (some ⟨g5, 0, none⟩) xss.length xss.length) xss ∧ OwnK 68 2 W (w4.heap.size) (.slice (some ⟨gj5, 0, none⟩) xos.length xos.length) xos ∧ OwnI W (w5.heap.size + 1) (.slice (some ⟨g7, 0, none⟩) y.length y.length) y ∧ OwnI W (w7.heap.size) (.slice A1 rs.length c1) rs ∧ w9.heap.size ≤ W.heap.size := ⟨_, rfl, hK.drew, o0, oh5.drew, oj5.drew, oh7, o1, Nat.le_refl _⟩
  rw [← hw10]
  clear hw10
  refine held_yield 0 (some 52) (.agg #[.int .i64 xp, .int .i64 xn, .slice (some ⟨g5, 0, none⟩) xss.length xss.length, .slice (some ⟨gj5, 0, none⟩) xos.length xos.length]) rfl (by kernel_rfl) (by kernel_rfl) (by kernel_rfl) (fun _ _ _ h => h) rfl rfl hK.box (fun w' h' => exec_load_all 33 _ rfl w5.heap.size rfl _ _ _ (h' (w5.heap.size, .cells #[.int .i64 xp, .int .i64 xn, .slice (some ⟨g5, 0, none⟩) xss.length xss.length, .slice (some ⟨gj5, 0, none⟩) xos.length xos.length] 33 (0, 0)) (by simp)) Try.underlying33 rfl 4 (by kernel_rfl) rfl) ?_
  go_frame
  refine held_yield 1 (some 53) (.agg #[.int .i64 xp, .int .i64 xn, .slice xAs xss.length xcs, .slice xAo xos.length xco]) rfl (by kernel_rfl) (by kernel_rfl) (by kernel_rfl) (fun _ _ _ h => h) rfl rfl hK.box (fun w' h' => exec_load_all 25 _ rfl w.heap.size rfl _ _ _ (h' (w.heap.size, .cells #[.int .i64 xp, .int .i64 xn, .slice xAs xss.length xcs, .slice xAo xos.length xco] 25 (0, 0)) (by simp)) Try.underlying25 rfl 4 (by kernel_rfl) rfl) ?_
  go_frame
  refine held_oper 2 (by kernel_rfl) rfl rfl (fun K' hK' => ?_)
  refine wp_call1 (some 54) rfl 7 _ _ rfl (fun args w => by kernel_rfl) _ rfl _ (toProgram_c xp xn xAs xAo xcs xco xss xos _ (hr_x.keep hK.below) (hr2_x.keep hK.below) (by omega) (by omega)) (fun e w11 h => ?_)
  obtain ⟨g11, gj11, rfl, hg11, hgj11, h11, j11, b11⟩ := h
  have z11 : w10.heap.size ≤ w11.heap.size := size_after (Nat.le_refl _) b11
  replace hK := hK.after b11
  replace o0 := o0.below b11
  replace oh5 := oh5.below b11
  replace oj5 := oj5.below b11
  replace oh7 := oh7.below b11
  replace o1 := o1.below b11
  clear b11
  replace hg11 := Nat.le_trans (Nat.le_refl _) hg11
  have hgk11 := Nat.le_trans hg11 (Nat.le_of_lt hgj11)
  refine ⟨_, rfl, hK' _ _ hK.box ?_⟩
  clear hK' K'
  go_frame
  refine held_oper 3 (by kernel_rfl) rfl rfl (fun K' hK' => ?_)
  refine wp_call2 (some 55) rfl 11 _ _ _ rfl (fun args w => by kernel_rfl) _ _ rfl rfl _ (eqProgram_c xp xn _ _ _ _ _ _ _ _ xss xos _ (oh5.rd') (oj5.rd') (RdK.of_at h11 hr_x.good) (RdK.of_at j11 hr2_x.good) (by omega) (by omega)) (fun e w12 h => ?_)
  obtain ⟨rfl, b12⟩ := h
  have z12 : w11.heap.size ≤ w12.heap.size := size_after (Nat.le_refl _) b12
  replace hK := hK.after b12
  replace o0 := o0.below b12
  replace oh5 := oh5.below b12
  replace oj5 := oj5.below b12
  replace oh7 := oh7.below b12
  replace o1 := o1.below b12
  replace h11 := h11.after b12
  replace j11 := j11.after b12
  clear b12
  clear h11 j11
  refine ⟨_, rfl, hK' _ _ hK.box ?_⟩
  clear hK' K'
  go_frame
  refine held_exec 4 (some 56) (.bool false) (by kernel_rfl) rfl rfl rfl (exec_not 4 _ rfl true rfl) hK.box ?_
  go_frame
  refine wpAnyH_done (by kernel_rfl) ?_ _
  go_wp2_with fail
  refine (toInt64S_c yA yc y _ (hm_y.keep hK.below) t_y).mono ?_
  rintro e w13 ⟨g13, rfl, hg13, h13, b13⟩
  have z13 : w12.heap.size ≤ w13.heap.size := size_after (Nat.le_refl _) b13
  replace hK := hK.after b13
  replace o0 := o0.below b13
  replace oh5 := oh5.below b13
  replace oj5 := oj5.below b13
  replace oh7 := oh7.below b13
  replace o1 := o1.below b13
  clear b13
  replace hg13 := Nat.le_trans (Nat.le_refl _) hg13
  go_wp2_with fail
  refine (eqInt64S_c _ _ _ _ y _ (oh7.rd') (RdI.of_iar h13) (by omega)).mono ?_
  rintro e w14 ⟨rfl, b14⟩
  have z14 : w13.heap.size ≤ w14.heap.size := size_after (Nat.le_refl _) b14
  replace hK := hK.after b14
  replace o0 := o0.below b14
  replace oh5 := oh5.below b14
  replace oj5 := oj5.below b14
  replace oh7 := oh7.below b14
  replace o1 := o1.below b14
  replace h13 := h13.after b14
  clear b14
  clear h13
  go_wp2_with (refine wpList_load_all rfl 33 _ rfl w5.heap.size rfl _ _ _ (by exact (hK.box (w5.heap.size, .cells #[.int .i64 xp, .int .i64 xn, .slice (some ⟨g5, 0, none⟩) xss.length xss.length, .slice (some ⟨gj5, 0, none⟩) xos.length xos.length] 33 (0, 0)) (by simp))) Try.underlying33 rfl 4 (by kernel_rfl) rfl ?_)
  refine (markProgram_2 xp xn (1) _ _ (by simp) oh5 oj5 ioh5 ioj5 (by omega) (by omega) (by omega)).mono ?_
  rintro e w15 ⟨rfl, S15, hH, hH2⟩
  clear hH2
  have z15 : w14.heap.size ≤ w15.heap.size := Nat.le_trans (Nat.le_refl _) S15.size
  replace hK := hK.same S15 (by omega) (by intro b hb; simp only [List.mem_cons, List.not_mem_nil, or_false] at hb; rcases hb with rfl | rfl <;> (dsimp only; omega))
  replace o0 := o0.same io0 S15 (by omega)
  replace oh7 := oh7.same ioh7 S15 (by omega)
  replace o1 := o1.same io1 S15 (by omega)
  clear S15
  clear hH
  clear oh5 oj5
  go_wp2_with fail
  refine (markInt64S_2 (1 + xss.length * 3 + xos.length * 2) _ _ (by simp) oh7 t_y (by omega)).mono ?_
  rintro e w16 ⟨rfl, hG, hH⟩
  have S16 := Same.of_in hG ioh7
  have z16 : w15.heap.size ≤ w16.heap.size := Nat.le_trans (Nat.le_refl _) S16.size
  replace hK := hK.same S16 (by omega) (by intro b hb; simp only [List.mem_cons, List.not_mem_nil, or_false] at hb; rcases hb with rfl | rfl <;> (dsimp only; omega))
  replace o0 := o0.same io0 S16 (by omega)
  replace o1 := o1.same io1 S16 (by omega)
  clear S16 hG
  clear hH
  clear oh7
  go_wp2_with fail
  refine (eqInt64S_c _ _ _ _ rs _ (o1.rd') (o0.rd') (by omega)).mono ?_
  rintro e w17 ⟨rfl, b17⟩
  have z17 : w16.heap.size ≤ w17.heap.size := size_after (Nat.le_refl _) b17
  replace hK := hK.after b17
  replace o0 := o0.below b17
  replace o1 := o1.below b17
  clear b17
  go_wp2_with fail
  have hneg18 : ¬ (1 : Int) + (rs.length : Int) < 0 := by omega
  refine (markInt64S_2 (1) _ _ (by simp) o1 hrl (by omega)).mono ?_
  rintro e w18 ⟨rfl, hG, hH⟩
  have S18 := Same.of_in hG io1
  have z18 : w17.heap.size ≤ w18.heap.size := Nat.le_trans (Nat.le_refl _) S18.size
  replace hK := hK.same S18 (by omega) (by intro b hb; simp only [List.mem_cons, List.not_mem_nil, or_false] at hb; rcases hb with rfl | rfl <;> (dsimp only; omega))
  replace o0 := o0.same io0 S18 (by omega)
  clear S18 hG
  have s1 := o1.shp
  clear o1
  have ihH := io1
  go_wp2_with fail
  refine (heldInt64S_1 _ s1 hH hrl).mono ?_
  rintro e w19 ⟨rfl, rfl⟩
  go_wp2_with (refine wpList_load_all rfl 25 _ rfl w.heap.size rfl _ _ _ (by exact (hK.box (w.heap.size, .cells #[.int .i64 xp, .int .i64 xn, .slice xAs xss.length xcs, .slice xAo xos.length xco] 25 (0, 0)) (by simp))) Try.underlying25 rfl 4 (by kernel_rfl) rfl ?_)
  refine (toProgram_c xp xn xAs xAo xcs xco xss xos _ (hr_x.keep hK.below) (hr2_x.keep hK.below) (by omega) (by omega)).mono ?_
  rintro e w20 ⟨g20, gj20, rfl, hg20, hgj20, h20, j20, b20⟩
  have z20 : w18.heap.size ≤ w20.heap.size := size_after (Nat.le_refl _) b20
  replace hK := hK.after b20
  replace o0 := o0.below b20
  replace hH := hH.below b20
  clear b20
  replace hg20 := Nat.le_trans (Nat.le_refl _) hg20
  have hgk20 := Nat.le_trans hg20 (Nat.le_of_lt hgj20)
  go_wp2_with fail
  refine (toInt64S_c yA yc y _ (hm_y.keep hK.below) t_y).mono ?_
  rintro e w21 ⟨g21, rfl, hg21, h21, b21⟩
  have z21 : w20.heap.size ≤ w21.heap.size := size_after (Nat.le_refl _) b21
  replace hK := hK.after b21
  replace o0 := o0.below b21
  replace hH := hH.below b21
  replace h20 := h20.after b21
  replace j20 := j20.after b21
  clear b21
  replace hg21 := Nat.le_trans (Nat.le_refl _) hg21
  go_wp2_with fail
  refine (HIm.out _ _ _ _ (RdK.of_at h20 hr_x.good) (RdK.of_at j20 hr2_x.good) (RdI.of_iar h21)).mono ?_
  rintro e w22 ⟨v22, rfl, o2, b22⟩
  have z22 : w21.heap.size ≤ w22.heap.size := size_after (Nat.le_refl _) b22
  replace hK := hK.after b22
  replace o0 := o0.below b22
  replace hH := hH.below b22
  replace h20 := h20.after b22
  replace j20 := j20.after b22
  replace h21 := h21.after b22
  clear b22
  clear h20 j20
  clear h21
  replace o2 := o2.mono (Nat.le_refl _)
  have io2 := o2.inn
  obtain ⟨A2, c2, rfl, _⟩ := o2.rd
  go_wp2_with fail
  refine (eqInt64S_c _ _ _ _ rs _ (o2.rd') (o0.rd') (by omega)).mono ?_
  rintro e w23 ⟨rfl, b23⟩
  have z23 : w22.heap.size ≤ w23.heap.size := size_after (Nat.le_refl _) b23
  replace hK := hK.after b23
  replace o0 := o0.below b23
  replace hH := hH.below b23
  replace o2 := o2.below b23
  clear b23
  clear o2 o0
  go_wp2_with fail
  refine (heldInt64S_1 _ s1 hH hrl).mono ?_
  rintro e w24 ⟨rfl, rfl⟩
  go_wp2_with fail
  go_ret
  exact ⟨rfl, hK.below⟩
end Go.Proofs.Ytoaibfbamecdlaa
