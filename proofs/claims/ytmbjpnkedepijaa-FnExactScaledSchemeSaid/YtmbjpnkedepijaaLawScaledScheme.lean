/-
  laws.FnExactScaledScheme: the walk: it returns true and writes nothing that was there. (Made by genlaw2.py.)
-/
import Derived.Test.YtmbjpnkedepijaaLK1
namespace Go.Proofs.Ytmbjpnkedepijaa
open Go.RowKit
set_option maxRecDepth 100000
theorem ka_world {w wr : World} {bs : List (Nat × Obj)} (_ : KA w bs wr) : ∃ x : World, x = wr := ⟨wr, rfl⟩
set_option maxHeartbeats 6400000 in
theorem lawScaledScheme_walk (xp xn xm xk : Int) (xA : Option Addr) (xc : Nat) (xq : List (List Nat)) (rp rn rm rk : Int) (rs : List (List Nat)) (code : Int) (w : World) (hr_x : Rd w xA xq)  (hn_x : xq.length ≤ 9223372036854775807) (hrb : ∀ r ∈ rs, Bytes 27 r) (hrl : rs.length ≤ 1048576)
    (hS : (xq.length ≤ 1048576 → ∀ (gx : Nat) (w : World), Rd w (some ⟨gx, 0, none⟩) xq → Calls Try.prog 12 #[.agg #[.int .i64 xp, .int .i64 xn, .int .i64 xm, .int .i64 xk, .slice (some ⟨gx, 0, none⟩) xq.length xq.length]] w (ResS w rp rn rm rk rs code)))
    (hI : (xq.length ≤ 1048576 → ∀ (gx : Nat) (w : World), Rd w (some ⟨gx, 0, none⟩) xq → Calls Try.prog 13 #[.agg #[.int .i64 xp, .int .i64 xn, .int .i64 xm, .int .i64 xk, .slice (some ⟨gx, 0, none⟩) xq.length xq.length]] w (ResS w rp rn rm rk rs code))) :
    Calls Try.prog 4 #[.agg #[.int .i64 xp, .int .i64 xn, .int .i64 xm, .int .i64 xk, .slice xA xq.length xc]] w fun e w' => e = .returned (.bool true) ∧ Below w.heap.size w w' := by
  have Hrb := Lib.hid hrb
  have hcode : (code != code) = false := by simp
  go_enter Try.func4, Try.ntmps4
  go_wp2_with (first | (refine wpList_abs1 ?_; intro w0 hsz0 hB0 ha0; have hK : KA w [(w.heap.size, .cells #[.int .i64 xp, .int .i64 xn, .int .i64 xm, .int .i64 xk, .slice xA xq.length xc] 24 (0, 0))] w0 := ⟨hB0, by intro b hb; simp only [List.mem_cons, List.not_mem_nil, or_false] at hb; rcases hb with rfl; exact ha0⟩; have z0 : w.heap.size + 1 ≤ w0.heap.size := Nat.le_of_eq hsz0.symm; clear hB0 hsz0 ha0) | (refine wpList_load_all rfl 24 _ rfl w.heap.size rfl _ _ _ (by exact (hK.box (w.heap.size, .cells #[.int .i64 xp, .int .i64 xn, .int .i64 xm, .int .i64 xk, .slice xA xq.length xc] 24 (0, 0)) (by simp))) Try.underlying24 rfl 5 (by kernel_rfl) rfl ?_))
  refine (szScheme_e xp xn xm xk xA xq.length xc 1048576 _ (by omega) hn_x (by omega)).mono ?_
  rintro e w1 ⟨r1, rfl, hr1, b1⟩
  have z1 : w0.heap.size ≤ w1.heap.size := size_after (Nat.le_refl _) b1
  replace hK := hK.after b1
  clear b1
  rcases hr1 with rfl | ⟨hr1, he1⟩
  · go_wp2_with fail
    go_ret
    exact ⟨rfl, hK.below⟩
  have hg1 : ¬ r1 < 0 := by omega
  have t_x : xq.length ≤ 1048576 := by omega
  have HSp := Lib.hid (hS t_x)
  have HIm := Lib.hid (hI t_x)
  clear hS hI
  go_wp2_with (refine wpList_load_all rfl 24 _ rfl w.heap.size rfl _ _ _ (by exact (hK.box (w.heap.size, .cells #[.int .i64 xp, .int .i64 xn, .int .i64 xm, .int .i64 xk, .slice xA xq.length xc] 24 (0, 0)) (by simp))) Try.underlying24 rfl 5 (by kernel_rfl) rfl ?_)
  refine (toScheme_c xp xn xm xk xA xc xq _ (hr_x.keep hK.below) t_x).mono ?_
  rintro e w2 ⟨g2, rfl, hg2, h2, b2⟩
  have z2 : w1.heap.size ≤ w2.heap.size := size_after (Nat.le_refl _) b2
  replace hK := hK.after b2
  clear b2
  replace hg2 := Nat.le_trans (Nat.le_refl _) hg2
  go_wp2_with fail
  refine (HSp.out _ _ (Rd.of_at h2 hr_x.good)).mono ?_
  rintro e w3 ⟨v3, rfl, o0, b3⟩
  have z3 : w2.heap.size ≤ w3.heap.size := size_after (Nat.le_refl _) b3
  replace hK := hK.after b3
  replace h2 := h2.after b3
  clear b3
  clear h2
  replace o0 := o0.mono (Nat.le_refl _)
  have io0 := o0.inn
  obtain ⟨A0, c0, rfl, _⟩ := o0.rd Hrb.out
  have bx := below1 w3 (.cells #[.int .i64 rp, .int .i64 rn, .int .i64 rm, .int .i64 rk, .slice A0 rs.length c0] 28 (0, 0))
  replace hK := hK.after bx
  replace o0 := o0.below bx
  have hx := al1_0 w3 (.cells #[.int .i64 rp, .int .i64 rn, .int .i64 rm, .int .i64 rk, .slice A0 rs.length c0] 28 (0, 0))
  replace hK : KA w [(w3.heap.size, .cells #[.int .i64 rp, .int .i64 rn, .int .i64 rm, .int .i64 rk, .slice A0 rs.length c0] 28 (0, 0)), (w.heap.size, .cells #[.int .i64 xp, .int .i64 xn, .int .i64 xm, .int .i64 xk, .slice xA xq.length xc] 24 (0, 0))] _ := hK.more hx
  clear bx hx
  go_wp2_with (refine wpList_load_all rfl 24 _ rfl w.heap.size rfl _ _ _ (by exact (hK.box (w.heap.size, .cells #[.int .i64 xp, .int .i64 xn, .int .i64 xm, .int .i64 xk, .slice xA xq.length xc] 24 (0, 0)) (by simp))) Try.underlying24 rfl 5 (by kernel_rfl) rfl ?_)
  refine (toScheme_c xp xn xm xk xA xc xq _ (hr_x.keep hK.below) t_x).mono ?_
  rintro e w5 ⟨g5, rfl, hg5, h5, b5⟩
  have z5 : w3.heap.size + 1 ≤ w5.heap.size := size_after (Nat.le_of_eq (size_al1 w3 (.cells #[.int .i64 rp, .int .i64 rn, .int .i64 rm, .int .i64 rk, .slice A0 rs.length c0] 28 (0, 0))).symm) b5
  replace hK := hK.after b5
  replace o0 := o0.below b5
  clear b5
  replace hg5 := Nat.le_trans (Nat.le_of_eq (size_al1 w3 (.cells #[.int .i64 rp, .int .i64 rn, .int .i64 rm, .int .i64 rk, .slice A0 rs.length c0] 28 (0, 0))).symm) hg5
  have oh5 := Own.of_at h5 hr_x.len hg5 t_x
  have ioh5 := oh5.inn
  clear h5
  have bx := below1 w5 (.cells #[.int .i64 xp, .int .i64 xn, .int .i64 xm, .int .i64 xk, .slice (some ⟨g5, 0, none⟩) xq.length xq.length] 28 (0, 0))
  replace hK := hK.after bx
  replace o0 := o0.below bx
  replace oh5 := oh5.below bx
  have hx := al1_0 w5 (.cells #[.int .i64 xp, .int .i64 xn, .int .i64 xm, .int .i64 xk, .slice (some ⟨g5, 0, none⟩) xq.length xq.length] 28 (0, 0))
  replace hK : KA w [(w5.heap.size, .cells #[.int .i64 xp, .int .i64 xn, .int .i64 xm, .int .i64 xk, .slice (some ⟨g5, 0, none⟩) xq.length xq.length] 28 (0, 0)), (w3.heap.size, .cells #[.int .i64 rp, .int .i64 rn, .int .i64 rm, .int .i64 rk, .slice A0 rs.length c0] 28 (0, 0)), (w.heap.size, .cells #[.int .i64 xp, .int .i64 xn, .int .i64 xm, .int .i64 xk, .slice xA xq.length xc] 24 (0, 0))] _ := hK.more hx
  clear bx hx
  go_wp2_with (refine wpList_load_all rfl 28 _ rfl w5.heap.size rfl _ _ _ (by exact (hK.box (w5.heap.size, .cells #[.int .i64 xp, .int .i64 xn, .int .i64 xm, .int .i64 xk, .slice (some ⟨g5, 0, none⟩) xq.length xq.length] 28 (0, 0)) (by simp))) Try.underlying28 rfl 5 (by kernel_rfl) rfl ?_)
  refine (HIm.out _ _ (oh5.rd' hr_x.good)).mono ?_
  rintro e w7 ⟨v7, rfl, o1, b7⟩
  have z7 : w5.heap.size + 1 ≤ w7.heap.size := size_after (Nat.le_of_eq (size_al1 w5 (.cells #[.int .i64 xp, .int .i64 xn, .int .i64 xm, .int .i64 xk, .slice (some ⟨g5, 0, none⟩) xq.length xq.length] 28 (0, 0))).symm) b7
  replace hK := hK.after b7
  replace o0 := o0.below b7
  replace oh5 := oh5.below b7
  clear b7
  replace o1 := o1.mono (Nat.le_of_eq (size_al1 w5 (.cells #[.int .i64 xp, .int .i64 xn, .int .i64 xm, .int .i64 xk, .slice (some ⟨g5, 0, none⟩) xq.length xq.length] 28 (0, 0))).symm)
  have io1 := o1.inn
  obtain ⟨A1, c1, rfl, _⟩ := o1.rd Hrb.out
  have bx := below1 w7 (.cells #[.int .i64 rp, .int .i64 rn, .int .i64 rm, .int .i64 rk, .slice A1 rs.length c1] 28 (0, 0))
  replace hK := hK.after bx
  replace o0 := o0.below bx
  replace oh5 := oh5.below bx
  replace o1 := o1.below bx
  have hx := al1_0 w7 (.cells #[.int .i64 rp, .int .i64 rn, .int .i64 rm, .int .i64 rk, .slice A1 rs.length c1] 28 (0, 0))
  replace hK : KA w [(w7.heap.size, .cells #[.int .i64 rp, .int .i64 rn, .int .i64 rm, .int .i64 rk, .slice A1 rs.length c1] 28 (0, 0)), (w5.heap.size, .cells #[.int .i64 xp, .int .i64 xn, .int .i64 xm, .int .i64 xk, .slice (some ⟨g5, 0, none⟩) xq.length xq.length] 28 (0, 0)), (w3.heap.size, .cells #[.int .i64 rp, .int .i64 rn, .int .i64 rm, .int .i64 rk, .slice A0 rs.length c0] 28 (0, 0)), (w.heap.size, .cells #[.int .i64 xp, .int .i64 xn, .int .i64 xm, .int .i64 xk, .slice xA xq.length xc] 24 (0, 0))] _ := hK.more hx
  clear bx hx
  go_wp2_with (first | (refine wpList_load_all rfl 28 _ rfl w7.heap.size rfl _ _ _ (by exact (hK.box (w7.heap.size, .cells #[.int .i64 rp, .int .i64 rn, .int .i64 rm, .int .i64 rk, .slice A1 rs.length c1] 28 (0, 0)) (by simp))) Try.underlying28 rfl 5 (by kernel_rfl) rfl ?_) | (refine wpList_load_all rfl 28 _ rfl w3.heap.size rfl _ _ _ (by exact (hK.box (w3.heap.size, .cells #[.int .i64 rp, .int .i64 rn, .int .i64 rm, .int .i64 rk, .slice A0 rs.length c0] 28 (0, 0)) (by simp))) Try.underlying28 rfl 5 (by kernel_rfl) rfl ?_))
  refine (eqScheme_c rp rn rm rk _ _ _ _ rs _ (o1.rd' Hrb.out) (o0.rd' Hrb.out) (by omega)).mono ?_
  rintro e w9 ⟨rfl, b9⟩
  have z9 : w7.heap.size + 1 ≤ w9.heap.size := size_after (Nat.le_of_eq (size_al1 w7 (.cells #[.int .i64 rp, .int .i64 rn, .int .i64 rm, .int .i64 rk, .slice A1 rs.length c1] 28 (0, 0))).symm) b9
  replace hK := hK.after b9
  replace o0 := o0.below b9
  replace oh5 := oh5.below b9
  replace o1 := o1.below b9
  clear b9
  go_wp2_with fail
  refine wp_region_held (S := fun w' => ∀ b ∈ ([(w7.heap.size, .cells #[.int .i64 rp, .int .i64 rn, .int .i64 rm, .int .i64 rk, .slice A1 rs.length c1] 28 (0, 0)), (w5.heap.size, .cells #[.int .i64 xp, .int .i64 xn, .int .i64 xm, .int .i64 xk, .slice (some ⟨g5, 0, none⟩) xq.length xq.length] 28 (0, 0)), (w3.heap.size, .cells #[.int .i64 rp, .int .i64 rn, .int .i64 rm, .int .i64 rk, .slice A0 rs.length c0] 28 (0, 0)), (w.heap.size, .cells #[.int .i64 xp, .int .i64 xn, .int .i64 xm, .int .i64 xk, .slice xA xq.length xc] 24 (0, 0))] : List (Nat × Obj)), At w' b.1 b.2) (by kernel_rfl) ?_
  change wpAnyH _ _ _ _ _ _ _ _ (World.drew _)
  obtain ⟨w10, hw10, hK, o0, oh5, o1, z10⟩ : ∃ W, W = World.drew _ ∧ KA w [(w7.heap.size, .cells #[.int .i64 rp, .int .i64 rn, .int .i64 rm, .int .i64 rk, .slice A1 rs.length c1] 28 (0, 0)), (w5.heap.size, .cells #[.int .i64 xp, .int .i64 xn, .int .i64 xm, .int .i64 xk, .slice (some ⟨g5, 0, none⟩) xq.length xq.length] 28 (0, 0)), (w3.heap.size, .cells #[.int .i64 rp, .int .i64 rn, .int .i64 rm, .int .i64 rk, .slice A0 rs.length c0] 28 (0, 0)), (w.heap.size, .cells #[.int .i64 xp, .int .i64 xn, .int .i64 xm, .int .i64 xk, .slice xA xq.length xc] 24 (0, 0))] W ∧ Own W (w2.heap.size) (.slice A0 rs.length c0) rs ∧ Own W (w3.heap.size + 1) (.slice (some ⟨g5, 0, none⟩) xq.length xq.length) xq ∧ Own W (w5.heap.size + 1) (.slice A1 rs.length c1) rs ∧ w9.heap.size ≤ W.heap.size := ⟨_, rfl, hK.drew, o0.drew, oh5.drew, o1.drew, Nat.le_refl _⟩
  rw [← hw10]
  clear hw10
  refine held_yield 0 (some 41) (.agg #[.int .i64 xp, .int .i64 xn, .int .i64 xm, .int .i64 xk, .slice (some ⟨g5, 0, none⟩) xq.length xq.length]) rfl (by kernel_rfl) (by kernel_rfl) (by kernel_rfl) (fun _ _ _ h => h) rfl rfl hK.box (fun w' h' => exec_load_all 28 _ rfl w5.heap.size rfl _ _ _ (h' (w5.heap.size, .cells #[.int .i64 xp, .int .i64 xn, .int .i64 xm, .int .i64 xk, .slice (some ⟨g5, 0, none⟩) xq.length xq.length] 28 (0, 0)) (by simp)) Try.underlying28 rfl 5 (by kernel_rfl) rfl) ?_
  go_frame
  refine held_yield 1 (some 42) (.agg #[.int .i64 xp, .int .i64 xn, .int .i64 xm, .int .i64 xk, .slice xA xq.length xc]) rfl (by kernel_rfl) (by kernel_rfl) (by kernel_rfl) (fun _ _ _ h => h) rfl rfl hK.box (fun w' h' => exec_load_all 24 _ rfl w.heap.size rfl _ _ _ (h' (w.heap.size, .cells #[.int .i64 xp, .int .i64 xn, .int .i64 xm, .int .i64 xk, .slice xA xq.length xc] 24 (0, 0)) (by simp)) Try.underlying24 rfl 5 (by kernel_rfl) rfl) ?_
  go_frame
  refine held_oper 2 (by kernel_rfl) rfl rfl (fun K' hK' => ?_)
  refine wp_call1 (some 43) rfl 7 _ _ rfl (fun args w => by kernel_rfl) _ rfl _ (toScheme_c xp xn xm xk xA xc xq _ (hr_x.keep hK.below) t_x) (fun e w11 h => ?_)
  obtain ⟨g11, rfl, hg11, h11, b11⟩ := h
  have z11 : w10.heap.size ≤ w11.heap.size := size_after (Nat.le_refl _) b11
  replace hK := hK.after b11
  replace o0 := o0.below b11
  replace oh5 := oh5.below b11
  replace o1 := o1.below b11
  clear b11
  replace hg11 := Nat.le_trans (Nat.le_refl _) hg11
  refine ⟨_, rfl, hK' _ _ hK.box ?_⟩
  clear hK' K'
  go_frame
  refine held_oper 3 (by kernel_rfl) rfl rfl (fun K' hK' => ?_)
  refine wp_call2 (some 44) rfl 9 _ _ _ rfl (fun args w => by kernel_rfl) _ _ rfl rfl _ (eqScheme_c xp xn xm xk _ _ _ _ xq _ (oh5.rd' hr_x.good) (Rd.of_at h11 hr_x.good) (by omega)) (fun e w12 h => ?_)
  obtain ⟨rfl, b12⟩ := h
  have z12 : w11.heap.size ≤ w12.heap.size := size_after (Nat.le_refl _) b12
  replace hK := hK.after b12
  replace o0 := o0.below b12
  replace oh5 := oh5.below b12
  replace o1 := o1.below b12
  replace h11 := h11.after b12
  clear b12
  clear h11
  refine ⟨_, rfl, hK' _ _ hK.box ?_⟩
  clear hK' K'
  go_frame
  refine held_exec 4 (some 45) (.bool false) (by kernel_rfl) rfl rfl rfl (exec_not 4 _ rfl true rfl) hK.box ?_
  go_frame
  refine wpAnyH_done (by kernel_rfl) ?_ _
  go_wp2_with (refine wpList_load_all rfl 28 _ rfl w5.heap.size rfl _ _ _ (by exact (hK.box (w5.heap.size, .cells #[.int .i64 xp, .int .i64 xn, .int .i64 xm, .int .i64 xk, .slice (some ⟨g5, 0, none⟩) xq.length xq.length] 28 (0, 0)) (by simp))) Try.underlying28 rfl 5 (by kernel_rfl) rfl ?_)
  have hneg13 : ¬ (1 : Int) + (xq.length : Int) * 27 < 0 := by omega
  refine (markScheme_2 xp xn xm xk (1) _ _ (by simp) oh5 t_x (by omega)).mono ?_
  rintro e w13 ⟨rfl, hG, hH⟩
  have S13 := Same.of_in hG ioh5
  have z13 : w12.heap.size ≤ w13.heap.size := Nat.le_trans (Nat.le_refl _) S13.size
  replace hK := hK.grown oh5 (by omega) hG (by intro b hb; simp only [List.mem_cons, List.not_mem_nil, or_false] at hb; rcases hb with rfl | rfl | rfl | rfl <;> exact ⟨_, _, rfl, by decide⟩)
  replace o0 := o0.same io0 S13 (by omega)
  replace o1 := o1.same io1 S13 (by omega)
  clear S13 hG
  clear hH
  clear oh5
  go_wp2_with (first | (refine wpList_want_exec rfl (exec_load_all 28 _ rfl w7.heap.size rfl _ _ _ (by exact (hK.box (w7.heap.size, .cells #[.int .i64 rp, .int .i64 rn, .int .i64 rm, .int .i64 rk, .slice A1 rs.length c1] 28 (0, 0)) (by simp))) Try.underlying28 rfl 5 (by kernel_rfl) rfl) ?_) | (refine wpList_want_exec rfl (exec_load_all 28 _ rfl w3.heap.size rfl _ _ _ (by exact (hK.box (w3.heap.size, .cells #[.int .i64 rp, .int .i64 rn, .int .i64 rm, .int .i64 rk, .slice A0 rs.length c0] 28 (0, 0)) (by simp))) Try.underlying28 rfl 5 (by kernel_rfl) rfl) ?_))
  refine (eqScheme_c rp rn rm rk _ _ _ _ rs _ (o1.rd' Hrb.out) (o0.rd' Hrb.out) (by omega)).mono ?_
  rintro e w14 ⟨rfl, b14⟩
  have z14 : w13.heap.size ≤ w14.heap.size := size_after (Nat.le_refl _) b14
  replace hK := hK.after b14
  replace o0 := o0.below b14
  replace o1 := o1.below b14
  clear b14
  go_wp2_with (refine wpList_load_all rfl 28 _ rfl w7.heap.size rfl _ _ _ (by exact (hK.box (w7.heap.size, .cells #[.int .i64 rp, .int .i64 rn, .int .i64 rm, .int .i64 rk, .slice A1 rs.length c1] 28 (0, 0)) (by simp))) Try.underlying28 rfl 5 (by kernel_rfl) rfl ?_)
  have hneg15 : ¬ (1 : Int) + (rs.length : Int) * 27 < 0 := by omega
  refine (markScheme_2 rp rn rm rk (1) _ _ (by simp) o1 hrl (by omega)).mono ?_
  rintro e w15 ⟨rfl, hG, hH⟩
  have S15 := Same.of_in hG io1
  have z15 : w14.heap.size ≤ w15.heap.size := Nat.le_trans (Nat.le_refl _) S15.size
  replace hK := hK.grown o1 (by omega) hG (by intro b hb; simp only [List.mem_cons, List.not_mem_nil, or_false] at hb; rcases hb with rfl | rfl | rfl | rfl <;> exact ⟨_, _, rfl, by decide⟩)
  replace o0 := o0.same io0 S15 (by omega)
  clear S15 hG
  have s1 := o1.shp
  clear o1
  have ihH := io1
  go_wp2_with (refine wpList_load_all rfl 28 _ rfl w7.heap.size rfl _ _ _ (by exact (hK.box (w7.heap.size, .cells #[.int .i64 rp, .int .i64 rn, .int .i64 rm, .int .i64 rk, .slice A1 rs.length c1] 28 (0, 0)) (by simp))) Try.underlying28 rfl 5 (by kernel_rfl) rfl ?_)
  refine (heldScheme_1 rp rn rm rk _ s1 hH hrl).mono ?_
  rintro e w16 ⟨rfl, b16⟩
  have z16 : w15.heap.size ≤ w16.heap.size := size_after (Nat.le_refl _) b16
  replace hK := hK.after b16
  replace o0 := o0.below b16
  replace hH := hH.below b16
  clear b16
  go_wp2_with (refine wpList_load_all rfl 24 _ rfl w.heap.size rfl _ _ _ (by exact (hK.box (w.heap.size, .cells #[.int .i64 xp, .int .i64 xn, .int .i64 xm, .int .i64 xk, .slice xA xq.length xc] 24 (0, 0)) (by simp))) Try.underlying24 rfl 5 (by kernel_rfl) rfl ?_)
  refine (toScheme_c xp xn xm xk xA xc xq _ (hr_x.keep hK.below) t_x).mono ?_
  rintro e w17 ⟨g17, rfl, hg17, h17, b17⟩
  have z17 : w16.heap.size ≤ w17.heap.size := size_after (Nat.le_refl _) b17
  replace hK := hK.after b17
  replace o0 := o0.below b17
  replace hH := hH.below b17
  clear b17
  replace hg17 := Nat.le_trans (Nat.le_refl _) hg17
  go_wp2_with fail
  refine (HIm.out _ _ (Rd.of_at h17 hr_x.good)).mono ?_
  rintro e w18 ⟨v18, rfl, o2, b18⟩
  have z18 : w17.heap.size ≤ w18.heap.size := size_after (Nat.le_refl _) b18
  replace hK := hK.after b18
  replace o0 := o0.below b18
  replace hH := hH.below b18
  replace h17 := h17.after b18
  clear b18
  clear h17
  replace o2 := o2.mono (Nat.le_refl _)
  have io2 := o2.inn
  obtain ⟨A2, c2, rfl, _⟩ := o2.rd Hrb.out
  have bx := below1 w18 (.cells #[.int .i64 rp, .int .i64 rn, .int .i64 rm, .int .i64 rk, .slice A2 rs.length c2] 28 (0, 0))
  replace hK := hK.after bx
  replace o0 := o0.below bx
  replace hH := hH.below bx
  replace o2 := o2.below bx
  have hx := al1_0 w18 (.cells #[.int .i64 rp, .int .i64 rn, .int .i64 rm, .int .i64 rk, .slice A2 rs.length c2] 28 (0, 0))
  replace hK : KA w [(w18.heap.size, .cells #[.int .i64 rp, .int .i64 rn, .int .i64 rm, .int .i64 rk, .slice A2 rs.length c2] 28 (0, 0)), (w7.heap.size, .cells #[.int .i64 rp, .int .i64 rn, .int .i64 rm, .int .i64 rk, .slice A1 rs.length c1] 28 (0, 0)), (w5.heap.size, .cells #[.int .i64 xp, .int .i64 xn, .int .i64 xm, .int .i64 xk, .slice (some ⟨g5, 0, none⟩) xq.length xq.length] 28 (0, 0)), (w3.heap.size, .cells #[.int .i64 rp, .int .i64 rn, .int .i64 rm, .int .i64 rk, .slice A0 rs.length c0] 28 (0, 0)), (w.heap.size, .cells #[.int .i64 xp, .int .i64 xn, .int .i64 xm, .int .i64 xk, .slice xA xq.length xc] 24 (0, 0))] _ := hK.more hx
  clear bx hx
  go_wp2_with (first | (refine wpList_load_all rfl 28 _ rfl w18.heap.size rfl _ _ _ (by exact (hK.box (w18.heap.size, .cells #[.int .i64 rp, .int .i64 rn, .int .i64 rm, .int .i64 rk, .slice A2 rs.length c2] 28 (0, 0)) (by simp))) Try.underlying28 rfl 5 (by kernel_rfl) rfl ?_) | (refine wpList_load_all rfl 28 _ rfl w3.heap.size rfl _ _ _ (by exact (hK.box (w3.heap.size, .cells #[.int .i64 rp, .int .i64 rn, .int .i64 rm, .int .i64 rk, .slice A0 rs.length c0] 28 (0, 0)) (by simp))) Try.underlying28 rfl 5 (by kernel_rfl) rfl ?_))
  refine (eqScheme_c rp rn rm rk _ _ _ _ rs _ (o2.rd' Hrb.out) (o0.rd' Hrb.out) (by omega)).mono ?_
  rintro e w20 ⟨rfl, b20⟩
  have z20 : w18.heap.size + 1 ≤ w20.heap.size := size_after (Nat.le_of_eq (size_al1 w18 (.cells #[.int .i64 rp, .int .i64 rn, .int .i64 rm, .int .i64 rk, .slice A2 rs.length c2] 28 (0, 0))).symm) b20
  replace hK := hK.after b20
  replace o0 := o0.below b20
  replace hH := hH.below b20
  replace o2 := o2.below b20
  clear b20
  clear o2 o0
  go_wp2_with (refine wpList_load_all rfl 28 _ rfl w7.heap.size rfl _ _ _ (by exact (hK.box (w7.heap.size, .cells #[.int .i64 rp, .int .i64 rn, .int .i64 rm, .int .i64 rk, .slice A1 rs.length c1] 28 (0, 0)) (by simp))) Try.underlying28 rfl 5 (by kernel_rfl) rfl ?_)
  refine (heldScheme_1 rp rn rm rk _ s1 hH hrl).mono ?_
  rintro e w21 ⟨rfl, b21⟩
  have z21 : w20.heap.size ≤ w21.heap.size := size_after (Nat.le_refl _) b21
  replace hK := hK.after b21
  replace hH := hH.below b21
  clear b21
  go_wp2_with fail
  go_ret
  exact ⟨rfl, hK.below⟩
end Go.Proofs.Ytmbjpnkedepijaa
