/-
  laws.FnExactCompareExponents: the walk: it returns true and writes nothing that was there. (Made by genlaw2.py.)
-/
import Derived.Test.YtphccbilldfdpaaLK1
namespace Go.Proofs.Ytphccbilldfdpaa
open Go.RowKit
set_option maxRecDepth 100000
theorem ka_world {w wr : World} {bs : List (Nat × Obj)} (_ : KA w bs wr) : ∃ x : World, x = wr := ⟨wr, rfl⟩
set_option maxHeartbeats 6400000 in
theorem lawCompareExponents_walk (xp xn xm xk : Int) (xA : Option Addr) (xc : Nat) (xq : List (List Nat)) (yp yn ym yk : Int) (yA : Option Addr) (yc : Nat) (yq : List (List Nat)) (r : Int) (code : Int) (w : World) (hr_x : Rd w xA xq)  (hn_x : xq.length ≤ 9223372036854775807) (hr_y : Rd w yA yq)  (hn_y : yq.length ≤ 9223372036854775807)
    (hS : (xq.length ≤ 1048576 → yq.length ≤ 1048576 → ∀ (gx : Nat) (gy : Nat) (w : World), Rd w (some ⟨gx, 0, none⟩) xq → Rd w (some ⟨gy, 0, none⟩) yq → Calls Try.prog 16 #[.agg #[.int .i64 xp, .int .i64 xn, .int .i64 xm, .int .i64 xk, .slice (some ⟨gx, 0, none⟩) xq.length xq.length], .agg #[.int .i64 yp, .int .i64 yn, .int .i64 ym, .int .i64 yk, .slice (some ⟨gy, 0, none⟩) yq.length yq.length]] w (fun e w' => e = .returned (.tuple #[.int .i64 r, .int .i64 code]) ∧ Below w.heap.size w w')))
    (hI : (xq.length ≤ 1048576 → yq.length ≤ 1048576 → ∀ (gx : Nat) (gy : Nat) (w : World), Rd w (some ⟨gx, 0, none⟩) xq → Rd w (some ⟨gy, 0, none⟩) yq → Calls Try.prog 17 #[.agg #[.int .i64 xp, .int .i64 xn, .int .i64 xm, .int .i64 xk, .slice (some ⟨gx, 0, none⟩) xq.length xq.length], .agg #[.int .i64 yp, .int .i64 yn, .int .i64 ym, .int .i64 yk, .slice (some ⟨gy, 0, none⟩) yq.length yq.length]] w (fun e w' => e = .returned (.tuple #[.int .i64 r, .int .i64 code]) ∧ Below w.heap.size w w'))) :
    Calls Try.prog 6 #[.agg #[.int .i64 xp, .int .i64 xn, .int .i64 xm, .int .i64 xk, .slice xA xq.length xc], .agg #[.int .i64 yp, .int .i64 yn, .int .i64 ym, .int .i64 yk, .slice yA yq.length yc]] w fun e w' => e = .returned (.bool true) ∧ Below w.heap.size w w' := by
  have hcode : (code != code) = false := by simp
  have hr0 : (r != r) = false := by simp
  go_enter Try.func6, Try.ntmps6
  go_wp2_with (first | (refine wpList_abs2 ?_; intro w0 hsz0 hB0 ha0 ha1; have hK : KA w [(w.heap.size, .cells #[.int .i64 xp, .int .i64 xn, .int .i64 xm, .int .i64 xk, .slice xA xq.length xc] 24 (0, 0)), ((w.heap.size + 1), .cells #[.int .i64 yp, .int .i64 yn, .int .i64 ym, .int .i64 yk, .slice yA yq.length yc] 24 (0, 0))] w0 := ⟨hB0, by intro b hb; simp only [List.mem_cons, List.not_mem_nil, or_false] at hb; rcases hb with rfl | rfl; exact ha0; exact ha1⟩; have z0 : w.heap.size + 2 ≤ w0.heap.size := Nat.le_of_eq hsz0.symm; clear hB0 hsz0 ha0 ha1) | (refine wpList_load_all rfl 24 _ rfl w.heap.size rfl _ _ _ (by exact (hK.box (w.heap.size, .cells #[.int .i64 xp, .int .i64 xn, .int .i64 xm, .int .i64 xk, .slice xA xq.length xc] 24 (0, 0)) (by simp))) Try.underlying24 rfl 5 (by kernel_rfl) rfl ?_))
  refine (szScheme_e xp xn xm xk xA xq.length xc 1048576 _ (by omega) hn_x (by omega)).mono ?_
  rintro e w1 ⟨r1, rfl, hr1, b1⟩
  have z1 : w0.heap.size ≤ w1.heap.size := size_after (Nat.le_refl _) b1
  replace hK := hK.after b1
  clear b1
  rcases hr1 with rfl | ⟨hr1, he1⟩
  · go_wp2_with fail
    go_ret
    exact ⟨rfl, hK.below⟩
  have hg1 : ¬ r1 < 0 := by omega
  go_wp2_with (refine wpList_load_all rfl 24 _ rfl (w.heap.size + 1) rfl _ _ _ (by exact (hK.box ((w.heap.size + 1), .cells #[.int .i64 yp, .int .i64 yn, .int .i64 ym, .int .i64 yk, .slice yA yq.length yc] 24 (0, 0)) (by simp))) Try.underlying24 rfl 5 (by kernel_rfl) rfl ?_)
  refine (szScheme_e yp yn ym yk yA yq.length yc r1 _ (by omega) hn_y (by omega)).mono ?_
  rintro e w2 ⟨r2, rfl, hr2, b2⟩
  have z2 : w1.heap.size ≤ w2.heap.size := size_after (Nat.le_refl _) b2
  replace hK := hK.after b2
  clear b2
  rcases hr2 with rfl | ⟨hr2, he2⟩
  · go_wp2_with fail
    go_ret
    exact ⟨rfl, hK.below⟩
  have hg2 : ¬ r2 < 0 := by omega
  have t_x : xq.length ≤ 1048576 := by omega
  have t_y : yq.length ≤ 1048576 := by omega
  have HSp := Lib.hid (hS t_x t_y)
  have HIm := Lib.hid (hI t_x t_y)
  clear hS hI
  go_wp2_with fail
  refine wp_region_held (S := fun w' => ∀ b ∈ ([(w.heap.size, .cells #[.int .i64 xp, .int .i64 xn, .int .i64 xm, .int .i64 xk, .slice xA xq.length xc] 24 (0, 0)), ((w.heap.size + 1), .cells #[.int .i64 yp, .int .i64 yn, .int .i64 ym, .int .i64 yk, .slice yA yq.length yc] 24 (0, 0))] : List (Nat × Obj)), At w' b.1 b.2) (by kernel_rfl) ?_
  change wpAnyH _ _ _ _ _ _ _ _ (World.drew _)
  obtain ⟨w3, hw3, hK, z3⟩ : ∃ W, W = World.drew _ ∧ KA w [(w.heap.size, .cells #[.int .i64 xp, .int .i64 xn, .int .i64 xm, .int .i64 xk, .slice xA xq.length xc] 24 (0, 0)), ((w.heap.size + 1), .cells #[.int .i64 yp, .int .i64 yn, .int .i64 ym, .int .i64 yk, .slice yA yq.length yc] 24 (0, 0))] W ∧ w2.heap.size ≤ W.heap.size := ⟨_, rfl, hK.drew, Nat.le_refl _⟩
  rw [← hw3]
  clear hw3
  refine held_yield 0 (some 23) (.agg #[.int .i64 xp, .int .i64 xn, .int .i64 xm, .int .i64 xk, .slice xA xq.length xc]) rfl (by kernel_rfl) (by kernel_rfl) (by kernel_rfl) (fun _ _ _ h => h) rfl rfl hK.box (fun w' h' => exec_load_all 24 _ rfl w.heap.size rfl _ _ _ (h' (w.heap.size, .cells #[.int .i64 xp, .int .i64 xn, .int .i64 xm, .int .i64 xk, .slice xA xq.length xc] 24 (0, 0)) (by simp)) Try.underlying24 rfl 5 (by kernel_rfl) rfl) ?_
  go_frame
  refine held_yield 2 (some 25) (.agg #[.int .i64 yp, .int .i64 yn, .int .i64 ym, .int .i64 yk, .slice yA yq.length yc]) rfl (by kernel_rfl) (by kernel_rfl) (by kernel_rfl) (fun _ _ _ h => h) rfl rfl hK.box (fun w' h' => exec_load_all 24 _ rfl (w.heap.size + 1) rfl _ _ _ (h' ((w.heap.size + 1), .cells #[.int .i64 yp, .int .i64 yn, .int .i64 ym, .int .i64 yk, .slice yA yq.length yc] 24 (0, 0)) (by simp)) Try.underlying24 rfl 5 (by kernel_rfl) rfl) ?_
  go_frame
  refine held_oper 1 (by kernel_rfl) rfl rfl (fun K' hK' => ?_)
  refine wp_call1 (some 24) rfl 9 _ _ rfl (fun args w => by kernel_rfl) _ rfl _ (toScheme_c xp xn xm xk xA xc xq _ (hr_x.keep hK.below) t_x) (fun e w4 h => ?_)
  obtain ⟨g4, rfl, hg4, h4, b4⟩ := h
  have z4 : w3.heap.size ≤ w4.heap.size := size_after (Nat.le_refl _) b4
  replace hK := hK.after b4
  clear b4
  replace hg4 := Nat.le_trans (Nat.le_refl _) hg4
  refine ⟨_, rfl, hK' _ _ hK.box ?_⟩
  clear hK' K'
  go_frame
  refine held_oper 3 (by kernel_rfl) rfl rfl (fun K' hK' => ?_)
  refine wp_call1 (some 26) rfl 9 _ _ rfl (fun args w => by kernel_rfl) _ rfl _ (toScheme_c yp yn ym yk yA yc yq _ (hr_y.keep hK.below) t_y) (fun e w5 h => ?_)
  obtain ⟨g5, rfl, hg5, h5, b5⟩ := h
  have z5 : w4.heap.size ≤ w5.heap.size := size_after (Nat.le_refl _) b5
  replace hK := hK.after b5
  replace h4 := h4.after b5
  clear b5
  replace hg5 := Nat.le_trans (Nat.le_refl _) hg5
  refine ⟨_, rfl, hK' _ _ hK.box ?_⟩
  clear hK' K'
  go_frame
  refine held_oper 4 (by kernel_rfl) rfl rfl (fun K' hK' => ?_)
  refine wp_call2 (some 27) rfl 16 _ _ _ rfl (fun args w => by kernel_rfl) _ _ rfl rfl _ (HSp.out _ _ _ (Rd.of_at h4 hr_x.good) (Rd.of_at h5 hr_y.good)) (fun e w6 h => ?_)
  obtain ⟨rfl, b6⟩ := h
  have z6 : w5.heap.size ≤ w6.heap.size := size_after (Nat.le_refl _) b6
  replace hK := hK.after b6
  replace h4 := h4.after b6
  replace h5 := h5.after b6
  clear b6
  clear h4
  clear h5
  refine ⟨_, rfl, hK' _ _ hK.box ?_⟩
  clear hK' K'
  go_frame
  refine held_yield 5 (some 22) (.tuple #[.int .i64 r, .int .i64 code]) rfl (by kernel_rfl) (by kernel_rfl) (by kernel_rfl) (fun _ _ _ h => h) rfl rfl hK.box (fun w' h' => exec_move _ rfl (.tuple #[.int .i64 r, .int .i64 code]) rfl) ?_
  go_frame
  refine held_yield 6 (some 28) (.int .i64 r) rfl (by kernel_rfl) (by kernel_rfl) (by kernel_rfl) (fun _ _ _ h => h) rfl rfl hK.box (fun w' h' => exec_extract _ 0 rfl #[.int .i64 r, .int .i64 code] rfl (.int .i64 r) rfl) ?_
  go_frame
  refine held_yield 7 (some 29) (.int .i64 code) rfl (by kernel_rfl) (by kernel_rfl) (by kernel_rfl) (fun _ _ _ h => h) rfl rfl hK.box (fun w' h' => exec_extract _ 1 rfl #[.int .i64 r, .int .i64 code] rfl (.int .i64 code) rfl) ?_
  go_frame
  refine held_yield 8 (some 6) (.int .i64 r) rfl (by kernel_rfl) (by kernel_rfl) (by kernel_rfl) (fun _ _ _ h => h) rfl rfl hK.box (fun w' h' => exec_assign _ rfl (.int .i64 r) rfl) ?_
  go_frame
  refine held_yield 9 (some 7) (.int .i64 code) rfl (by kernel_rfl) (by kernel_rfl) (by kernel_rfl) (fun _ _ _ h => h) rfl rfl hK.box (fun w' h' => exec_assign _ rfl (.int .i64 code) rfl) ?_
  go_frame
  refine wpAnyH_done (by kernel_rfl) ?_ _
  go_wp2_with (refine wpList_load_all rfl 24 _ rfl w.heap.size rfl _ _ _ (by exact (hK.box (w.heap.size, .cells #[.int .i64 xp, .int .i64 xn, .int .i64 xm, .int .i64 xk, .slice xA xq.length xc] 24 (0, 0)) (by simp))) Try.underlying24 rfl 5 (by kernel_rfl) rfl ?_)
  refine (toScheme_c xp xn xm xk xA xc xq _ (hr_x.keep hK.below) t_x).mono ?_
  rintro e w7 ⟨g7, rfl, hg7, h7, b7⟩
  have z7 : w6.heap.size ≤ w7.heap.size := size_after (Nat.le_refl _) b7
  replace hK := hK.after b7
  clear b7
  replace hg7 := Nat.le_trans (Nat.le_refl _) hg7
  have oh7 := Own.of_at h7 hr_x.len hg7 t_x
  have ioh7 := oh7.inn
  clear h7
  have bx := below1 w7 (.cells #[.int .i64 xp, .int .i64 xn, .int .i64 xm, .int .i64 xk, .slice (some ⟨g7, 0, none⟩) xq.length xq.length] 30 (0, 0))
  replace hK := hK.after bx
  replace oh7 := oh7.below bx
  have hx := al1_0 w7 (.cells #[.int .i64 xp, .int .i64 xn, .int .i64 xm, .int .i64 xk, .slice (some ⟨g7, 0, none⟩) xq.length xq.length] 30 (0, 0))
  replace hK : KA w [(w7.heap.size, .cells #[.int .i64 xp, .int .i64 xn, .int .i64 xm, .int .i64 xk, .slice (some ⟨g7, 0, none⟩) xq.length xq.length] 30 (0, 0)), (w.heap.size, .cells #[.int .i64 xp, .int .i64 xn, .int .i64 xm, .int .i64 xk, .slice xA xq.length xc] 24 (0, 0)), ((w.heap.size + 1), .cells #[.int .i64 yp, .int .i64 yn, .int .i64 ym, .int .i64 yk, .slice yA yq.length yc] 24 (0, 0))] _ := hK.more hx
  clear bx hx
  go_wp2_with (refine wpList_load_all rfl 24 _ rfl (w.heap.size + 1) rfl _ _ _ (by exact (hK.box ((w.heap.size + 1), .cells #[.int .i64 yp, .int .i64 yn, .int .i64 ym, .int .i64 yk, .slice yA yq.length yc] 24 (0, 0)) (by simp))) Try.underlying24 rfl 5 (by kernel_rfl) rfl ?_)
  refine (toScheme_c yp yn ym yk yA yc yq _ (hr_y.keep hK.below) t_y).mono ?_
  rintro e w9 ⟨g9, rfl, hg9, h9, b9⟩
  have z9 : w7.heap.size + 1 ≤ w9.heap.size := size_after (Nat.le_of_eq (size_al1 w7 (.cells #[.int .i64 xp, .int .i64 xn, .int .i64 xm, .int .i64 xk, .slice (some ⟨g7, 0, none⟩) xq.length xq.length] 30 (0, 0))).symm) b9
  replace hK := hK.after b9
  replace oh7 := oh7.below b9
  clear b9
  replace hg9 := Nat.le_trans (Nat.le_of_eq (size_al1 w7 (.cells #[.int .i64 xp, .int .i64 xn, .int .i64 xm, .int .i64 xk, .slice (some ⟨g7, 0, none⟩) xq.length xq.length] 30 (0, 0))).symm) hg9
  have oh9 := Own.of_at h9 hr_y.len hg9 t_y
  have ioh9 := oh9.inn
  clear h9
  have bx := below1 w9 (.cells #[.int .i64 yp, .int .i64 yn, .int .i64 ym, .int .i64 yk, .slice (some ⟨g9, 0, none⟩) yq.length yq.length] 30 (0, 0))
  replace hK := hK.after bx
  replace oh7 := oh7.below bx
  replace oh9 := oh9.below bx
  have hx := al1_0 w9 (.cells #[.int .i64 yp, .int .i64 yn, .int .i64 ym, .int .i64 yk, .slice (some ⟨g9, 0, none⟩) yq.length yq.length] 30 (0, 0))
  replace hK : KA w [(w9.heap.size, .cells #[.int .i64 yp, .int .i64 yn, .int .i64 ym, .int .i64 yk, .slice (some ⟨g9, 0, none⟩) yq.length yq.length] 30 (0, 0)), (w7.heap.size, .cells #[.int .i64 xp, .int .i64 xn, .int .i64 xm, .int .i64 xk, .slice (some ⟨g7, 0, none⟩) xq.length xq.length] 30 (0, 0)), (w.heap.size, .cells #[.int .i64 xp, .int .i64 xn, .int .i64 xm, .int .i64 xk, .slice xA xq.length xc] 24 (0, 0)), ((w.heap.size + 1), .cells #[.int .i64 yp, .int .i64 yn, .int .i64 ym, .int .i64 yk, .slice yA yq.length yc] 24 (0, 0))] _ := hK.more hx
  clear bx hx
  go_wp2_with (first | (refine wpList_load_all rfl 30 _ rfl w7.heap.size rfl _ _ _ (by exact (hK.box (w7.heap.size, .cells #[.int .i64 xp, .int .i64 xn, .int .i64 xm, .int .i64 xk, .slice (some ⟨g7, 0, none⟩) xq.length xq.length] 30 (0, 0)) (by simp))) Try.underlying30 rfl 5 (by kernel_rfl) rfl ?_) | (refine wpList_load_all rfl 30 _ rfl w9.heap.size rfl _ _ _ (by exact (hK.box (w9.heap.size, .cells #[.int .i64 yp, .int .i64 yn, .int .i64 ym, .int .i64 yk, .slice (some ⟨g9, 0, none⟩) yq.length yq.length] 30 (0, 0)) (by simp))) Try.underlying30 rfl 5 (by kernel_rfl) rfl ?_))
  refine (HIm.out _ _ _ (oh7.rd' hr_x.good) (oh9.rd' hr_y.good)).mono ?_
  rintro e w11 ⟨rfl, b11⟩
  have z11 : w9.heap.size + 1 ≤ w11.heap.size := size_after (Nat.le_of_eq (size_al1 w9 (.cells #[.int .i64 yp, .int .i64 yn, .int .i64 ym, .int .i64 yk, .slice (some ⟨g9, 0, none⟩) yq.length yq.length] 30 (0, 0))).symm) b11
  replace hK := hK.after b11
  replace oh7 := oh7.below b11
  replace oh9 := oh9.below b11
  clear b11
  go_wp2_with fail
  refine wp_region_held (S := fun w' => ∀ b ∈ ([(w9.heap.size, .cells #[.int .i64 yp, .int .i64 yn, .int .i64 ym, .int .i64 yk, .slice (some ⟨g9, 0, none⟩) yq.length yq.length] 30 (0, 0)), (w7.heap.size, .cells #[.int .i64 xp, .int .i64 xn, .int .i64 xm, .int .i64 xk, .slice (some ⟨g7, 0, none⟩) xq.length xq.length] 30 (0, 0)), (w.heap.size, .cells #[.int .i64 xp, .int .i64 xn, .int .i64 xm, .int .i64 xk, .slice xA xq.length xc] 24 (0, 0)), ((w.heap.size + 1), .cells #[.int .i64 yp, .int .i64 yn, .int .i64 ym, .int .i64 yk, .slice yA yq.length yc] 24 (0, 0))] : List (Nat × Obj)), At w' b.1 b.2) (by kernel_rfl) ?_
  change wpAnyH _ _ _ _ _ _ _ _ (World.drew _)
  obtain ⟨w12, hw12, hK, oh7, oh9, z12⟩ : ∃ W, W = World.drew _ ∧ KA w [(w9.heap.size, .cells #[.int .i64 yp, .int .i64 yn, .int .i64 ym, .int .i64 yk, .slice (some ⟨g9, 0, none⟩) yq.length yq.length] 30 (0, 0)), (w7.heap.size, .cells #[.int .i64 xp, .int .i64 xn, .int .i64 xm, .int .i64 xk, .slice (some ⟨g7, 0, none⟩) xq.length xq.length] 30 (0, 0)), (w.heap.size, .cells #[.int .i64 xp, .int .i64 xn, .int .i64 xm, .int .i64 xk, .slice xA xq.length xc] 24 (0, 0)), ((w.heap.size + 1), .cells #[.int .i64 yp, .int .i64 yn, .int .i64 ym, .int .i64 yk, .slice yA yq.length yc] 24 (0, 0))] W ∧ Own W (w6.heap.size) (.slice (some ⟨g7, 0, none⟩) xq.length xq.length) xq ∧ Own W (w7.heap.size + 1) (.slice (some ⟨g9, 0, none⟩) yq.length yq.length) yq ∧ w11.heap.size ≤ W.heap.size := ⟨_, rfl, hK.drew, oh7.drew, oh9.drew, Nat.le_refl _⟩
  rw [← hw12]
  clear hw12
  refine held_yield 0 (some 48) (.agg #[.int .i64 xp, .int .i64 xn, .int .i64 xm, .int .i64 xk, .slice (some ⟨g7, 0, none⟩) xq.length xq.length]) rfl (by kernel_rfl) (by kernel_rfl) (by kernel_rfl) (fun _ _ _ h => h) rfl rfl hK.box (fun w' h' => exec_load_all 30 _ rfl w7.heap.size rfl _ _ _ (h' (w7.heap.size, .cells #[.int .i64 xp, .int .i64 xn, .int .i64 xm, .int .i64 xk, .slice (some ⟨g7, 0, none⟩) xq.length xq.length] 30 (0, 0)) (by simp)) Try.underlying30 rfl 5 (by kernel_rfl) rfl) ?_
  go_frame
  refine held_yield 1 (some 49) (.agg #[.int .i64 xp, .int .i64 xn, .int .i64 xm, .int .i64 xk, .slice xA xq.length xc]) rfl (by kernel_rfl) (by kernel_rfl) (by kernel_rfl) (fun _ _ _ h => h) rfl rfl hK.box (fun w' h' => exec_load_all 24 _ rfl w.heap.size rfl _ _ _ (h' (w.heap.size, .cells #[.int .i64 xp, .int .i64 xn, .int .i64 xm, .int .i64 xk, .slice xA xq.length xc] 24 (0, 0)) (by simp)) Try.underlying24 rfl 5 (by kernel_rfl) rfl) ?_
  go_frame
  refine held_oper 2 (by kernel_rfl) rfl rfl (fun K' hK' => ?_)
  refine wp_call1 (some 50) rfl 9 _ _ rfl (fun args w => by kernel_rfl) _ rfl _ (toScheme_c xp xn xm xk xA xc xq _ (hr_x.keep hK.below) t_x) (fun e w13 h => ?_)
  obtain ⟨g13, rfl, hg13, h13, b13⟩ := h
  have z13 : w12.heap.size ≤ w13.heap.size := size_after (Nat.le_refl _) b13
  replace hK := hK.after b13
  replace oh7 := oh7.below b13
  replace oh9 := oh9.below b13
  clear b13
  replace hg13 := Nat.le_trans (Nat.le_refl _) hg13
  refine ⟨_, rfl, hK' _ _ hK.box ?_⟩
  clear hK' K'
  go_frame
  refine held_oper 3 (by kernel_rfl) rfl rfl (fun K' hK' => ?_)
  refine wp_call2 (some 51) rfl 11 _ _ _ rfl (fun args w => by kernel_rfl) _ _ rfl rfl _ (eqScheme_c xp xn xm xk _ _ _ _ xq _ (oh7.rd' hr_x.good) (Rd.of_at h13 hr_x.good) (by omega)) (fun e w14 h => ?_)
  obtain ⟨rfl, b14⟩ := h
  have z14 : w13.heap.size ≤ w14.heap.size := size_after (Nat.le_refl _) b14
  replace hK := hK.after b14
  replace oh7 := oh7.below b14
  replace oh9 := oh9.below b14
  replace h13 := h13.after b14
  clear b14
  clear h13
  refine ⟨_, rfl, hK' _ _ hK.box ?_⟩
  clear hK' K'
  go_frame
  refine held_exec 4 (some 52) (.bool false) (by kernel_rfl) rfl rfl rfl (exec_not 4 _ rfl true rfl) hK.box ?_
  go_frame
  refine wpAnyH_done (by kernel_rfl) ?_ _
  go_wp2_with fail
  refine wp_region_held (S := fun w' => ∀ b ∈ ([(w9.heap.size, .cells #[.int .i64 yp, .int .i64 yn, .int .i64 ym, .int .i64 yk, .slice (some ⟨g9, 0, none⟩) yq.length yq.length] 30 (0, 0)), (w7.heap.size, .cells #[.int .i64 xp, .int .i64 xn, .int .i64 xm, .int .i64 xk, .slice (some ⟨g7, 0, none⟩) xq.length xq.length] 30 (0, 0)), (w.heap.size, .cells #[.int .i64 xp, .int .i64 xn, .int .i64 xm, .int .i64 xk, .slice xA xq.length xc] 24 (0, 0)), ((w.heap.size + 1), .cells #[.int .i64 yp, .int .i64 yn, .int .i64 ym, .int .i64 yk, .slice yA yq.length yc] 24 (0, 0))] : List (Nat × Obj)), At w' b.1 b.2) (by kernel_rfl) ?_
  change wpAnyH _ _ _ _ _ _ _ _ (World.drew _)
  obtain ⟨w15, hw15, hK, oh7, oh9, z15⟩ : ∃ W, W = World.drew _ ∧ KA w [(w9.heap.size, .cells #[.int .i64 yp, .int .i64 yn, .int .i64 ym, .int .i64 yk, .slice (some ⟨g9, 0, none⟩) yq.length yq.length] 30 (0, 0)), (w7.heap.size, .cells #[.int .i64 xp, .int .i64 xn, .int .i64 xm, .int .i64 xk, .slice (some ⟨g7, 0, none⟩) xq.length xq.length] 30 (0, 0)), (w.heap.size, .cells #[.int .i64 xp, .int .i64 xn, .int .i64 xm, .int .i64 xk, .slice xA xq.length xc] 24 (0, 0)), ((w.heap.size + 1), .cells #[.int .i64 yp, .int .i64 yn, .int .i64 ym, .int .i64 yk, .slice yA yq.length yc] 24 (0, 0))] W ∧ Own W (w6.heap.size) (.slice (some ⟨g7, 0, none⟩) xq.length xq.length) xq ∧ Own W (w7.heap.size + 1) (.slice (some ⟨g9, 0, none⟩) yq.length yq.length) yq ∧ w14.heap.size ≤ W.heap.size := ⟨_, rfl, hK.drew, oh7.drew, oh9.drew, Nat.le_refl _⟩
  rw [← hw15]
  clear hw15
  refine held_yield 0 (some 53) (.agg #[.int .i64 yp, .int .i64 yn, .int .i64 ym, .int .i64 yk, .slice (some ⟨g9, 0, none⟩) yq.length yq.length]) rfl (by kernel_rfl) (by kernel_rfl) (by kernel_rfl) (fun _ _ _ h => h) rfl rfl hK.box (fun w' h' => exec_load_all 30 _ rfl w9.heap.size rfl _ _ _ (h' (w9.heap.size, .cells #[.int .i64 yp, .int .i64 yn, .int .i64 ym, .int .i64 yk, .slice (some ⟨g9, 0, none⟩) yq.length yq.length] 30 (0, 0)) (by simp)) Try.underlying30 rfl 5 (by kernel_rfl) rfl) ?_
  go_frame
  refine held_yield 1 (some 54) (.agg #[.int .i64 yp, .int .i64 yn, .int .i64 ym, .int .i64 yk, .slice yA yq.length yc]) rfl (by kernel_rfl) (by kernel_rfl) (by kernel_rfl) (fun _ _ _ h => h) rfl rfl hK.box (fun w' h' => exec_load_all 24 _ rfl (w.heap.size + 1) rfl _ _ _ (h' ((w.heap.size + 1), .cells #[.int .i64 yp, .int .i64 yn, .int .i64 ym, .int .i64 yk, .slice yA yq.length yc] 24 (0, 0)) (by simp)) Try.underlying24 rfl 5 (by kernel_rfl) rfl) ?_
  go_frame
  refine held_oper 2 (by kernel_rfl) rfl rfl (fun K' hK' => ?_)
  refine wp_call1 (some 55) rfl 9 _ _ rfl (fun args w => by kernel_rfl) _ rfl _ (toScheme_c yp yn ym yk yA yc yq _ (hr_y.keep hK.below) t_y) (fun e w16 h => ?_)
  obtain ⟨g16, rfl, hg16, h16, b16⟩ := h
  have z16 : w15.heap.size ≤ w16.heap.size := size_after (Nat.le_refl _) b16
  replace hK := hK.after b16
  replace oh7 := oh7.below b16
  replace oh9 := oh9.below b16
  clear b16
  replace hg16 := Nat.le_trans (Nat.le_refl _) hg16
  refine ⟨_, rfl, hK' _ _ hK.box ?_⟩
  clear hK' K'
  go_frame
  refine held_oper 3 (by kernel_rfl) rfl rfl (fun K' hK' => ?_)
  refine wp_call2 (some 56) rfl 11 _ _ _ rfl (fun args w => by kernel_rfl) _ _ rfl rfl _ (eqScheme_c yp yn ym yk _ _ _ _ yq _ (oh9.rd' hr_y.good) (Rd.of_at h16 hr_y.good) (by omega)) (fun e w17 h => ?_)
  obtain ⟨rfl, b17⟩ := h
  have z17 : w16.heap.size ≤ w17.heap.size := size_after (Nat.le_refl _) b17
  replace hK := hK.after b17
  replace oh7 := oh7.below b17
  replace oh9 := oh9.below b17
  replace h16 := h16.after b17
  clear b17
  clear h16
  refine ⟨_, rfl, hK' _ _ hK.box ?_⟩
  clear hK' K'
  go_frame
  refine held_exec 4 (some 57) (.bool false) (by kernel_rfl) rfl rfl rfl (exec_not 4 _ rfl true rfl) hK.box ?_
  go_frame
  refine wpAnyH_done (by kernel_rfl) ?_ _
  go_wp2_with fail
  go_ret
  exact ⟨rfl, hK.below⟩
end Go.Proofs.Ytphccbilldfdpaa
