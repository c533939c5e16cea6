/-
  laws.FnExactRanksOf: the walk: it returns true and writes nothing that was there. (Made by genlaw2.py.)
-/
import Derived.Test.YtebmkmkhfhmfbaaMat1
import Derived.Test.YtebmkmkhfhmfbaaRb6
namespace Go.Proofs.Ytebmkmkhfhmfbaa
open Go.RowKit
set_option maxRecDepth 100000
theorem ka_world {w wr : World} {bs : List (Nat × Obj)} (_ : KA w bs wr) : ∃ x : World, x = wr := ⟨wr, rfl⟩
set_option maxHeartbeats 6400000 in
theorem lawRanksOf_walk (xp xn xm xk : Int) (xA : Option Addr) (xc : Nat) (xq : List (List Nat)) (N : Nat) (R : Nat → List Int) (code : Int) (w : World) (hr_x : Rd w xA xq)  (hn_x : xq.length ≤ 9223372036854775807) (hrl : N + tot R N ≤ 1048576)
    (hS : (xq.length ≤ 1048576 → ∀ (gx : Nat) (w : World), Rd w (some ⟨gx, 0, none⟩) xq → Calls Try.prog 6 #[.agg #[.int .i64 xp, .int .i64 xn, .int .i64 xm, .int .i64 xk, .slice (some ⟨gx, 0, none⟩) xq.length xq.length]] w (ResV w N R code)))
    (hI : (xq.length ≤ 1048576 → ∀ (gx : Nat) (w : World), Rd w (some ⟨gx, 0, none⟩) xq → Calls Try.prog 8 #[.agg #[.int .i64 xp, .int .i64 xn, .int .i64 xm, .int .i64 xk, .slice (some ⟨gx, 0, none⟩) xq.length xq.length]] w (ResM w N R code))) :
    Calls Try.prog 3 #[.agg #[.int .i64 xp, .int .i64 xn, .int .i64 xm, .int .i64 xk, .slice xA xq.length xc]] w fun e w' => e = .returned (.bool true) ∧ Below w.heap.size w w' := by
  have hcode : (code != code) = false := by simp
  go_enter Try.func3, Try.ntmps3
  go_wp2_with (first | (refine wpList_abs1 ?_; intro w0 hsz0 hB0 ha0; have hK : KA w [(w.heap.size, .cells #[.int .i64 xp, .int .i64 xn, .int .i64 xm, .int .i64 xk, .slice xA xq.length xc] 24 (0, 0))] w0 := ⟨hB0, by intro b hb; simp only [List.mem_cons, List.not_mem_nil, or_false] at hb; rcases hb with rfl; exact ha0⟩; have z0 : w.heap.size + 1 ≤ w0.heap.size := Nat.le_of_eq hsz0.symm; clear hB0 hsz0 ha0) | (refine wpList_load_all rfl 24 _ rfl w.heap.size rfl _ _ _ (by exact (hK.box (w.heap.size, .cells #[.int .i64 xp, .int .i64 xn, .int .i64 xm, .int .i64 xk, .slice xA xq.length xc] 24 (0, 0)) (by simp))) Try.underlying24 rfl 5 (by kernel_rfl) rfl ?_))
  refine (szScheme_e xp xn xm xk xA xq.length xc 1048576 _ (by omega) hn_x (by omega)).mono ?_
  rintro e w1 ⟨r1, rfl, hr1, b1⟩
  have z1 : w0.heap.size ≤ w1.heap.size := size_after (Nat.le_refl _) b1
  replace hK := hK.after b1
  clear b1
  rcases hr1 with rfl | ⟨hr1, he1⟩
  · go_wp2_with fail
    go_ret
    exact ⟨rfl, hK.below⟩
  have hg1 : ¬ r1 < 0 := by omega
  have t_x : xq.length ≤ 1048576 := by omega
  have HSp := Lib.hid (hS t_x)
  have HIm := Lib.hid (hI t_x)
  clear hS hI
  have t9R : Hid (∀ i, i < N → (R i).length ≤ 9000000000000000000) := Lib.hid (fun i hi => by have := tot_ge R hi; omega)
  go_wp2_with (refine wpList_load_all rfl 24 _ rfl w.heap.size rfl _ _ _ (by exact (hK.box (w.heap.size, .cells #[.int .i64 xp, .int .i64 xn, .int .i64 xm, .int .i64 xk, .slice xA xq.length xc] 24 (0, 0)) (by simp))) Try.underlying24 rfl 5 (by kernel_rfl) rfl ?_)
  refine (toScheme_c xp xn xm xk xA xc xq _ (hr_x.keep hK.below) t_x).mono ?_
  rintro e w2 ⟨g2, rfl, hg2, h2, b2⟩
  have z2 : w1.heap.size ≤ w2.heap.size := size_after (Nat.le_refl _) b2
  replace hK := hK.after b2
  clear b2
  replace hg2 := Nat.le_trans (Nat.le_refl _) hg2
  go_wp2_with fail
  refine (HSp.out _ _ (Rd.of_at h2 hr_x.good)).mono ?_
  rintro e w3 ⟨v3, rfl, o0, b3⟩
  have z3 : w2.heap.size ≤ w3.heap.size := size_after (Nat.le_refl _) b3
  replace hK := hK.after b3
  replace h2 := h2.after b3
  clear b3
  clear h2
  obtain ⟨A0, c0, rfl, _⟩ := o0.rd
  replace o0 := o0.mono (Nat.le_refl _) (Nat.le_refl _)
  go_wp2_with (refine wpList_load_all rfl 24 _ rfl w.heap.size rfl _ _ _ (by exact (hK.box (w.heap.size, .cells #[.int .i64 xp, .int .i64 xn, .int .i64 xm, .int .i64 xk, .slice xA xq.length xc] 24 (0, 0)) (by simp))) Try.underlying24 rfl 5 (by kernel_rfl) rfl ?_)
  refine (toScheme_c xp xn xm xk xA xc xq _ (hr_x.keep hK.below) t_x).mono ?_
  rintro e w4 ⟨g4, rfl, hg4, h4, b4⟩
  have z4 : w3.heap.size ≤ w4.heap.size := size_after (Nat.le_refl _) b4
  replace hK := hK.after b4
  replace o0 := o0.below b4
  clear b4
  replace hg4 := Nat.le_trans (Nat.le_refl _) hg4
  have oh4 := Own.of_at h4 hr_x.len hg4 t_x
  have ioh4 := oh4.inn
  clear h4
  have bx := below1 w4 (.cells #[.int .i64 xp, .int .i64 xn, .int .i64 xm, .int .i64 xk, .slice (some ⟨g4, 0, none⟩) xq.length xq.length] 31 (0, 0))
  replace hK := hK.after bx
  replace o0 := o0.below bx
  replace oh4 := oh4.below bx
  have hx := al1_0 w4 (.cells #[.int .i64 xp, .int .i64 xn, .int .i64 xm, .int .i64 xk, .slice (some ⟨g4, 0, none⟩) xq.length xq.length] 31 (0, 0))
  replace hK : KA w [(w4.heap.size, .cells #[.int .i64 xp, .int .i64 xn, .int .i64 xm, .int .i64 xk, .slice (some ⟨g4, 0, none⟩) xq.length xq.length] 31 (0, 0)), (w.heap.size, .cells #[.int .i64 xp, .int .i64 xn, .int .i64 xm, .int .i64 xk, .slice xA xq.length xc] 24 (0, 0))] _ := hK.more hx
  clear bx hx
  go_wp2_with (refine wpList_load_all rfl 31 _ rfl w4.heap.size rfl _ _ _ (by exact (hK.box (w4.heap.size, .cells #[.int .i64 xp, .int .i64 xn, .int .i64 xm, .int .i64 xk, .slice (some ⟨g4, 0, none⟩) xq.length xq.length] 31 (0, 0)) (by simp))) Try.underlying31 rfl 5 (by kernel_rfl) rfl ?_)
  refine (HIm.out _ _ (oh4.rd' hr_x.good)).mono ?_
  rintro e w6 ⟨v6, rfl, o1, b6⟩
  have z6 : w4.heap.size + 1 ≤ w6.heap.size := size_after (Nat.le_of_eq (size_al1 w4 (.cells #[.int .i64 xp, .int .i64 xn, .int .i64 xm, .int .i64 xk, .slice (some ⟨g4, 0, none⟩) xq.length xq.length] 31 (0, 0))).symm) b6
  replace hK := hK.after b6
  replace o0 := o0.below b6
  replace oh4 := oh4.below b6
  clear b6
  obtain ⟨A1, c1, rfl, _⟩ := o1.rd
  replace o1 := o1.mono (Nat.le_of_eq (size_al1 w4 (.cells #[.int .i64 xp, .int .i64 xn, .int .i64 xm, .int .i64 xk, .slice (some ⟨g4, 0, none⟩) xq.length xq.length] 31 (0, 0))).symm) (Nat.le_refl _)
  go_wp2_with fail
  refine (eqInt64SS_c _ _ _ _ N R _ (o1.rd') (o0.rd') (by omega) t9R.out).mono ?_
  rintro e w7 ⟨rfl, b7⟩
  have z7 : w6.heap.size ≤ w7.heap.size := size_after (Nat.le_refl _) b7
  replace hK := hK.after b7
  replace o0 := o0.below b7
  replace oh4 := oh4.below b7
  replace o1 := o1.below b7
  clear b7
  go_wp2_with fail
  refine wp_region_held (S := fun w' => ∀ b ∈ ([(w4.heap.size, .cells #[.int .i64 xp, .int .i64 xn, .int .i64 xm, .int .i64 xk, .slice (some ⟨g4, 0, none⟩) xq.length xq.length] 31 (0, 0)), (w.heap.size, .cells #[.int .i64 xp, .int .i64 xn, .int .i64 xm, .int .i64 xk, .slice xA xq.length xc] 24 (0, 0))] : List (Nat × Obj)), At w' b.1 b.2) (by kernel_rfl) ?_
  change wpAnyH _ _ _ _ _ _ _ _ (World.drew _)
  obtain ⟨w8, hw8, hK, o0, oh4, o1, z8⟩ : ∃ W, W = World.drew _ ∧ KA w [(w4.heap.size, .cells #[.int .i64 xp, .int .i64 xn, .int .i64 xm, .int .i64 xk, .slice (some ⟨g4, 0, none⟩) xq.length xq.length] 31 (0, 0)), (w.heap.size, .cells #[.int .i64 xp, .int .i64 xn, .int .i64 xm, .int .i64 xk, .slice xA xq.length xc] 24 (0, 0))] W ∧ OwnV W (w2.heap.size) w3.heap.size (.slice A0 N c0) N R ∧ Own W (w3.heap.size) (.slice (some ⟨g4, 0, none⟩) xq.length xq.length) xq ∧ OwnM W (w4.heap.size + 1) w6.heap.size (.slice A1 N c1) N R ∧ w7.heap.size ≤ W.heap.size := ⟨_, rfl, hK.drew, o0.drewN 1, oh4.drew, o1.drewN 1, Nat.le_refl _⟩
  rw [← hw8]
  clear hw8
  refine held_yield 0 (some 41) (.agg #[.int .i64 xp, .int .i64 xn, .int .i64 xm, .int .i64 xk, .slice (some ⟨g4, 0, none⟩) xq.length xq.length]) rfl (by kernel_rfl) (by kernel_rfl) (by kernel_rfl) (fun _ _ _ h => h) rfl rfl hK.box (fun w' h' => exec_load_all 31 _ rfl w4.heap.size rfl _ _ _ (h' (w4.heap.size, .cells #[.int .i64 xp, .int .i64 xn, .int .i64 xm, .int .i64 xk, .slice (some ⟨g4, 0, none⟩) xq.length xq.length] 31 (0, 0)) (by simp)) Try.underlying31 rfl 5 (by kernel_rfl) rfl) ?_
  go_frame
  refine held_yield 1 (some 42) (.agg #[.int .i64 xp, .int .i64 xn, .int .i64 xm, .int .i64 xk, .slice xA xq.length xc]) rfl (by kernel_rfl) (by kernel_rfl) (by kernel_rfl) (fun _ _ _ h => h) rfl rfl hK.box (fun w' h' => exec_load_all 24 _ rfl w.heap.size rfl _ _ _ (h' (w.heap.size, .cells #[.int .i64 xp, .int .i64 xn, .int .i64 xm, .int .i64 xk, .slice xA xq.length xc] 24 (0, 0)) (by simp)) Try.underlying24 rfl 5 (by kernel_rfl) rfl) ?_
  go_frame
  refine held_oper 2 (by kernel_rfl) rfl rfl (fun K' hK' => ?_)
  refine wp_call1 (some 43) rfl 7 _ _ rfl (fun args w => by kernel_rfl) _ rfl _ (toScheme_c xp xn xm xk xA xc xq _ (hr_x.keep hK.below) t_x) (fun e w9 h => ?_)
  obtain ⟨g9, rfl, hg9, h9, b9⟩ := h
  have z9 : w8.heap.size ≤ w9.heap.size := size_after (Nat.le_refl _) b9
  replace hK := hK.after b9
  replace o0 := o0.below b9
  replace oh4 := oh4.below b9
  replace o1 := o1.below b9
  clear b9
  replace hg9 := Nat.le_trans (Nat.le_refl _) hg9
  refine ⟨_, rfl, hK' _ _ hK.box ?_⟩
  clear hK' K'
  go_frame
  refine held_oper 3 (by kernel_rfl) rfl rfl (fun K' hK' => ?_)
  refine wp_call2 (some 44) rfl 10 _ _ _ rfl (fun args w => by kernel_rfl) _ _ rfl rfl _ (eqScheme_c xp xn xm xk _ _ _ _ xq _ (oh4.rd' hr_x.good) (Rd.of_at h9 hr_x.good) (by omega)) (fun e w10 h => ?_)
  obtain ⟨rfl, b10⟩ := h
  have z10 : w9.heap.size ≤ w10.heap.size := size_after (Nat.le_refl _) b10
  replace hK := hK.after b10
  replace o0 := o0.below b10
  replace oh4 := oh4.below b10
  replace o1 := o1.below b10
  replace h9 := h9.after b10
  clear b10
  clear h9
  refine ⟨_, rfl, hK' _ _ hK.box ?_⟩
  clear hK' K'
  go_frame
  refine held_exec 4 (some 45) (.bool false) (by kernel_rfl) rfl rfl rfl (exec_not 4 _ rfl true rfl) hK.box ?_
  go_frame
  refine wpAnyH_done (by kernel_rfl) ?_ _
  go_wp2_with (refine wpList_load_all rfl 31 _ rfl w4.heap.size rfl _ _ _ (by exact (hK.box (w4.heap.size, .cells #[.int .i64 xp, .int .i64 xn, .int .i64 xm, .int .i64 xk, .slice (some ⟨g4, 0, none⟩) xq.length xq.length] 31 (0, 0)) (by simp))) Try.underlying31 rfl 5 (by kernel_rfl) rfl ?_)
  have hneg11 : ¬ (1 : Int) + (xq.length : Int) * 27 < 0 := by omega
  refine (markScheme_2 xp xn xm xk (1) _ _ (by simp) oh4 t_x (by omega)).mono ?_
  rintro e w11 ⟨rfl, hG, hH⟩
  have S11 := Same.of_in hG ioh4
  have z11 : w10.heap.size ≤ w11.heap.size := Nat.le_trans (Nat.le_refl _) S11.size
  replace hK := hK.grown oh4 (by omega) hG (by intro b hb; simp only [List.mem_cons, List.not_mem_nil, or_false] at hb; rcases hb with rfl | rfl <;> exact ⟨_, _, rfl, by decide⟩)
  replace o0 := o0.same S11 (by omega)
  replace o1 := o1.same S11 (by omega)
  clear S11 hG
  clear hH
  clear oh4
  go_wp2_with fail
  refine (eqInt64SS_c _ _ _ _ N R _ (o1.rd') (o0.rd') (by omega) t9R.out).mono ?_
  rintro e w12 ⟨rfl, b12⟩
  have z12 : w11.heap.size ≤ w12.heap.size := size_after (Nat.le_refl _) b12
  replace hK := hK.after b12
  replace o0 := o0.below b12
  replace o1 := o1.below b12
  clear b12
  go_wp2_with fail
  have hneg13 : ¬ (1 : Int) + ((tot R N : Nat) : Int) < 0 := by omega
  refine (markInt64SS_2 (1) _ N R _ (by simp) o1 hrl (by omega)).mono ?_
  rintro e w13 ⟨rfl, hH, S13⟩
  have z13 : w12.heap.size ≤ w13.heap.size := Nat.le_trans (Nat.le_refl _) S13.size
  replace hK := hK.same S13 (by omega) (by intro b hb; simp only [List.mem_cons, List.not_mem_nil, or_false] at hb; rcases hb with rfl | rfl <;> (dsimp only; omega))
  replace o0 := o0.same S13 (by omega)
  clear S13
  clear o1
  go_wp2_with fail
  refine (heldInt64SS_2 N R _ hH hrl).mono ?_
  rintro e w14 ⟨rfl, rfl⟩
  go_wp2_with (refine wpList_load_all rfl 24 _ rfl w.heap.size rfl _ _ _ (by exact (hK.box (w.heap.size, .cells #[.int .i64 xp, .int .i64 xn, .int .i64 xm, .int .i64 xk, .slice xA xq.length xc] 24 (0, 0)) (by simp))) Try.underlying24 rfl 5 (by kernel_rfl) rfl ?_)
  refine (toScheme_c xp xn xm xk xA xc xq _ (hr_x.keep hK.below) t_x).mono ?_
  rintro e w15 ⟨g15, rfl, hg15, h15, b15⟩
  have z15 : w13.heap.size ≤ w15.heap.size := size_after (Nat.le_refl _) b15
  replace hK := hK.after b15
  replace o0 := o0.below b15
  replace hH := hH.below b15
  clear b15
  replace hg15 := Nat.le_trans (Nat.le_refl _) hg15
  go_wp2_with fail
  refine (HIm.out _ _ (Rd.of_at h15 hr_x.good)).mono ?_
  rintro e w16 ⟨v16, rfl, o2, b16⟩
  have z16 : w15.heap.size ≤ w16.heap.size := size_after (Nat.le_refl _) b16
  replace hK := hK.after b16
  replace o0 := o0.below b16
  replace hH := hH.below b16
  replace h15 := h15.after b16
  clear b16
  clear h15
  obtain ⟨A2, c2, rfl, _⟩ := o2.rd
  replace o2 := o2.mono (Nat.le_refl _) (Nat.le_refl _)
  go_wp2_with fail
  refine (eqInt64SS_c _ _ _ _ N R _ (o2.rd') (o0.rd') (by omega) t9R.out).mono ?_
  rintro e w17 ⟨rfl, b17⟩
  have z17 : w16.heap.size ≤ w17.heap.size := size_after (Nat.le_refl _) b17
  replace hK := hK.after b17
  replace o0 := o0.below b17
  replace hH := hH.below b17
  replace o2 := o2.below b17
  clear b17
  clear o2 o0
  go_wp2_with fail
  refine (heldInt64SS_2 N R _ hH hrl).mono ?_
  rintro e w18 ⟨rfl, rfl⟩
  go_wp2_with fail
  go_ret
  exact ⟨rfl, hK.below⟩
end Go.Proofs.Ytebmkmkhfhmfbaa
