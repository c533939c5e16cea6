/-
  laws.FnExactMakeList: the walk: it returns true and writes nothing that was there. (Made by genlaw2.py.)
-/
import Derived.Test.YtbahcbmmkbokgaaLKI
import Derived.Test.YtbahcbmmkbokgaaMth1
namespace Go.Proofs.Ytbahcbmmkbokgaa
open Go.RowKit
set_option maxRecDepth 100000
theorem ka_world {w wr : World} {bs : List (Nat × Obj)} (_ : KA w bs wr) : ∃ x : World, x = wr := ⟨wr, rfl⟩
set_option maxHeartbeats 6400000 in
theorem lawMakeList_walk (mp mn mm mk : Int) (mA : Option Addr) (mc : Nat) (mq : List (List Nat)) (uA : Option Addr) (uc : Nat) (u : List Int) (vA : Option Addr) (vc : Nat) (v : List Int) (rs : List Int) (code : Int) (w : World) (hr_m : Rd w mA mq)  (hn_m : mq.length ≤ 9223372036854775807) (hm_u : RdI w uA u) (hn_u : u.length ≤ 9223372036854775807) (hm_v : RdI w vA v) (hn_v : v.length ≤ 9223372036854775807) (hrl : rs.length ≤ 1048576)
    (hS : (mq.length ≤ 1048576 → u.length ≤ 1048576 → v.length ≤ 1048576 → ∀ (gm : Nat) (gu : Nat) (gv : Nat) (w : World), Rd w (some ⟨gm, 0, none⟩) mq → RdI w (some ⟨gu, 0, none⟩) u → RdI w (some ⟨gv, 0, none⟩) v → Calls Try.prog 15 #[.agg #[.int .i64 mp, .int .i64 mn, .int .i64 mm, .int .i64 mk, .slice (some ⟨gm, 0, none⟩) mq.length mq.length], .slice (some ⟨gu, 0, none⟩) u.length u.length, .slice (some ⟨gv, 0, none⟩) v.length v.length] w (ResI w rs code)))
    (hI : (mq.length ≤ 1048576 → u.length ≤ 1048576 → v.length ≤ 1048576 → ∀ (gm : Nat) (gu : Nat) (gv : Nat) (w : World), Rd w (some ⟨gm, 0, none⟩) mq → RdI w (some ⟨gu, 0, none⟩) u → RdI w (some ⟨gv, 0, none⟩) v → Calls Try.prog 17 #[.agg #[.int .i64 mp, .int .i64 mn, .int .i64 mm, .int .i64 mk, .slice (some ⟨gm, 0, none⟩) mq.length mq.length], .slice (some ⟨gu, 0, none⟩) u.length u.length, .slice (some ⟨gv, 0, none⟩) v.length v.length] w (ResI w rs code))) :
    Calls Try.prog 4 #[.agg #[.int .i64 mp, .int .i64 mn, .int .i64 mm, .int .i64 mk, .slice mA mq.length mc], .slice uA u.length uc, .slice vA v.length vc] w fun e w' => e = .returned (.bool true) ∧ Below w.heap.size w w' := by
  have hcode : (code != code) = false := by simp
  go_enter Try.func4, Try.ntmps4
  by_cases hL_u : (1048576 : Int) < (u.length : Int)
  · go_wp2_with (refine wpList_abs1 ?_; intro w0 hsz0 hB0 ha0; have hK : KA w [(w.heap.size, .cells #[.int .i64 mp, .int .i64 mn, .int .i64 mm, .int .i64 mk, .slice mA mq.length mc] 24 (0, 0))] w0 := ⟨hB0, by intro b hb; simp only [List.mem_cons, List.not_mem_nil, or_false] at hb; rcases hb with rfl; exact ha0⟩; have z0 : w.heap.size + 1 ≤ w0.heap.size := Nat.le_of_eq hsz0.symm; clear hB0 hsz0 ha0)
    go_ret
    exact ⟨rfl, hK.below⟩
  by_cases hL_v : (1048576 : Int) < (v.length : Int)
  · go_wp2_with (refine wpList_abs1 ?_; intro w0 hsz0 hB0 ha0; have hK : KA w [(w.heap.size, .cells #[.int .i64 mp, .int .i64 mn, .int .i64 mm, .int .i64 mk, .slice mA mq.length mc] 24 (0, 0))] w0 := ⟨hB0, by intro b hb; simp only [List.mem_cons, List.not_mem_nil, or_false] at hb; rcases hb with rfl; exact ha0⟩; have z0 : w.heap.size + 1 ≤ w0.heap.size := Nat.le_of_eq hsz0.symm; clear hB0 hsz0 ha0)
    go_ret
    exact ⟨rfl, hK.below⟩
  go_wp2_with (first | (refine wpList_abs1 ?_; intro w0 hsz0 hB0 ha0; have hK : KA w [(w.heap.size, .cells #[.int .i64 mp, .int .i64 mn, .int .i64 mm, .int .i64 mk, .slice mA mq.length mc] 24 (0, 0))] w0 := ⟨hB0, by intro b hb; simp only [List.mem_cons, List.not_mem_nil, or_false] at hb; rcases hb with rfl; exact ha0⟩; have z0 : w.heap.size + 1 ≤ w0.heap.size := Nat.le_of_eq hsz0.symm; clear hB0 hsz0 ha0) | (refine wpList_load_all rfl 24 _ rfl w.heap.size rfl _ _ _ (by exact (hK.box (w.heap.size, .cells #[.int .i64 mp, .int .i64 mn, .int .i64 mm, .int .i64 mk, .slice mA mq.length mc] 24 (0, 0)) (by simp))) Try.underlying24 rfl 5 (by kernel_rfl) rfl ?_))
  refine (szMethod_e mp mn mm mk mA mq.length mc 1048576 _ (by omega) hn_m (by omega)).mono ?_
  rintro e w1 ⟨r1, rfl, hr1, b1⟩
  have z1 : w0.heap.size ≤ w1.heap.size := size_after (Nat.le_refl _) b1
  replace hK := hK.after b1
  clear b1
  rcases hr1 with rfl | ⟨hr1, he1⟩
  · go_wp2_with fail
    go_ret
    exact ⟨rfl, hK.below⟩
  have hg1 : ¬ r1 < 0 := by omega
  have t_m : mq.length ≤ 1048576 := by omega
  have t_u : u.length ≤ 1048576 := by omega
  have t_v : v.length ≤ 1048576 := by omega
  have HSp := Lib.hid (hS t_m t_u t_v)
  have HIm := Lib.hid (hI t_m t_u t_v)
  clear hS hI
  go_wp2_with (refine wpList_load_all rfl 24 _ rfl w.heap.size rfl _ _ _ (by exact (hK.box (w.heap.size, .cells #[.int .i64 mp, .int .i64 mn, .int .i64 mm, .int .i64 mk, .slice mA mq.length mc] 24 (0, 0)) (by simp))) Try.underlying24 rfl 5 (by kernel_rfl) rfl ?_)
  refine (toMethod_c mp mn mm mk mA mc mq _ (hr_m.keep hK.below) t_m).mono ?_
  rintro e w2 ⟨g2, rfl, hg2, h2, b2⟩
  have z2 : w1.heap.size ≤ w2.heap.size := size_after (Nat.le_refl _) b2
  replace hK := hK.after b2
  clear b2
  replace hg2 := Nat.le_trans (Nat.le_refl _) hg2
  go_wp2_with fail
  refine (toInt64S_c uA uc u _ (hm_u.keep hK.below) t_u).mono ?_
  rintro e w3 ⟨g3, rfl, hg3, h3, b3⟩
  have z3 : w2.heap.size ≤ w3.heap.size := size_after (Nat.le_refl _) b3
  replace hK := hK.after b3
  replace h2 := h2.after b3
  clear b3
  replace hg3 := Nat.le_trans (Nat.le_refl _) hg3
  go_wp2_with fail
  refine (toInt64S_c vA vc v _ (hm_v.keep hK.below) t_v).mono ?_
  rintro e w4 ⟨g4, rfl, hg4, h4, b4⟩
  have z4 : w3.heap.size ≤ w4.heap.size := size_after (Nat.le_refl _) b4
  replace hK := hK.after b4
  replace h2 := h2.after b4
  replace h3 := h3.after b4
  clear b4
  replace hg4 := Nat.le_trans (Nat.le_refl _) hg4
  go_wp2_with fail
  refine (HSp.out _ _ _ _ (Rd.of_at h2 hr_m.good) (RdI.of_iar h3) (RdI.of_iar h4)).mono ?_
  rintro e w5 ⟨v5, rfl, o0, b5⟩
  have z5 : w4.heap.size ≤ w5.heap.size := size_after (Nat.le_refl _) b5
  replace hK := hK.after b5
  replace h2 := h2.after b5
  replace h3 := h3.after b5
  replace h4 := h4.after b5
  clear b5
  clear h2
  clear h3
  clear h4
  replace o0 := o0.mono (Nat.le_refl _)
  have io0 := o0.inn
  obtain ⟨A0, c0, rfl, _⟩ := o0.rd
  go_wp2_with (refine wpList_load_all rfl 24 _ rfl w.heap.size rfl _ _ _ (by exact (hK.box (w.heap.size, .cells #[.int .i64 mp, .int .i64 mn, .int .i64 mm, .int .i64 mk, .slice mA mq.length mc] 24 (0, 0)) (by simp))) Try.underlying24 rfl 5 (by kernel_rfl) rfl ?_)
  refine (toMethod_c mp mn mm mk mA mc mq _ (hr_m.keep hK.below) t_m).mono ?_
  rintro e w6 ⟨g6, rfl, hg6, h6, b6⟩
  have z6 : w5.heap.size ≤ w6.heap.size := size_after (Nat.le_refl _) b6
  replace hK := hK.after b6
  replace o0 := o0.below b6
  clear b6
  replace hg6 := Nat.le_trans (Nat.le_refl _) hg6
  have oh6 := Own.of_at h6 hr_m.len hg6 t_m
  have ioh6 := oh6.inn
  clear h6
  have bx := below1 w6 (.cells #[.int .i64 mp, .int .i64 mn, .int .i64 mm, .int .i64 mk, .slice (some ⟨g6, 0, none⟩) mq.length mq.length] 33 (0, 0))
  replace hK := hK.after bx
  replace o0 := o0.below bx
  replace oh6 := oh6.below bx
  have hx := al1_0 w6 (.cells #[.int .i64 mp, .int .i64 mn, .int .i64 mm, .int .i64 mk, .slice (some ⟨g6, 0, none⟩) mq.length mq.length] 33 (0, 0))
  replace hK : KA w [(w6.heap.size, .cells #[.int .i64 mp, .int .i64 mn, .int .i64 mm, .int .i64 mk, .slice (some ⟨g6, 0, none⟩) mq.length mq.length] 33 (0, 0)), (w.heap.size, .cells #[.int .i64 mp, .int .i64 mn, .int .i64 mm, .int .i64 mk, .slice mA mq.length mc] 24 (0, 0))] _ := hK.more hx
  clear bx hx
  go_wp2_with fail
  refine (toInt64S_c uA uc u _ (hm_u.keep hK.below) t_u).mono ?_
  rintro e w8 ⟨g8, rfl, hg8, h8, b8⟩
  have z8 : w6.heap.size + 1 ≤ w8.heap.size := size_after (Nat.le_of_eq (size_al1 w6 (.cells #[.int .i64 mp, .int .i64 mn, .int .i64 mm, .int .i64 mk, .slice (some ⟨g6, 0, none⟩) mq.length mq.length] 33 (0, 0))).symm) b8
  replace hK := hK.after b8
  replace o0 := o0.below b8
  replace oh6 := oh6.below b8
  clear b8
  replace hg8 := Nat.le_trans (Nat.le_of_eq (size_al1 w6 (.cells #[.int .i64 mp, .int .i64 mn, .int .i64 mm, .int .i64 mk, .slice (some ⟨g6, 0, none⟩) mq.length mq.length] 33 (0, 0))).symm) hg8
  have oh8 := OwnI.of_at h8 hg8 t_u
  have ioh8 := oh8.inn
  clear h8
  go_wp2_with fail
  refine (toInt64S_c vA vc v _ (hm_v.keep hK.below) t_v).mono ?_
  rintro e w9 ⟨g9, rfl, hg9, h9, b9⟩
  have z9 : w8.heap.size ≤ w9.heap.size := size_after (Nat.le_refl _) b9
  replace hK := hK.after b9
  replace o0 := o0.below b9
  replace oh6 := oh6.below b9
  replace oh8 := oh8.below b9
  clear b9
  replace hg9 := Nat.le_trans (Nat.le_refl _) hg9
  have oh9 := OwnI.of_at h9 hg9 t_v
  have ioh9 := oh9.inn
  clear h9
  go_wp2_with (refine wpList_load_all rfl 33 _ rfl w6.heap.size rfl _ _ _ (by exact (hK.box (w6.heap.size, .cells #[.int .i64 mp, .int .i64 mn, .int .i64 mm, .int .i64 mk, .slice (some ⟨g6, 0, none⟩) mq.length mq.length] 33 (0, 0)) (by simp))) Try.underlying33 rfl 5 (by kernel_rfl) rfl ?_)
  refine (HIm.out _ _ _ _ (oh6.rd' hr_m.good) (oh8.rd') (oh9.rd')).mono ?_
  rintro e w10 ⟨v10, rfl, o1, b10⟩
  have z10 : w9.heap.size ≤ w10.heap.size := size_after (Nat.le_refl _) b10
  replace hK := hK.after b10
  replace o0 := o0.below b10
  replace oh6 := oh6.below b10
  replace oh8 := oh8.below b10
  replace oh9 := oh9.below b10
  clear b10
  replace o1 := o1.mono (Nat.le_refl _)
  have io1 := o1.inn
  obtain ⟨A1, c1, rfl, _⟩ := o1.rd
  go_wp2_with fail
  refine (eqInt64S_c _ _ _ _ rs _ (o1.rd') (o0.rd') (by omega)).mono ?_
  rintro e w11 ⟨rfl, b11⟩
  have z11 : w10.heap.size ≤ w11.heap.size := size_after (Nat.le_refl _) b11
  replace hK := hK.after b11
  replace o0 := o0.below b11
  replace oh6 := oh6.below b11
  replace oh8 := oh8.below b11
  replace oh9 := oh9.below b11
  replace o1 := o1.below b11
  clear b11
  go_wp2_with fail
  refine wp_region_held (S := fun w' => ∀ b ∈ ([(w6.heap.size, .cells #[.int .i64 mp, .int .i64 mn, .int .i64 mm, .int .i64 mk, .slice (some ⟨g6, 0, none⟩) mq.length mq.length] 33 (0, 0)), (w.heap.size, .cells #[.int .i64 mp, .int .i64 mn, .int .i64 mm, .int .i64 mk, .slice mA mq.length mc] 24 (0, 0))] : List (Nat × Obj)), At w' b.1 b.2) (by kernel_rfl) ?_
  change wpAnyH _ _ _ _ _ _ _ _ (World.drew _)
  obtain ⟨w12, hw12, hK, o0, oh6, oh8, oh9, o1, z12⟩ : ∃ W, W = World.drew _ ∧ KA w [(w6.heap.size, .cells #[.int .i64 mp, .int .i64 mn, .int .i64 mm, .int .i64 mk, .slice (some ⟨g6, 0, none⟩) mq.length mq.length] 33 (0, 0)), (w.heap.size, .cells #[.int .i64 mp, .int .i64 mn, .int .i64 mm, .int .i64 mk, .slice mA mq.length mc] 24 (0, 0))] W ∧ OwnI W (w4.heap.size) (.slice A0 rs.length c0) rs ∧ Own W (w5.heap.size) (.slice (some ⟨g6, 0, none⟩) mq.length mq.length) mq ∧ OwnI W (w6.heap.size + 1) (.slice (some ⟨g8, 0, none⟩) u.length u.length) u ∧ OwnI W (w8.heap.size) (.slice (some ⟨g9, 0, none⟩) v.length v.length) v ∧ OwnI W (w9.heap.size) (.slice A1 rs.length c1) rs ∧ w11.heap.size ≤ W.heap.size := ⟨_, rfl, hK.drew, o0, oh6.drew, oh8, oh9, o1, Nat.le_refl _⟩
  rw [← hw12]
  clear hw12
  refine held_yield 0 (some 63) (.agg #[.int .i64 mp, .int .i64 mn, .int .i64 mm, .int .i64 mk, .slice (some ⟨g6, 0, none⟩) mq.length mq.length]) rfl (by kernel_rfl) (by kernel_rfl) (by kernel_rfl) (fun _ _ _ h => h) rfl rfl hK.box (fun w' h' => exec_load_all 33 _ rfl w6.heap.size rfl _ _ _ (h' (w6.heap.size, .cells #[.int .i64 mp, .int .i64 mn, .int .i64 mm, .int .i64 mk, .slice (some ⟨g6, 0, none⟩) mq.length mq.length] 33 (0, 0)) (by simp)) Try.underlying33 rfl 5 (by kernel_rfl) rfl) ?_
  go_frame
  refine held_yield 1 (some 64) (.agg #[.int .i64 mp, .int .i64 mn, .int .i64 mm, .int .i64 mk, .slice mA mq.length mc]) rfl (by kernel_rfl) (by kernel_rfl) (by kernel_rfl) (fun _ _ _ h => h) rfl rfl hK.box (fun w' h' => exec_load_all 24 _ rfl w.heap.size rfl _ _ _ (h' (w.heap.size, .cells #[.int .i64 mp, .int .i64 mn, .int .i64 mm, .int .i64 mk, .slice mA mq.length mc] 24 (0, 0)) (by simp)) Try.underlying24 rfl 5 (by kernel_rfl) rfl) ?_
  go_frame
  refine held_oper 2 (by kernel_rfl) rfl rfl (fun K' hK' => ?_)
  refine wp_call1 (some 65) rfl 8 _ _ rfl (fun args w => by kernel_rfl) _ rfl _ (toMethod_c mp mn mm mk mA mc mq _ (hr_m.keep hK.below) t_m) (fun e w13 h => ?_)
  obtain ⟨g13, rfl, hg13, h13, b13⟩ := h
  have z13 : w12.heap.size ≤ w13.heap.size := size_after (Nat.le_refl _) b13
  replace hK := hK.after b13
  replace o0 := o0.below b13
  replace oh6 := oh6.below b13
  replace oh8 := oh8.below b13
  replace oh9 := oh9.below b13
  replace o1 := o1.below b13
  clear b13
  replace hg13 := Nat.le_trans (Nat.le_refl _) hg13
  refine ⟨_, rfl, hK' _ _ hK.box ?_⟩
  clear hK' K'
  go_frame
  refine held_oper 3 (by kernel_rfl) rfl rfl (fun K' hK' => ?_)
  refine wp_call2 (some 66) rfl 11 _ _ _ rfl (fun args w => by kernel_rfl) _ _ rfl rfl _ (eqMethod_c mp mn mm mk _ _ _ _ mq _ (oh6.rd' hr_m.good) (Rd.of_at h13 hr_m.good) (by omega)) (fun e w14 h => ?_)
  obtain ⟨rfl, b14⟩ := h
  have z14 : w13.heap.size ≤ w14.heap.size := size_after (Nat.le_refl _) b14
  replace hK := hK.after b14
  replace o0 := o0.below b14
  replace oh6 := oh6.below b14
  replace oh8 := oh8.below b14
  replace oh9 := oh9.below b14
  replace o1 := o1.below b14
  replace h13 := h13.after b14
  clear b14
  clear h13
  refine ⟨_, rfl, hK' _ _ hK.box ?_⟩
  clear hK' K'
  go_frame
  refine held_exec 4 (some 67) (.bool false) (by kernel_rfl) rfl rfl rfl (exec_not 4 _ rfl true rfl) hK.box ?_
  go_frame
  refine wpAnyH_done (by kernel_rfl) ?_ _
  go_wp2_with fail
  refine (toInt64S_c uA uc u _ (hm_u.keep hK.below) t_u).mono ?_
  rintro e w15 ⟨g15, rfl, hg15, h15, b15⟩
  have z15 : w14.heap.size ≤ w15.heap.size := size_after (Nat.le_refl _) b15
  replace hK := hK.after b15
  replace o0 := o0.below b15
  replace oh6 := oh6.below b15
  replace oh8 := oh8.below b15
  replace oh9 := oh9.below b15
  replace o1 := o1.below b15
  clear b15
  replace hg15 := Nat.le_trans (Nat.le_refl _) hg15
  go_wp2_with fail
  refine (eqInt64S_c _ _ _ _ u _ (oh8.rd') (RdI.of_iar h15) (by omega)).mono ?_
  rintro e w16 ⟨rfl, b16⟩
  have z16 : w15.heap.size ≤ w16.heap.size := size_after (Nat.le_refl _) b16
  replace hK := hK.after b16
  replace o0 := o0.below b16
  replace oh6 := oh6.below b16
  replace oh8 := oh8.below b16
  replace oh9 := oh9.below b16
  replace o1 := o1.below b16
  replace h15 := h15.after b16
  clear b16
  clear h15
  go_wp2_with fail
  refine (toInt64S_c vA vc v _ (hm_v.keep hK.below) t_v).mono ?_
  rintro e w17 ⟨g17, rfl, hg17, h17, b17⟩
  have z17 : w16.heap.size ≤ w17.heap.size := size_after (Nat.le_refl _) b17
  replace hK := hK.after b17
  replace o0 := o0.below b17
  replace oh6 := oh6.below b17
  replace oh8 := oh8.below b17
  replace oh9 := oh9.below b17
  replace o1 := o1.below b17
  clear b17
  replace hg17 := Nat.le_trans (Nat.le_refl _) hg17
  go_wp2_with fail
  refine (eqInt64S_c _ _ _ _ v _ (oh9.rd') (RdI.of_iar h17) (by omega)).mono ?_
  rintro e w18 ⟨rfl, b18⟩
  have z18 : w17.heap.size ≤ w18.heap.size := size_after (Nat.le_refl _) b18
  replace hK := hK.after b18
  replace o0 := o0.below b18
  replace oh6 := oh6.below b18
  replace oh8 := oh8.below b18
  replace oh9 := oh9.below b18
  replace o1 := o1.below b18
  replace h17 := h17.after b18
  clear b18
  clear h17
  go_wp2_with (refine wpList_load_all rfl 33 _ rfl w6.heap.size rfl _ _ _ (by exact (hK.box (w6.heap.size, .cells #[.int .i64 mp, .int .i64 mn, .int .i64 mm, .int .i64 mk, .slice (some ⟨g6, 0, none⟩) mq.length mq.length] 33 (0, 0)) (by simp))) Try.underlying33 rfl 5 (by kernel_rfl) rfl ?_)
  refine (markMethod_2 mp mn mm mk (1) _ _ (by simp) oh6 t_m (by omega)).mono ?_
  rintro e w19 ⟨rfl, hG, hH⟩
  have S19 := Same.of_in hG ioh6
  have z19 : w18.heap.size ≤ w19.heap.size := Nat.le_trans (Nat.le_refl _) S19.size
  replace hK := hK.grown oh6 (by omega) hG (by intro b hb; simp only [List.mem_cons, List.not_mem_nil, or_false] at hb; rcases hb with rfl | rfl <;> exact ⟨_, _, rfl, by decide⟩)
  replace o0 := o0.same io0 S19 (by omega)
  replace oh8 := oh8.same ioh8 S19 (by omega)
  replace oh9 := oh9.same ioh9 S19 (by omega)
  replace o1 := o1.same io1 S19 (by omega)
  clear S19 hG
  clear hH
  clear oh6
  go_wp2_with fail
  refine (markInt64S_2 (1 + mq.length * 27) _ _ (by simp) oh8 t_u (by omega)).mono ?_
  rintro e w20 ⟨rfl, hG, hH⟩
  have S20 := Same.of_in hG ioh8
  have z20 : w19.heap.size ≤ w20.heap.size := Nat.le_trans (Nat.le_refl _) S20.size
  replace hK := hK.same S20 (by omega) (by intro b hb; simp only [List.mem_cons, List.not_mem_nil, or_false] at hb; rcases hb with rfl | rfl <;> (dsimp only; omega))
  replace o0 := o0.same io0 S20 (by omega)
  replace oh9 := oh9.same ioh9 S20 (by omega)
  replace o1 := o1.same io1 S20 (by omega)
  clear S20 hG
  clear hH
  clear oh8
  go_wp2_with fail
  refine (markInt64S_2 (1 + mq.length * 27 + u.length) _ _ (by simp) oh9 t_v (by omega)).mono ?_
  rintro e w21 ⟨rfl, hG, hH⟩
  have S21 := Same.of_in hG ioh9
  have z21 : w20.heap.size ≤ w21.heap.size := Nat.le_trans (Nat.le_refl _) S21.size
  replace hK := hK.same S21 (by omega) (by intro b hb; simp only [List.mem_cons, List.not_mem_nil, or_false] at hb; rcases hb with rfl | rfl <;> (dsimp only; omega))
  replace o0 := o0.same io0 S21 (by omega)
  replace o1 := o1.same io1 S21 (by omega)
  clear S21 hG
  clear hH
  clear oh9
  go_wp2_with fail
  refine (eqInt64S_c _ _ _ _ rs _ (o1.rd') (o0.rd') (by omega)).mono ?_
  rintro e w22 ⟨rfl, b22⟩
  have z22 : w21.heap.size ≤ w22.heap.size := size_after (Nat.le_refl _) b22
  replace hK := hK.after b22
  replace o0 := o0.below b22
  replace o1 := o1.below b22
  clear b22
  go_wp2_with fail
  have hneg23 : ¬ (1 : Int) + (rs.length : Int) < 0 := by omega
  refine (markInt64S_2 (1) _ _ (by simp) o1 hrl (by omega)).mono ?_
  rintro e w23 ⟨rfl, hG, hH⟩
  have S23 := Same.of_in hG io1
  have z23 : w22.heap.size ≤ w23.heap.size := Nat.le_trans (Nat.le_refl _) S23.size
  replace hK := hK.same S23 (by omega) (by intro b hb; simp only [List.mem_cons, List.not_mem_nil, or_false] at hb; rcases hb with rfl | rfl <;> (dsimp only; omega))
  replace o0 := o0.same io0 S23 (by omega)
  clear S23 hG
  have s1 := o1.shp
  clear o1
  have ihH := io1
  go_wp2_with fail
  refine (heldInt64S_1 _ s1 hH hrl).mono ?_
  rintro e w24 ⟨rfl, rfl⟩
  go_wp2_with (refine wpList_load_all rfl 24 _ rfl w.heap.size rfl _ _ _ (by exact (hK.box (w.heap.size, .cells #[.int .i64 mp, .int .i64 mn, .int .i64 mm, .int .i64 mk, .slice mA mq.length mc] 24 (0, 0)) (by simp))) Try.underlying24 rfl 5 (by kernel_rfl) rfl ?_)
  refine (toMethod_c mp mn mm mk mA mc mq _ (hr_m.keep hK.below) t_m).mono ?_
  rintro e w25 ⟨g25, rfl, hg25, h25, b25⟩
  have z25 : w23.heap.size ≤ w25.heap.size := size_after (Nat.le_refl _) b25
  replace hK := hK.after b25
  replace o0 := o0.below b25
  replace hH := hH.below b25
  clear b25
  replace hg25 := Nat.le_trans (Nat.le_refl _) hg25
  go_wp2_with fail
  refine (toInt64S_c uA uc u _ (hm_u.keep hK.below) t_u).mono ?_
  rintro e w26 ⟨g26, rfl, hg26, h26, b26⟩
  have z26 : w25.heap.size ≤ w26.heap.size := size_after (Nat.le_refl _) b26
  replace hK := hK.after b26
  replace o0 := o0.below b26
  replace hH := hH.below b26
  replace h25 := h25.after b26
  clear b26
  replace hg26 := Nat.le_trans (Nat.le_refl _) hg26
  go_wp2_with fail
  refine (toInt64S_c vA vc v _ (hm_v.keep hK.below) t_v).mono ?_
  rintro e w27 ⟨g27, rfl, hg27, h27, b27⟩
  have z27 : w26.heap.size ≤ w27.heap.size := size_after (Nat.le_refl _) b27
  replace hK := hK.after b27
  replace o0 := o0.below b27
  replace hH := hH.below b27
  replace h25 := h25.after b27
  replace h26 := h26.after b27
  clear b27
  replace hg27 := Nat.le_trans (Nat.le_refl _) hg27
  go_wp2_with fail
  refine (HIm.out _ _ _ _ (Rd.of_at h25 hr_m.good) (RdI.of_iar h26) (RdI.of_iar h27)).mono ?_
  rintro e w28 ⟨v28, rfl, o2, b28⟩
  have z28 : w27.heap.size ≤ w28.heap.size := size_after (Nat.le_refl _) b28
  replace hK := hK.after b28
  replace o0 := o0.below b28
  replace hH := hH.below b28
  replace h25 := h25.after b28
  replace h26 := h26.after b28
  replace h27 := h27.after b28
  clear b28
  clear h25
  clear h26
  clear h27
  replace o2 := o2.mono (Nat.le_refl _)
  have io2 := o2.inn
  obtain ⟨A2, c2, rfl, _⟩ := o2.rd
  go_wp2_with fail
  refine (eqInt64S_c _ _ _ _ rs _ (o2.rd') (o0.rd') (by omega)).mono ?_
  rintro e w29 ⟨rfl, b29⟩
  have z29 : w28.heap.size ≤ w29.heap.size := size_after (Nat.le_refl _) b29
  replace hK := hK.after b29
  replace o0 := o0.below b29
  replace hH := hH.below b29
  replace o2 := o2.below b29
  clear b29
  clear o2 o0
  go_wp2_with fail
  refine (heldInt64S_1 _ s1 hH hrl).mono ?_
  rintro e w30 ⟨rfl, rfl⟩
  go_wp2_with fail
  go_ret
  exact ⟨rfl, hK.below⟩
end Go.Proofs.Ytbahcbmmkbokgaa
