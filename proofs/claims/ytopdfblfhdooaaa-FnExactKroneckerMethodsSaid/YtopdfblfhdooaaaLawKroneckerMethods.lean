/-
  laws.FnExactKroneckerMethods: the walk: it returns true and writes nothing that was there. (Made by genlaw2.py.)
-/
import Derived.Test.YtopdfblfhdooaaaLK1
import Derived.Test.YtopdfblfhdooaaaMth1
namespace Go.Proofs.Ytopdfblfhdooaaa
open Go.RowKit
set_option maxRecDepth 100000
theorem ka_world {w wr : World} {bs : List (Nat × Obj)} (_ : KA w bs wr) : ∃ x : World, x = wr := ⟨wr, rfl⟩
set_option maxHeartbeats 6400000 in
theorem lawKroneckerMethods_walk (xp xn xm xk : Int) (xA : Option Addr) (xc : Nat) (xq : List (List Nat)) (yp yn ym yk : Int) (yA : Option Addr) (yc : Nat) (yq : List (List Nat)) (rp rn rm rk : Int) (rs : List (List Nat)) (code : Int) (w : World) (hr_x : Rd w xA xq)  (hn_x : xq.length ≤ 9223372036854775807) (hr_y : Rd w yA yq)  (hn_y : yq.length ≤ 9223372036854775807) (hrb : ∀ r ∈ rs, Bytes 27 r) (hrl : rs.length ≤ 1048576)
    (hS : (xq.length ≤ 1048576 → yq.length ≤ 1048576 → ∀ (gx : Nat) (gy : Nat) (w : World), Rd w (some ⟨gx, 0, none⟩) xq → Rd w (some ⟨gy, 0, none⟩) yq → Calls Try.prog 7 #[.agg #[.int .i64 xp, .int .i64 xn, .int .i64 xm, .int .i64 xk, .slice (some ⟨gx, 0, none⟩) xq.length xq.length], .agg #[.int .i64 yp, .int .i64 yn, .int .i64 ym, .int .i64 yk, .slice (some ⟨gy, 0, none⟩) yq.length yq.length]] w (ResH w rp rn rm rk rs code)))
    (hI : (xq.length ≤ 1048576 → yq.length ≤ 1048576 → ∀ (gx : Nat) (gy : Nat) (w : World), Rd w (some ⟨gx, 0, none⟩) xq → Rd w (some ⟨gy, 0, none⟩) yq → Calls Try.prog 9 #[.agg #[.int .i64 xp, .int .i64 xn, .int .i64 xm, .int .i64 xk, .slice (some ⟨gx, 0, none⟩) xq.length xq.length], .agg #[.int .i64 yp, .int .i64 yn, .int .i64 ym, .int .i64 yk, .slice (some ⟨gy, 0, none⟩) yq.length yq.length]] w (ResH w rp rn rm rk rs code))) :
    Calls Try.prog 3 #[.agg #[.int .i64 xp, .int .i64 xn, .int .i64 xm, .int .i64 xk, .slice xA xq.length xc], .agg #[.int .i64 yp, .int .i64 yn, .int .i64 ym, .int .i64 yk, .slice yA yq.length yc]] w fun e w' => e = .returned (.bool true) ∧ Below w.heap.size w w' := by
  have Hrb := Lib.hid hrb
  have hcode : (code != code) = false := by simp
  go_enter Try.func3, Try.ntmps3
  go_wp2_with (first | (refine wpList_abs2 ?_; intro w0 hsz0 hB0 ha0 ha1; have hK : KA w [(w.heap.size, .cells #[.int .i64 xp, .int .i64 xn, .int .i64 xm, .int .i64 xk, .slice xA xq.length xc] 24 (0, 0)), ((w.heap.size + 1), .cells #[.int .i64 yp, .int .i64 yn, .int .i64 ym, .int .i64 yk, .slice yA yq.length yc] 24 (0, 0))] w0 := ⟨hB0, by intro b hb; simp only [List.mem_cons, List.not_mem_nil, or_false] at hb; rcases hb with rfl | rfl; exact ha0; exact ha1⟩; have z0 : w.heap.size + 2 ≤ w0.heap.size := Nat.le_of_eq hsz0.symm; clear hB0 hsz0 ha0 ha1) | (refine wpList_load_all rfl 24 _ rfl w.heap.size rfl _ _ _ (by exact (hK.box (w.heap.size, .cells #[.int .i64 xp, .int .i64 xn, .int .i64 xm, .int .i64 xk, .slice xA xq.length xc] 24 (0, 0)) (by simp))) Try.underlying24 rfl 5 (by kernel_rfl) rfl ?_))
  refine (szMethod_e xp xn xm xk xA xq.length xc 1048576 _ (by omega) hn_x (by omega)).mono ?_
  rintro e w1 ⟨r1, rfl, hr1, b1⟩
  have z1 : w0.heap.size ≤ w1.heap.size := size_after (Nat.le_refl _) b1
  replace hK := hK.after b1
  clear b1
  rcases hr1 with rfl | ⟨hr1, he1⟩
  · go_wp2_with fail
    go_ret
    exact ⟨rfl, hK.below⟩
  have hg1 : ¬ r1 < 0 := by omega
  go_wp2_with (refine wpList_load_all rfl 24 _ rfl (w.heap.size + 1) rfl _ _ _ (by exact (hK.box ((w.heap.size + 1), .cells #[.int .i64 yp, .int .i64 yn, .int .i64 ym, .int .i64 yk, .slice yA yq.length yc] 24 (0, 0)) (by simp))) Try.underlying24 rfl 5 (by kernel_rfl) rfl ?_)
  refine (szMethod_e yp yn ym yk yA yq.length yc r1 _ (by omega) hn_y (by omega)).mono ?_
  rintro e w2 ⟨r2, rfl, hr2, b2⟩
  have z2 : w1.heap.size ≤ w2.heap.size := size_after (Nat.le_refl _) b2
  replace hK := hK.after b2
  clear b2
  rcases hr2 with rfl | ⟨hr2, he2⟩
  · go_wp2_with fail
    go_ret
    exact ⟨rfl, hK.below⟩
  have hg2 : ¬ r2 < 0 := by omega
  have t_x : xq.length ≤ 1048576 := by omega
  have t_y : yq.length ≤ 1048576 := by omega
  have HSp := Lib.hid (hS t_x t_y)
  have HIm := Lib.hid (hI t_x t_y)
  clear hS hI
  go_wp2_with fail
  have lz0 := hK.below.size
  have zz0 : w2.heap.size ≤ _ := Nat.le_refl _
  go_cut [6, 7] from 27 to 34 (fun s6 s7 wx => ∃ (bb0 : Nat) (A0 : Option Addr) (c0 : Nat), s6 = .pointer (some ⟨bb0, 0, none⟩) ∧ s7 = .int .i64 code ∧ w2.heap.size ≤ bb0 ∧ bb0 < wx.heap.size ∧ Own wx (w2.heap.size) (.slice A0 rs.length c0) rs ∧ At wx bb0 (.cells #[.int .i64 rp, .int .i64 rn, .int .i64 rm, .int .i64 rk, .slice A0 rs.length c0] 28 (0, 0)) ∧ KA w [(w.heap.size, .cells #[.int .i64 xp, .int .i64 xn, .int .i64 xm, .int .i64 xk, .slice xA xq.length xc] 24 (0, 0)), ((w.heap.size + 1), .cells #[.int .i64 yp, .int .i64 yn, .int .i64 ym, .int .i64 yk, .slice yA yq.length yc] 24 (0, 0))] wx)
  case first =>
    go_wp2_with fail
    refine wp_region_held (S := fun w' => ∀ b ∈ ([(w.heap.size, .cells #[.int .i64 xp, .int .i64 xn, .int .i64 xm, .int .i64 xk, .slice xA xq.length xc] 24 (0, 0)), ((w.heap.size + 1), .cells #[.int .i64 yp, .int .i64 yn, .int .i64 ym, .int .i64 yk, .slice yA yq.length yc] 24 (0, 0))] : List (Nat × Obj)), At w' b.1 b.2) (by kernel_rfl) ?_
    change wpAnyH _ _ _ _ _ _ _ _ (World.drew _)
    obtain ⟨w3, hw3, hK, z3⟩ : ∃ W, W = World.drew _ ∧ KA w [(w.heap.size, .cells #[.int .i64 xp, .int .i64 xn, .int .i64 xm, .int .i64 xk, .slice xA xq.length xc] 24 (0, 0)), ((w.heap.size + 1), .cells #[.int .i64 yp, .int .i64 yn, .int .i64 ym, .int .i64 yk, .slice yA yq.length yc] 24 (0, 0))] W ∧ w2.heap.size ≤ W.heap.size := ⟨_, rfl, hK.drew, Nat.le_refl _⟩
    rw [← hw3]
    clear hw3
    refine held_yield 0 (some 28) (.agg #[.int .i64 xp, .int .i64 xn, .int .i64 xm, .int .i64 xk, .slice xA xq.length xc]) rfl (by kernel_rfl) (by kernel_rfl) (by kernel_rfl) (fun _ _ _ h => h) rfl rfl hK.box (fun w' h' => exec_load_all 24 _ rfl w.heap.size rfl _ _ _ (h' (w.heap.size, .cells #[.int .i64 xp, .int .i64 xn, .int .i64 xm, .int .i64 xk, .slice xA xq.length xc] 24 (0, 0)) (by simp)) Try.underlying24 rfl 5 (by kernel_rfl) rfl) ?_
    go_frame
    refine held_yield 2 (some 30) (.agg #[.int .i64 yp, .int .i64 yn, .int .i64 ym, .int .i64 yk, .slice yA yq.length yc]) rfl (by kernel_rfl) (by kernel_rfl) (by kernel_rfl) (fun _ _ _ h => h) rfl rfl hK.box (fun w' h' => exec_load_all 24 _ rfl (w.heap.size + 1) rfl _ _ _ (h' ((w.heap.size + 1), .cells #[.int .i64 yp, .int .i64 yn, .int .i64 ym, .int .i64 yk, .slice yA yq.length yc] 24 (0, 0)) (by simp)) Try.underlying24 rfl 5 (by kernel_rfl) rfl) ?_
    go_frame
    refine held_two 1 8 (by kernel_rfl) rfl rfl rfl rfl (fun K' hK' => ?_) (fun K' hK' => ?_)
    · refine wp_call1 (some 29) rfl 8 _ _ rfl (fun args w => by kernel_rfl) _ rfl _ (toMethod_c xp xn xm xk xA xc xq _ (hr_x.keep hK.below) t_x) (fun e w4 h => ?_)
      obtain ⟨g4, rfl, hg4, h4, b4⟩ := h
      have z4 : w3.heap.size ≤ w4.heap.size := size_after (Nat.le_refl _) b4
      replace hK := hK.after b4
      clear b4
      replace hg4 := Nat.le_trans (Nat.le_refl _) hg4
      refine ⟨_, rfl, hK' _ _ hK.box ?_⟩
      clear hK' K'
      go_frame
      refine held_two 3 8 (by kernel_rfl) rfl rfl rfl rfl (fun K' hK' => ?_) (fun K' hK' => ?_)
      · refine wp_call1 (some 31) rfl 8 _ _ rfl (fun args w => by kernel_rfl) _ rfl _ (toMethod_c yp yn ym yk yA yc yq _ (hr_y.keep hK.below) t_y) (fun e w5 h => ?_)
        obtain ⟨g5, rfl, hg5, h5, b5⟩ := h
        have z5 : w4.heap.size ≤ w5.heap.size := size_after (Nat.le_refl _) b5
        replace hK := hK.after b5
        replace h4 := h4.after b5
        clear b5
        replace hg5 := Nat.le_trans (Nat.le_refl _) hg5
        refine ⟨_, rfl, hK' _ _ hK.box ?_⟩
        clear hK' K'
        go_frame
        refine held_two 4 8 (by kernel_rfl) rfl rfl rfl rfl (fun K' hK' => ?_) (fun K' hK' => ?_)
        · refine wp_call2 (some 32) rfl 7 _ _ _ rfl (fun args w => by kernel_rfl) _ _ rfl rfl _ (HSp.out _ _ _ (Rd.of_at h4 hr_x.good) (Rd.of_at h5 hr_y.good)) (fun e w6 h => ?_)
          obtain ⟨v6, rfl, o0, b6⟩ := h
          have z6 : w5.heap.size ≤ w6.heap.size := size_after (Nat.le_refl _) b6
          replace hK := hK.after b6
          replace h4 := h4.after b6
          replace h5 := h5.after b6
          clear b6
          clear h4
          clear h5
          replace o0 := o0.mono (Nat.le_refl _)
          have io0 := o0.inn
          obtain ⟨A0, c0, rfl, _⟩ := o0.rd Hrb.out
          refine ⟨_, rfl, hK' _ _ hK.box ?_⟩
          clear hK' K'
          go_frame
          refine held_yield 5 (some 27) (.tuple #[.agg #[.int .i64 rp, .int .i64 rn, .int .i64 rm, .int .i64 rk, .slice A0 rs.length c0], .int .i64 code]) rfl (by kernel_rfl) (by kernel_rfl) (by kernel_rfl) (fun _ _ _ h => h) rfl rfl hK.box (fun w' h' => exec_move _ rfl (.tuple #[.agg #[.int .i64 rp, .int .i64 rn, .int .i64 rm, .int .i64 rk, .slice A0 rs.length c0], .int .i64 code]) rfl) ?_
          go_frame
          refine held_yield 6 (some 33) (.agg #[.int .i64 rp, .int .i64 rn, .int .i64 rm, .int .i64 rk, .slice A0 rs.length c0]) rfl (by kernel_rfl) (by kernel_rfl) (by kernel_rfl) (fun _ _ _ h => h) rfl rfl hK.box (fun w' h' => exec_extract _ 0 rfl #[.agg #[.int .i64 rp, .int .i64 rn, .int .i64 rm, .int .i64 rk, .slice A0 rs.length c0], .int .i64 code] rfl (.agg #[.int .i64 rp, .int .i64 rn, .int .i64 rm, .int .i64 rk, .slice A0 rs.length c0]) rfl) ?_
          go_frame
          refine held_yield 7 (some 34) (.int .i64 code) rfl (by kernel_rfl) (by kernel_rfl) (by kernel_rfl) (fun _ _ _ h => h) rfl rfl hK.box (fun w' h' => exec_extract _ 1 rfl #[.agg #[.int .i64 rp, .int .i64 rn, .int .i64 rm, .int .i64 rk, .slice A0 rs.length c0], .int .i64 code] rfl (.int .i64 code) rfl) ?_
          go_frame
          refine held_oper 8 (by kernel_rfl) rfl rfl (fun K' hK' => ?_)
          refine wp_new (some 6) rfl (exec_alloc_method rfl) (fun w7 nn => ?_)
          have b7 := nn.below (Below.refl _ _) (Nat.le_refl _)
          have z7 : w6.heap.size ≤ w7.heap.size := size_after (Nat.le_refl _) b7
          replace hK := hK.after b7
          replace o0 := o0.below b7
          have hbx : At w7 w6.heap.size (.cells #[.int .i64 0, .int .i64 0, .int .i64 0, .int .i64 0, .slice none 0 0] 28 (0, 0)) := nn.at_
          have lbx := hbx.lt
          clear b7 nn
          refine hK' _ _ hK.box ?_
          clear hK' K'
          go_frame
          have nb := o0.off hbx (by decide)
          refine held_oper 9 (by kernel_rfl) rfl rfl (fun K' hK' => ?_)
          refine wp_store_all 28 _ _ rfl rfl (w6.heap.size) rfl _ rfl _ _ hbx 5 (by kernel_rfl) rfl rfl (one5 _ _ _ _ _ _ _) (fun ws ps => ?_)
          replace hK : KA w [(w.heap.size, .cells #[.int .i64 xp, .int .i64 xn, .int .i64 xm, .int .i64 xk, .slice xA xq.length xc] 24 (0, 0)), ((w.heap.size + 1), .cells #[.int .i64 yp, .int .i64 yn, .int .i64 ym, .int .i64 yk, .slice yA yq.length yc] 24 (0, 0))] ws := ⟨ps.below hK.below (by omega), by intro b hb; have hx := hK.box b hb; simp only [List.mem_cons, List.not_mem_nil, or_false] at hb; rcases hb with rfl | rfl <;> exact ps.other hx (by dsimp only; omega)⟩
          replace o0 := o0.put ps nb
          replace hbx := ps.at_
          replace lbx := hbx.lt
          refine hK' _ _ hK.box ?_
          clear hK' K' ps
          refine held_yield 10 (some 7) (.int .i64 code) rfl (by kernel_rfl) (by kernel_rfl) (by kernel_rfl) (fun _ _ _ h => h) rfl rfl hK.box (fun w' h' => exec_assign _ rfl (.int .i64 code) rfl) ?_
          go_frame
          refine wpAnyH_done (by kernel_rfl) ?_ _
          go_wp2_with fail
          go_meet
          exact ⟨_, _, _, rfl, rfl, by omega, lbx, o0.mono (by omega), hbx, hK⟩
        · refine wp_new (some 6) rfl (exec_alloc_method rfl) (fun w8 nn => ?_)
          have b8 := nn.below (Below.refl _ _) (Nat.le_refl _)
          have z8 : w5.heap.size ≤ w8.heap.size := size_after (Nat.le_refl _) b8
          replace hK := hK.after b8
          replace h4 := h4.after b8
          replace h5 := h5.after b8
          have hbx : At w8 w5.heap.size (.cells #[.int .i64 0, .int .i64 0, .int .i64 0, .int .i64 0, .slice none 0 0] 28 (0, 0)) := nn.at_
          have lbx := hbx.lt
          clear b8 nn
          refine hK' _ _ hK.box ?_
          clear hK' K'
          go_frame
          refine held_oper 4 (by kernel_rfl) rfl rfl (fun K' hK' => ?_)
          refine wp_call2 (some 32) rfl 7 _ _ _ rfl (fun args w => by kernel_rfl) _ _ rfl rfl _ (HSp.out _ _ _ (Rd.of_at h4 hr_x.good) (Rd.of_at h5 hr_y.good)) (fun e w9 h => ?_)
          obtain ⟨v9, rfl, o0, b9⟩ := h
          have z9 : w8.heap.size ≤ w9.heap.size := size_after (Nat.le_refl _) b9
          replace hK := hK.after b9
          replace h4 := h4.after b9
          replace h5 := h5.after b9
          replace hbx := hbx.after b9
          clear b9
          clear h4
          clear h5
          replace o0 := o0.mono (Nat.le_refl _)
          have io0 := o0.inn
          obtain ⟨A0, c0, rfl, _⟩ := o0.rd Hrb.out
          refine ⟨_, rfl, hK' _ _ hK.box ?_⟩
          clear hK' K'
          go_frame
          refine held_yield 5 (some 27) (.tuple #[.agg #[.int .i64 rp, .int .i64 rn, .int .i64 rm, .int .i64 rk, .slice A0 rs.length c0], .int .i64 code]) rfl (by kernel_rfl) (by kernel_rfl) (by kernel_rfl) (fun _ _ _ h => h) rfl rfl hK.box (fun w' h' => exec_move _ rfl (.tuple #[.agg #[.int .i64 rp, .int .i64 rn, .int .i64 rm, .int .i64 rk, .slice A0 rs.length c0], .int .i64 code]) rfl) ?_
          go_frame
          refine held_yield 6 (some 33) (.agg #[.int .i64 rp, .int .i64 rn, .int .i64 rm, .int .i64 rk, .slice A0 rs.length c0]) rfl (by kernel_rfl) (by kernel_rfl) (by kernel_rfl) (fun _ _ _ h => h) rfl rfl hK.box (fun w' h' => exec_extract _ 0 rfl #[.agg #[.int .i64 rp, .int .i64 rn, .int .i64 rm, .int .i64 rk, .slice A0 rs.length c0], .int .i64 code] rfl (.agg #[.int .i64 rp, .int .i64 rn, .int .i64 rm, .int .i64 rk, .slice A0 rs.length c0]) rfl) ?_
          go_frame
          refine held_yield 7 (some 34) (.int .i64 code) rfl (by kernel_rfl) (by kernel_rfl) (by kernel_rfl) (fun _ _ _ h => h) rfl rfl hK.box (fun w' h' => exec_extract _ 1 rfl #[.agg #[.int .i64 rp, .int .i64 rn, .int .i64 rm, .int .i64 rk, .slice A0 rs.length c0], .int .i64 code] rfl (.int .i64 code) rfl) ?_
          go_frame
          have nb := o0.off hbx (by decide)
          refine held_oper 9 (by kernel_rfl) rfl rfl (fun K' hK' => ?_)
          refine wp_store_all 28 _ _ rfl rfl (w5.heap.size) rfl _ rfl _ _ hbx 5 (by kernel_rfl) rfl rfl (one5 _ _ _ _ _ _ _) (fun ws ps => ?_)
          replace hK : KA w [(w.heap.size, .cells #[.int .i64 xp, .int .i64 xn, .int .i64 xm, .int .i64 xk, .slice xA xq.length xc] 24 (0, 0)), ((w.heap.size + 1), .cells #[.int .i64 yp, .int .i64 yn, .int .i64 ym, .int .i64 yk, .slice yA yq.length yc] 24 (0, 0))] ws := ⟨ps.below hK.below (by omega), by intro b hb; have hx := hK.box b hb; simp only [List.mem_cons, List.not_mem_nil, or_false] at hb; rcases hb with rfl | rfl <;> exact ps.other hx (by dsimp only; omega)⟩
          replace o0 := o0.put ps nb
          replace hbx := ps.at_
          replace lbx := hbx.lt
          refine hK' _ _ hK.box ?_
          clear hK' K' ps
          refine held_yield 10 (some 7) (.int .i64 code) rfl (by kernel_rfl) (by kernel_rfl) (by kernel_rfl) (fun _ _ _ h => h) rfl rfl hK.box (fun w' h' => exec_assign _ rfl (.int .i64 code) rfl) ?_
          go_frame
          refine wpAnyH_done (by kernel_rfl) ?_ _
          go_wp2_with fail
          go_meet
          exact ⟨_, _, _, rfl, rfl, by omega, lbx, o0.mono (by omega), hbx, hK⟩
      · refine wp_new (some 6) rfl (exec_alloc_method rfl) (fun w10 nn => ?_)
        have b10 := nn.below (Below.refl _ _) (Nat.le_refl _)
        have z10 : w4.heap.size ≤ w10.heap.size := size_after (Nat.le_refl _) b10
        replace hK := hK.after b10
        replace h4 := h4.after b10
        have hbx : At w10 w4.heap.size (.cells #[.int .i64 0, .int .i64 0, .int .i64 0, .int .i64 0, .slice none 0 0] 28 (0, 0)) := nn.at_
        have lbx := hbx.lt
        clear b10 nn
        refine hK' _ _ hK.box ?_
        clear hK' K'
        go_frame
        refine held_oper 3 (by kernel_rfl) rfl rfl (fun K' hK' => ?_)
        refine wp_call1 (some 31) rfl 8 _ _ rfl (fun args w => by kernel_rfl) _ rfl _ (toMethod_c yp yn ym yk yA yc yq _ (hr_y.keep hK.below) t_y) (fun e w11 h => ?_)
        obtain ⟨g11, rfl, hg11, h11, b11⟩ := h
        have z11 : w10.heap.size ≤ w11.heap.size := size_after (Nat.le_refl _) b11
        replace hK := hK.after b11
        replace h4 := h4.after b11
        replace hbx := hbx.after b11
        clear b11
        replace hg11 := Nat.le_trans (Nat.le_refl _) hg11
        refine ⟨_, rfl, hK' _ _ hK.box ?_⟩
        clear hK' K'
        go_frame
        refine held_oper 4 (by kernel_rfl) rfl rfl (fun K' hK' => ?_)
        refine wp_call2 (some 32) rfl 7 _ _ _ rfl (fun args w => by kernel_rfl) _ _ rfl rfl _ (HSp.out _ _ _ (Rd.of_at h4 hr_x.good) (Rd.of_at h11 hr_y.good)) (fun e w12 h => ?_)
        obtain ⟨v12, rfl, o0, b12⟩ := h
        have z12 : w11.heap.size ≤ w12.heap.size := size_after (Nat.le_refl _) b12
        replace hK := hK.after b12
        replace h4 := h4.after b12
        replace hbx := hbx.after b12
        replace h11 := h11.after b12
        clear b12
        clear h4
        clear h11
        replace o0 := o0.mono (Nat.le_refl _)
        have io0 := o0.inn
        obtain ⟨A0, c0, rfl, _⟩ := o0.rd Hrb.out
        refine ⟨_, rfl, hK' _ _ hK.box ?_⟩
        clear hK' K'
        go_frame
        refine held_yield 5 (some 27) (.tuple #[.agg #[.int .i64 rp, .int .i64 rn, .int .i64 rm, .int .i64 rk, .slice A0 rs.length c0], .int .i64 code]) rfl (by kernel_rfl) (by kernel_rfl) (by kernel_rfl) (fun _ _ _ h => h) rfl rfl hK.box (fun w' h' => exec_move _ rfl (.tuple #[.agg #[.int .i64 rp, .int .i64 rn, .int .i64 rm, .int .i64 rk, .slice A0 rs.length c0], .int .i64 code]) rfl) ?_
        go_frame
        refine held_yield 6 (some 33) (.agg #[.int .i64 rp, .int .i64 rn, .int .i64 rm, .int .i64 rk, .slice A0 rs.length c0]) rfl (by kernel_rfl) (by kernel_rfl) (by kernel_rfl) (fun _ _ _ h => h) rfl rfl hK.box (fun w' h' => exec_extract _ 0 rfl #[.agg #[.int .i64 rp, .int .i64 rn, .int .i64 rm, .int .i64 rk, .slice A0 rs.length c0], .int .i64 code] rfl (.agg #[.int .i64 rp, .int .i64 rn, .int .i64 rm, .int .i64 rk, .slice A0 rs.length c0]) rfl) ?_
        go_frame
        refine held_yield 7 (some 34) (.int .i64 code) rfl (by kernel_rfl) (by kernel_rfl) (by kernel_rfl) (fun _ _ _ h => h) rfl rfl hK.box (fun w' h' => exec_extract _ 1 rfl #[.agg #[.int .i64 rp, .int .i64 rn, .int .i64 rm, .int .i64 rk, .slice A0 rs.length c0], .int .i64 code] rfl (.int .i64 code) rfl) ?_
        go_frame
        have nb := o0.off hbx (by decide)
        refine held_oper 9 (by kernel_rfl) rfl rfl (fun K' hK' => ?_)
        refine wp_store_all 28 _ _ rfl rfl (w4.heap.size) rfl _ rfl _ _ hbx 5 (by kernel_rfl) rfl rfl (one5 _ _ _ _ _ _ _) (fun ws ps => ?_)
        replace hK : KA w [(w.heap.size, .cells #[.int .i64 xp, .int .i64 xn, .int .i64 xm, .int .i64 xk, .slice xA xq.length xc] 24 (0, 0)), ((w.heap.size + 1), .cells #[.int .i64 yp, .int .i64 yn, .int .i64 ym, .int .i64 yk, .slice yA yq.length yc] 24 (0, 0))] ws := ⟨ps.below hK.below (by omega), by intro b hb; have hx := hK.box b hb; simp only [List.mem_cons, List.not_mem_nil, or_false] at hb; rcases hb with rfl | rfl <;> exact ps.other hx (by dsimp only; omega)⟩
        replace o0 := o0.put ps nb
        replace hbx := ps.at_
        replace lbx := hbx.lt
        refine hK' _ _ hK.box ?_
        clear hK' K' ps
        refine held_yield 10 (some 7) (.int .i64 code) rfl (by kernel_rfl) (by kernel_rfl) (by kernel_rfl) (fun _ _ _ h => h) rfl rfl hK.box (fun w' h' => exec_assign _ rfl (.int .i64 code) rfl) ?_
        go_frame
        refine wpAnyH_done (by kernel_rfl) ?_ _
        go_wp2_with fail
        go_meet
        exact ⟨_, _, _, rfl, rfl, by omega, lbx, o0.mono (by omega), hbx, hK⟩
    · refine wp_new (some 6) rfl (exec_alloc_method rfl) (fun w13 nn => ?_)
      have b13 := nn.below (Below.refl _ _) (Nat.le_refl _)
      have z13 : w3.heap.size ≤ w13.heap.size := size_after (Nat.le_refl _) b13
      replace hK := hK.after b13
      have hbx : At w13 w3.heap.size (.cells #[.int .i64 0, .int .i64 0, .int .i64 0, .int .i64 0, .slice none 0 0] 28 (0, 0)) := nn.at_
      have lbx := hbx.lt
      clear b13 nn
      refine hK' _ _ hK.box ?_
      clear hK' K'
      go_frame
      refine held_oper 1 (by kernel_rfl) rfl rfl (fun K' hK' => ?_)
      refine wp_call1 (some 29) rfl 8 _ _ rfl (fun args w => by kernel_rfl) _ rfl _ (toMethod_c xp xn xm xk xA xc xq _ (hr_x.keep hK.below) t_x) (fun e w14 h => ?_)
      obtain ⟨g14, rfl, hg14, h14, b14⟩ := h
      have z14 : w13.heap.size ≤ w14.heap.size := size_after (Nat.le_refl _) b14
      replace hK := hK.after b14
      replace hbx := hbx.after b14
      clear b14
      replace hg14 := Nat.le_trans (Nat.le_refl _) hg14
      refine ⟨_, rfl, hK' _ _ hK.box ?_⟩
      clear hK' K'
      go_frame
      refine held_oper 3 (by kernel_rfl) rfl rfl (fun K' hK' => ?_)
      refine wp_call1 (some 31) rfl 8 _ _ rfl (fun args w => by kernel_rfl) _ rfl _ (toMethod_c yp yn ym yk yA yc yq _ (hr_y.keep hK.below) t_y) (fun e w15 h => ?_)
      obtain ⟨g15, rfl, hg15, h15, b15⟩ := h
      have z15 : w14.heap.size ≤ w15.heap.size := size_after (Nat.le_refl _) b15
      replace hK := hK.after b15
      replace hbx := hbx.after b15
      replace h14 := h14.after b15
      clear b15
      replace hg15 := Nat.le_trans (Nat.le_refl _) hg15
      refine ⟨_, rfl, hK' _ _ hK.box ?_⟩
      clear hK' K'
      go_frame
      refine held_oper 4 (by kernel_rfl) rfl rfl (fun K' hK' => ?_)
      refine wp_call2 (some 32) rfl 7 _ _ _ rfl (fun args w => by kernel_rfl) _ _ rfl rfl _ (HSp.out _ _ _ (Rd.of_at h14 hr_x.good) (Rd.of_at h15 hr_y.good)) (fun e w16 h => ?_)
      obtain ⟨v16, rfl, o0, b16⟩ := h
      have z16 : w15.heap.size ≤ w16.heap.size := size_after (Nat.le_refl _) b16
      replace hK := hK.after b16
      replace hbx := hbx.after b16
      replace h14 := h14.after b16
      replace h15 := h15.after b16
      clear b16
      clear h14
      clear h15
      replace o0 := o0.mono (Nat.le_refl _)
      have io0 := o0.inn
      obtain ⟨A0, c0, rfl, _⟩ := o0.rd Hrb.out
      refine ⟨_, rfl, hK' _ _ hK.box ?_⟩
      clear hK' K'
      go_frame
      refine held_yield 5 (some 27) (.tuple #[.agg #[.int .i64 rp, .int .i64 rn, .int .i64 rm, .int .i64 rk, .slice A0 rs.length c0], .int .i64 code]) rfl (by kernel_rfl) (by kernel_rfl) (by kernel_rfl) (fun _ _ _ h => h) rfl rfl hK.box (fun w' h' => exec_move _ rfl (.tuple #[.agg #[.int .i64 rp, .int .i64 rn, .int .i64 rm, .int .i64 rk, .slice A0 rs.length c0], .int .i64 code]) rfl) ?_
      go_frame
      refine held_yield 6 (some 33) (.agg #[.int .i64 rp, .int .i64 rn, .int .i64 rm, .int .i64 rk, .slice A0 rs.length c0]) rfl (by kernel_rfl) (by kernel_rfl) (by kernel_rfl) (fun _ _ _ h => h) rfl rfl hK.box (fun w' h' => exec_extract _ 0 rfl #[.agg #[.int .i64 rp, .int .i64 rn, .int .i64 rm, .int .i64 rk, .slice A0 rs.length c0], .int .i64 code] rfl (.agg #[.int .i64 rp, .int .i64 rn, .int .i64 rm, .int .i64 rk, .slice A0 rs.length c0]) rfl) ?_
      go_frame
      refine held_yield 7 (some 34) (.int .i64 code) rfl (by kernel_rfl) (by kernel_rfl) (by kernel_rfl) (fun _ _ _ h => h) rfl rfl hK.box (fun w' h' => exec_extract _ 1 rfl #[.agg #[.int .i64 rp, .int .i64 rn, .int .i64 rm, .int .i64 rk, .slice A0 rs.length c0], .int .i64 code] rfl (.int .i64 code) rfl) ?_
      go_frame
      have nb := o0.off hbx (by decide)
      refine held_oper 9 (by kernel_rfl) rfl rfl (fun K' hK' => ?_)
      refine wp_store_all 28 _ _ rfl rfl (w3.heap.size) rfl _ rfl _ _ hbx 5 (by kernel_rfl) rfl rfl (one5 _ _ _ _ _ _ _) (fun ws ps => ?_)
      replace hK : KA w [(w.heap.size, .cells #[.int .i64 xp, .int .i64 xn, .int .i64 xm, .int .i64 xk, .slice xA xq.length xc] 24 (0, 0)), ((w.heap.size + 1), .cells #[.int .i64 yp, .int .i64 yn, .int .i64 ym, .int .i64 yk, .slice yA yq.length yc] 24 (0, 0))] ws := ⟨ps.below hK.below (by omega), by intro b hb; have hx := hK.box b hb; simp only [List.mem_cons, List.not_mem_nil, or_false] at hb; rcases hb with rfl | rfl <;> exact ps.other hx (by dsimp only; omega)⟩
      replace o0 := o0.put ps nb
      replace hbx := ps.at_
      replace lbx := hbx.lt
      refine hK' _ _ hK.box ?_
      clear hK' K' ps
      refine held_yield 10 (some 7) (.int .i64 code) rfl (by kernel_rfl) (by kernel_rfl) (by kernel_rfl) (fun _ _ _ h => h) rfl rfl hK.box (fun w' h' => exec_assign _ rfl (.int .i64 code) rfl) ?_
      go_frame
      refine wpAnyH_done (by kernel_rfl) ?_ _
      go_wp2_with fail
      go_meet
      exact ⟨_, _, _, rfl, rfl, by omega, lbx, o0.mono (by omega), hbx, hK⟩
  case rest =>
  clear hK
  obtain ⟨bb0, A0, c0, rfl, rfl, hb0, lb0, o0, hbx, hK⟩ := hcut
  obtain ⟨w17, rfl⟩ := ka_world hK
  replace hK : KA w [(bb0, .cells #[.int .i64 rp, .int .i64 rn, .int .i64 rm, .int .i64 rk, .slice A0 rs.length c0] 28 (0, 0)), (w.heap.size, .cells #[.int .i64 xp, .int .i64 xn, .int .i64 xm, .int .i64 xk, .slice xA xq.length xc] 24 (0, 0)), ((w.heap.size + 1), .cells #[.int .i64 yp, .int .i64 yn, .int .i64 ym, .int .i64 yk, .slice yA yq.length yc] 24 (0, 0))] w17 := hK.more hbx
  clear hbx
  have io0 := o0.inn
  have z17 : w2.heap.size ≤ w17.heap.size := by omega
  go_wp2_with (refine wpList_load_all rfl 24 _ rfl w.heap.size rfl _ _ _ (by exact (hK.box (w.heap.size, .cells #[.int .i64 xp, .int .i64 xn, .int .i64 xm, .int .i64 xk, .slice xA xq.length xc] 24 (0, 0)) (by simp))) Try.underlying24 rfl 5 (by kernel_rfl) rfl ?_)
  refine (toMethod_c xp xn xm xk xA xc xq _ (hr_x.keep hK.below) t_x).mono ?_
  rintro e w18 ⟨g18, rfl, hg18, h18, b18⟩
  have z18 : w17.heap.size ≤ w18.heap.size := size_after (Nat.le_refl _) b18
  replace hK := hK.after b18
  replace o0 := o0.below b18
  clear b18
  replace hg18 := Nat.le_trans (Nat.le_refl _) hg18
  have oh18 := Own.of_at h18 hr_x.len hg18 t_x
  have ioh18 := oh18.inn
  clear h18
  have bx := below1 w18 (.cells #[.int .i64 xp, .int .i64 xn, .int .i64 xm, .int .i64 xk, .slice (some ⟨g18, 0, none⟩) xq.length xq.length] 28 (0, 0))
  replace hK := hK.after bx
  replace o0 := o0.below bx
  replace oh18 := oh18.below bx
  have hx := al1_0 w18 (.cells #[.int .i64 xp, .int .i64 xn, .int .i64 xm, .int .i64 xk, .slice (some ⟨g18, 0, none⟩) xq.length xq.length] 28 (0, 0))
  replace hK : KA w [(w18.heap.size, .cells #[.int .i64 xp, .int .i64 xn, .int .i64 xm, .int .i64 xk, .slice (some ⟨g18, 0, none⟩) xq.length xq.length] 28 (0, 0)), (bb0, .cells #[.int .i64 rp, .int .i64 rn, .int .i64 rm, .int .i64 rk, .slice A0 rs.length c0] 28 (0, 0)), (w.heap.size, .cells #[.int .i64 xp, .int .i64 xn, .int .i64 xm, .int .i64 xk, .slice xA xq.length xc] 24 (0, 0)), ((w.heap.size + 1), .cells #[.int .i64 yp, .int .i64 yn, .int .i64 ym, .int .i64 yk, .slice yA yq.length yc] 24 (0, 0))] _ := hK.more hx
  clear bx hx
  go_wp2_with (refine wpList_load_all rfl 24 _ rfl (w.heap.size + 1) rfl _ _ _ (by exact (hK.box ((w.heap.size + 1), .cells #[.int .i64 yp, .int .i64 yn, .int .i64 ym, .int .i64 yk, .slice yA yq.length yc] 24 (0, 0)) (by simp))) Try.underlying24 rfl 5 (by kernel_rfl) rfl ?_)
  refine (toMethod_c yp yn ym yk yA yc yq _ (hr_y.keep hK.below) t_y).mono ?_
  rintro e w20 ⟨g20, rfl, hg20, h20, b20⟩
  have z20 : w18.heap.size + 1 ≤ w20.heap.size := size_after (Nat.le_of_eq (size_al1 w18 (.cells #[.int .i64 xp, .int .i64 xn, .int .i64 xm, .int .i64 xk, .slice (some ⟨g18, 0, none⟩) xq.length xq.length] 28 (0, 0))).symm) b20
  replace hK := hK.after b20
  replace o0 := o0.below b20
  replace oh18 := oh18.below b20
  clear b20
  replace hg20 := Nat.le_trans (Nat.le_of_eq (size_al1 w18 (.cells #[.int .i64 xp, .int .i64 xn, .int .i64 xm, .int .i64 xk, .slice (some ⟨g18, 0, none⟩) xq.length xq.length] 28 (0, 0))).symm) hg20
  have oh20 := Own.of_at h20 hr_y.len hg20 t_y
  have ioh20 := oh20.inn
  clear h20
  have bx := below1 w20 (.cells #[.int .i64 yp, .int .i64 yn, .int .i64 ym, .int .i64 yk, .slice (some ⟨g20, 0, none⟩) yq.length yq.length] 28 (0, 0))
  replace hK := hK.after bx
  replace o0 := o0.below bx
  replace oh18 := oh18.below bx
  replace oh20 := oh20.below bx
  have hx := al1_0 w20 (.cells #[.int .i64 yp, .int .i64 yn, .int .i64 ym, .int .i64 yk, .slice (some ⟨g20, 0, none⟩) yq.length yq.length] 28 (0, 0))
  replace hK : KA w [(w20.heap.size, .cells #[.int .i64 yp, .int .i64 yn, .int .i64 ym, .int .i64 yk, .slice (some ⟨g20, 0, none⟩) yq.length yq.length] 28 (0, 0)), (w18.heap.size, .cells #[.int .i64 xp, .int .i64 xn, .int .i64 xm, .int .i64 xk, .slice (some ⟨g18, 0, none⟩) xq.length xq.length] 28 (0, 0)), (bb0, .cells #[.int .i64 rp, .int .i64 rn, .int .i64 rm, .int .i64 rk, .slice A0 rs.length c0] 28 (0, 0)), (w.heap.size, .cells #[.int .i64 xp, .int .i64 xn, .int .i64 xm, .int .i64 xk, .slice xA xq.length xc] 24 (0, 0)), ((w.heap.size + 1), .cells #[.int .i64 yp, .int .i64 yn, .int .i64 ym, .int .i64 yk, .slice yA yq.length yc] 24 (0, 0))] _ := hK.more hx
  clear bx hx
  go_wp2_with (first | (refine wpList_load_all rfl 28 _ rfl w18.heap.size rfl _ _ _ (by exact (hK.box (w18.heap.size, .cells #[.int .i64 xp, .int .i64 xn, .int .i64 xm, .int .i64 xk, .slice (some ⟨g18, 0, none⟩) xq.length xq.length] 28 (0, 0)) (by simp))) Try.underlying28 rfl 5 (by kernel_rfl) rfl ?_) | (refine wpList_load_all rfl 28 _ rfl w20.heap.size rfl _ _ _ (by exact (hK.box (w20.heap.size, .cells #[.int .i64 yp, .int .i64 yn, .int .i64 ym, .int .i64 yk, .slice (some ⟨g20, 0, none⟩) yq.length yq.length] 28 (0, 0)) (by simp))) Try.underlying28 rfl 5 (by kernel_rfl) rfl ?_))
  refine (HIm.out _ _ _ (oh18.rd' hr_x.good) (oh20.rd' hr_y.good)).mono ?_
  rintro e w22 ⟨v22, rfl, o1, b22⟩
  have z22 : w20.heap.size + 1 ≤ w22.heap.size := size_after (Nat.le_of_eq (size_al1 w20 (.cells #[.int .i64 yp, .int .i64 yn, .int .i64 ym, .int .i64 yk, .slice (some ⟨g20, 0, none⟩) yq.length yq.length] 28 (0, 0))).symm) b22
  replace hK := hK.after b22
  replace o0 := o0.below b22
  replace oh18 := oh18.below b22
  replace oh20 := oh20.below b22
  clear b22
  replace o1 := o1.mono (Nat.le_of_eq (size_al1 w20 (.cells #[.int .i64 yp, .int .i64 yn, .int .i64 ym, .int .i64 yk, .slice (some ⟨g20, 0, none⟩) yq.length yq.length] 28 (0, 0))).symm)
  have io1 := o1.inn
  obtain ⟨A1, c1, rfl, _⟩ := o1.rd Hrb.out
  have bx := below1 w22 (.cells #[.int .i64 rp, .int .i64 rn, .int .i64 rm, .int .i64 rk, .slice A1 rs.length c1] 28 (0, 0))
  replace hK := hK.after bx
  replace o0 := o0.below bx
  replace oh18 := oh18.below bx
  replace oh20 := oh20.below bx
  replace o1 := o1.below bx
  have hx := al1_0 w22 (.cells #[.int .i64 rp, .int .i64 rn, .int .i64 rm, .int .i64 rk, .slice A1 rs.length c1] 28 (0, 0))
  replace hK : KA w [(w22.heap.size, .cells #[.int .i64 rp, .int .i64 rn, .int .i64 rm, .int .i64 rk, .slice A1 rs.length c1] 28 (0, 0)), (w20.heap.size, .cells #[.int .i64 yp, .int .i64 yn, .int .i64 ym, .int .i64 yk, .slice (some ⟨g20, 0, none⟩) yq.length yq.length] 28 (0, 0)), (w18.heap.size, .cells #[.int .i64 xp, .int .i64 xn, .int .i64 xm, .int .i64 xk, .slice (some ⟨g18, 0, none⟩) xq.length xq.length] 28 (0, 0)), (bb0, .cells #[.int .i64 rp, .int .i64 rn, .int .i64 rm, .int .i64 rk, .slice A0 rs.length c0] 28 (0, 0)), (w.heap.size, .cells #[.int .i64 xp, .int .i64 xn, .int .i64 xm, .int .i64 xk, .slice xA xq.length xc] 24 (0, 0)), ((w.heap.size + 1), .cells #[.int .i64 yp, .int .i64 yn, .int .i64 ym, .int .i64 yk, .slice yA yq.length yc] 24 (0, 0))] _ := hK.more hx
  clear bx hx
  go_wp2_with (first | (refine wpList_load_all rfl 28 _ rfl w22.heap.size rfl _ _ _ (by exact (hK.box (w22.heap.size, .cells #[.int .i64 rp, .int .i64 rn, .int .i64 rm, .int .i64 rk, .slice A1 rs.length c1] 28 (0, 0)) (by simp))) Try.underlying28 rfl 5 (by kernel_rfl) rfl ?_) | (refine wpList_load_all rfl 28 _ rfl bb0 rfl _ _ _ (by exact (hK.box (bb0, .cells #[.int .i64 rp, .int .i64 rn, .int .i64 rm, .int .i64 rk, .slice A0 rs.length c0] 28 (0, 0)) (by simp))) Try.underlying28 rfl 5 (by kernel_rfl) rfl ?_))
  refine (eqMethod_c rp rn rm rk _ _ _ _ rs _ (o1.rd' Hrb.out) (o0.rd' Hrb.out) (by omega)).mono ?_
  rintro e w24 ⟨rfl, b24⟩
  have z24 : w22.heap.size + 1 ≤ w24.heap.size := size_after (Nat.le_of_eq (size_al1 w22 (.cells #[.int .i64 rp, .int .i64 rn, .int .i64 rm, .int .i64 rk, .slice A1 rs.length c1] 28 (0, 0))).symm) b24
  replace hK := hK.after b24
  replace o0 := o0.below b24
  replace oh18 := oh18.below b24
  replace oh20 := oh20.below b24
  replace o1 := o1.below b24
  clear b24
  go_wp2_with fail
  refine wp_region_held (S := fun w' => ∀ b ∈ ([(w22.heap.size, .cells #[.int .i64 rp, .int .i64 rn, .int .i64 rm, .int .i64 rk, .slice A1 rs.length c1] 28 (0, 0)), (w20.heap.size, .cells #[.int .i64 yp, .int .i64 yn, .int .i64 ym, .int .i64 yk, .slice (some ⟨g20, 0, none⟩) yq.length yq.length] 28 (0, 0)), (w18.heap.size, .cells #[.int .i64 xp, .int .i64 xn, .int .i64 xm, .int .i64 xk, .slice (some ⟨g18, 0, none⟩) xq.length xq.length] 28 (0, 0)), (bb0, .cells #[.int .i64 rp, .int .i64 rn, .int .i64 rm, .int .i64 rk, .slice A0 rs.length c0] 28 (0, 0)), (w.heap.size, .cells #[.int .i64 xp, .int .i64 xn, .int .i64 xm, .int .i64 xk, .slice xA xq.length xc] 24 (0, 0)), ((w.heap.size + 1), .cells #[.int .i64 yp, .int .i64 yn, .int .i64 ym, .int .i64 yk, .slice yA yq.length yc] 24 (0, 0))] : List (Nat × Obj)), At w' b.1 b.2) (by kernel_rfl) ?_
  change wpAnyH _ _ _ _ _ _ _ _ (World.drew _)
  obtain ⟨w25, hw25, hK, o0, oh18, oh20, o1, z25⟩ : ∃ W, W = World.drew _ ∧ KA w [(w22.heap.size, .cells #[.int .i64 rp, .int .i64 rn, .int .i64 rm, .int .i64 rk, .slice A1 rs.length c1] 28 (0, 0)), (w20.heap.size, .cells #[.int .i64 yp, .int .i64 yn, .int .i64 ym, .int .i64 yk, .slice (some ⟨g20, 0, none⟩) yq.length yq.length] 28 (0, 0)), (w18.heap.size, .cells #[.int .i64 xp, .int .i64 xn, .int .i64 xm, .int .i64 xk, .slice (some ⟨g18, 0, none⟩) xq.length xq.length] 28 (0, 0)), (bb0, .cells #[.int .i64 rp, .int .i64 rn, .int .i64 rm, .int .i64 rk, .slice A0 rs.length c0] 28 (0, 0)), (w.heap.size, .cells #[.int .i64 xp, .int .i64 xn, .int .i64 xm, .int .i64 xk, .slice xA xq.length xc] 24 (0, 0)), ((w.heap.size + 1), .cells #[.int .i64 yp, .int .i64 yn, .int .i64 ym, .int .i64 yk, .slice yA yq.length yc] 24 (0, 0))] W ∧ Own W (w2.heap.size) (.slice A0 rs.length c0) rs ∧ Own W (w17.heap.size) (.slice (some ⟨g18, 0, none⟩) xq.length xq.length) xq ∧ Own W (w18.heap.size + 1) (.slice (some ⟨g20, 0, none⟩) yq.length yq.length) yq ∧ Own W (w20.heap.size + 1) (.slice A1 rs.length c1) rs ∧ w24.heap.size ≤ W.heap.size := ⟨_, rfl, hK.drew, o0.drew, oh18.drew, oh20.drew, o1.drew, Nat.le_refl _⟩
  rw [← hw25]
  clear hw25
  refine held_yield 0 (some 54) (.agg #[.int .i64 xp, .int .i64 xn, .int .i64 xm, .int .i64 xk, .slice (some ⟨g18, 0, none⟩) xq.length xq.length]) rfl (by kernel_rfl) (by kernel_rfl) (by kernel_rfl) (fun _ _ _ h => h) rfl rfl hK.box (fun w' h' => exec_load_all 28 _ rfl w18.heap.size rfl _ _ _ (h' (w18.heap.size, .cells #[.int .i64 xp, .int .i64 xn, .int .i64 xm, .int .i64 xk, .slice (some ⟨g18, 0, none⟩) xq.length xq.length] 28 (0, 0)) (by simp)) Try.underlying28 rfl 5 (by kernel_rfl) rfl) ?_
  go_frame
  refine held_yield 1 (some 55) (.agg #[.int .i64 xp, .int .i64 xn, .int .i64 xm, .int .i64 xk, .slice xA xq.length xc]) rfl (by kernel_rfl) (by kernel_rfl) (by kernel_rfl) (fun _ _ _ h => h) rfl rfl hK.box (fun w' h' => exec_load_all 24 _ rfl w.heap.size rfl _ _ _ (h' (w.heap.size, .cells #[.int .i64 xp, .int .i64 xn, .int .i64 xm, .int .i64 xk, .slice xA xq.length xc] 24 (0, 0)) (by simp)) Try.underlying24 rfl 5 (by kernel_rfl) rfl) ?_
  go_frame
  refine held_oper 2 (by kernel_rfl) rfl rfl (fun K' hK' => ?_)
  refine wp_call1 (some 56) rfl 8 _ _ rfl (fun args w => by kernel_rfl) _ rfl _ (toMethod_c xp xn xm xk xA xc xq _ (hr_x.keep hK.below) t_x) (fun e w26 h => ?_)
  obtain ⟨g26, rfl, hg26, h26, b26⟩ := h
  have z26 : w25.heap.size ≤ w26.heap.size := size_after (Nat.le_refl _) b26
  replace hK := hK.after b26
  replace o0 := o0.below b26
  replace oh18 := oh18.below b26
  replace oh20 := oh20.below b26
  replace o1 := o1.below b26
  clear b26
  replace hg26 := Nat.le_trans (Nat.le_refl _) hg26
  refine ⟨_, rfl, hK' _ _ hK.box ?_⟩
  clear hK' K'
  go_frame
  refine held_oper 3 (by kernel_rfl) rfl rfl (fun K' hK' => ?_)
  refine wp_call2 (some 57) rfl 10 _ _ _ rfl (fun args w => by kernel_rfl) _ _ rfl rfl _ (eqMethod_c xp xn xm xk _ _ _ _ xq _ (oh18.rd' hr_x.good) (Rd.of_at h26 hr_x.good) (by omega)) (fun e w27 h => ?_)
  obtain ⟨rfl, b27⟩ := h
  have z27 : w26.heap.size ≤ w27.heap.size := size_after (Nat.le_refl _) b27
  replace hK := hK.after b27
  replace o0 := o0.below b27
  replace oh18 := oh18.below b27
  replace oh20 := oh20.below b27
  replace o1 := o1.below b27
  replace h26 := h26.after b27
  clear b27
  clear h26
  refine ⟨_, rfl, hK' _ _ hK.box ?_⟩
  clear hK' K'
  go_frame
  refine held_exec 4 (some 58) (.bool false) (by kernel_rfl) rfl rfl rfl (exec_not 4 _ rfl true rfl) hK.box ?_
  go_frame
  refine wpAnyH_done (by kernel_rfl) ?_ _
  go_wp2_with fail
  refine wp_region_held (S := fun w' => ∀ b ∈ ([(w22.heap.size, .cells #[.int .i64 rp, .int .i64 rn, .int .i64 rm, .int .i64 rk, .slice A1 rs.length c1] 28 (0, 0)), (w20.heap.size, .cells #[.int .i64 yp, .int .i64 yn, .int .i64 ym, .int .i64 yk, .slice (some ⟨g20, 0, none⟩) yq.length yq.length] 28 (0, 0)), (w18.heap.size, .cells #[.int .i64 xp, .int .i64 xn, .int .i64 xm, .int .i64 xk, .slice (some ⟨g18, 0, none⟩) xq.length xq.length] 28 (0, 0)), (bb0, .cells #[.int .i64 rp, .int .i64 rn, .int .i64 rm, .int .i64 rk, .slice A0 rs.length c0] 28 (0, 0)), (w.heap.size, .cells #[.int .i64 xp, .int .i64 xn, .int .i64 xm, .int .i64 xk, .slice xA xq.length xc] 24 (0, 0)), ((w.heap.size + 1), .cells #[.int .i64 yp, .int .i64 yn, .int .i64 ym, .int .i64 yk, .slice yA yq.length yc] 24 (0, 0))] : List (Nat × Obj)), At w' b.1 b.2) (by kernel_rfl) ?_
  change wpAnyH _ _ _ _ _ _ _ _ (World.drew _)
  obtain ⟨w28, hw28, hK, o0, oh18, oh20, o1, z28⟩ : ∃ W, W = World.drew _ ∧ KA w [(w22.heap.size, .cells #[.int .i64 rp, .int .i64 rn, .int .i64 rm, .int .i64 rk, .slice A1 rs.length c1] 28 (0, 0)), (w20.heap.size, .cells #[.int .i64 yp, .int .i64 yn, .int .i64 ym, .int .i64 yk, .slice (some ⟨g20, 0, none⟩) yq.length yq.length] 28 (0, 0)), (w18.heap.size, .cells #[.int .i64 xp, .int .i64 xn, .int .i64 xm, .int .i64 xk, .slice (some ⟨g18, 0, none⟩) xq.length xq.length] 28 (0, 0)), (bb0, .cells #[.int .i64 rp, .int .i64 rn, .int .i64 rm, .int .i64 rk, .slice A0 rs.length c0] 28 (0, 0)), (w.heap.size, .cells #[.int .i64 xp, .int .i64 xn, .int .i64 xm, .int .i64 xk, .slice xA xq.length xc] 24 (0, 0)), ((w.heap.size + 1), .cells #[.int .i64 yp, .int .i64 yn, .int .i64 ym, .int .i64 yk, .slice yA yq.length yc] 24 (0, 0))] W ∧ Own W (w2.heap.size) (.slice A0 rs.length c0) rs ∧ Own W (w17.heap.size) (.slice (some ⟨g18, 0, none⟩) xq.length xq.length) xq ∧ Own W (w18.heap.size + 1) (.slice (some ⟨g20, 0, none⟩) yq.length yq.length) yq ∧ Own W (w20.heap.size + 1) (.slice A1 rs.length c1) rs ∧ w27.heap.size ≤ W.heap.size := ⟨_, rfl, hK.drew, o0.drew, oh18.drew, oh20.drew, o1.drew, Nat.le_refl _⟩
  rw [← hw28]
  clear hw28
  refine held_yield 0 (some 59) (.agg #[.int .i64 yp, .int .i64 yn, .int .i64 ym, .int .i64 yk, .slice (some ⟨g20, 0, none⟩) yq.length yq.length]) rfl (by kernel_rfl) (by kernel_rfl) (by kernel_rfl) (fun _ _ _ h => h) rfl rfl hK.box (fun w' h' => exec_load_all 28 _ rfl w20.heap.size rfl _ _ _ (h' (w20.heap.size, .cells #[.int .i64 yp, .int .i64 yn, .int .i64 ym, .int .i64 yk, .slice (some ⟨g20, 0, none⟩) yq.length yq.length] 28 (0, 0)) (by simp)) Try.underlying28 rfl 5 (by kernel_rfl) rfl) ?_
  go_frame
  refine held_yield 1 (some 60) (.agg #[.int .i64 yp, .int .i64 yn, .int .i64 ym, .int .i64 yk, .slice yA yq.length yc]) rfl (by kernel_rfl) (by kernel_rfl) (by kernel_rfl) (fun _ _ _ h => h) rfl rfl hK.box (fun w' h' => exec_load_all 24 _ rfl (w.heap.size + 1) rfl _ _ _ (h' ((w.heap.size + 1), .cells #[.int .i64 yp, .int .i64 yn, .int .i64 ym, .int .i64 yk, .slice yA yq.length yc] 24 (0, 0)) (by simp)) Try.underlying24 rfl 5 (by kernel_rfl) rfl) ?_
  go_frame
  refine held_oper 2 (by kernel_rfl) rfl rfl (fun K' hK' => ?_)
  refine wp_call1 (some 61) rfl 8 _ _ rfl (fun args w => by kernel_rfl) _ rfl _ (toMethod_c yp yn ym yk yA yc yq _ (hr_y.keep hK.below) t_y) (fun e w29 h => ?_)
  obtain ⟨g29, rfl, hg29, h29, b29⟩ := h
  have z29 : w28.heap.size ≤ w29.heap.size := size_after (Nat.le_refl _) b29
  replace hK := hK.after b29
  replace o0 := o0.below b29
  replace oh18 := oh18.below b29
  replace oh20 := oh20.below b29
  replace o1 := o1.below b29
  clear b29
  replace hg29 := Nat.le_trans (Nat.le_refl _) hg29
  refine ⟨_, rfl, hK' _ _ hK.box ?_⟩
  clear hK' K'
  go_frame
  refine held_oper 3 (by kernel_rfl) rfl rfl (fun K' hK' => ?_)
  refine wp_call2 (some 62) rfl 10 _ _ _ rfl (fun args w => by kernel_rfl) _ _ rfl rfl _ (eqMethod_c yp yn ym yk _ _ _ _ yq _ (oh20.rd' hr_y.good) (Rd.of_at h29 hr_y.good) (by omega)) (fun e w30 h => ?_)
  obtain ⟨rfl, b30⟩ := h
  have z30 : w29.heap.size ≤ w30.heap.size := size_after (Nat.le_refl _) b30
  replace hK := hK.after b30
  replace o0 := o0.below b30
  replace oh18 := oh18.below b30
  replace oh20 := oh20.below b30
  replace o1 := o1.below b30
  replace h29 := h29.after b30
  clear b30
  clear h29
  refine ⟨_, rfl, hK' _ _ hK.box ?_⟩
  clear hK' K'
  go_frame
  refine held_exec 4 (some 63) (.bool false) (by kernel_rfl) rfl rfl rfl (exec_not 4 _ rfl true rfl) hK.box ?_
  go_frame
  refine wpAnyH_done (by kernel_rfl) ?_ _
  go_wp2_with (refine wpList_load_all rfl 28 _ rfl w18.heap.size rfl _ _ _ (by exact (hK.box (w18.heap.size, .cells #[.int .i64 xp, .int .i64 xn, .int .i64 xm, .int .i64 xk, .slice (some ⟨g18, 0, none⟩) xq.length xq.length] 28 (0, 0)) (by simp))) Try.underlying28 rfl 5 (by kernel_rfl) rfl ?_)
  refine (markMethod_2 xp xn xm xk (1) _ _ (by simp) oh18 t_x (by omega)).mono ?_
  rintro e w31 ⟨rfl, hG, hH⟩
  have S31 := Same.of_in hG ioh18
  have z31 : w30.heap.size ≤ w31.heap.size := Nat.le_trans (Nat.le_refl _) S31.size
  replace hK := hK.grown oh18 (by omega) hG (by intro b hb; simp only [List.mem_cons, List.not_mem_nil, or_false] at hb; rcases hb with rfl | rfl | rfl | rfl | rfl | rfl <;> exact ⟨_, _, rfl, by decide⟩)
  replace o0 := o0.same io0 S31 (by omega)
  replace oh20 := oh20.same ioh20 S31 (by omega)
  replace o1 := o1.same io1 S31 (by omega)
  clear S31 hG
  clear hH
  clear oh18
  go_wp2_with (refine wpList_load_all rfl 28 _ rfl w20.heap.size rfl _ _ _ (by exact (hK.box (w20.heap.size, .cells #[.int .i64 yp, .int .i64 yn, .int .i64 ym, .int .i64 yk, .slice (some ⟨g20, 0, none⟩) yq.length yq.length] 28 (0, 0)) (by simp))) Try.underlying28 rfl 5 (by kernel_rfl) rfl ?_)
  have hneg32 : ¬ (1 : Int) + (xq.length : Int) * 27 + (yq.length : Int) * 27 < 0 := by omega
  refine (markMethod_2 yp yn ym yk (1 + xq.length * 27) _ _ (by simp) oh20 t_y (by omega)).mono ?_
  rintro e w32 ⟨rfl, hG, hH⟩
  have S32 := Same.of_in hG ioh20
  have z32 : w31.heap.size ≤ w32.heap.size := Nat.le_trans (Nat.le_refl _) S32.size
  replace hK := hK.grown oh20 (by omega) hG (by intro b hb; simp only [List.mem_cons, List.not_mem_nil, or_false] at hb; rcases hb with rfl | rfl | rfl | rfl | rfl | rfl <;> exact ⟨_, _, rfl, by decide⟩)
  replace o0 := o0.same io0 S32 (by omega)
  replace o1 := o1.same io1 S32 (by omega)
  clear S32 hG
  clear hH
  clear oh20
  go_wp2_with (first | (refine wpList_want_exec rfl (exec_load_all 28 _ rfl w22.heap.size rfl _ _ _ (by exact (hK.box (w22.heap.size, .cells #[.int .i64 rp, .int .i64 rn, .int .i64 rm, .int .i64 rk, .slice A1 rs.length c1] 28 (0, 0)) (by simp))) Try.underlying28 rfl 5 (by kernel_rfl) rfl) ?_) | (refine wpList_want_exec rfl (exec_load_all 28 _ rfl bb0 rfl _ _ _ (by exact (hK.box (bb0, .cells #[.int .i64 rp, .int .i64 rn, .int .i64 rm, .int .i64 rk, .slice A0 rs.length c0] 28 (0, 0)) (by simp))) Try.underlying28 rfl 5 (by kernel_rfl) rfl) ?_))
  refine (eqMethod_c rp rn rm rk _ _ _ _ rs _ (o1.rd' Hrb.out) (o0.rd' Hrb.out) (by omega)).mono ?_
  rintro e w33 ⟨rfl, b33⟩
  have z33 : w32.heap.size ≤ w33.heap.size := size_after (Nat.le_refl _) b33
  replace hK := hK.after b33
  replace o0 := o0.below b33
  replace o1 := o1.below b33
  clear b33
  go_wp2_with (refine wpList_load_all rfl 28 _ rfl w22.heap.size rfl _ _ _ (by exact (hK.box (w22.heap.size, .cells #[.int .i64 rp, .int .i64 rn, .int .i64 rm, .int .i64 rk, .slice A1 rs.length c1] 28 (0, 0)) (by simp))) Try.underlying28 rfl 5 (by kernel_rfl) rfl ?_)
  have hneg34 : ¬ (1 : Int) + (rs.length : Int) * 27 < 0 := by omega
  refine (markMethod_2 rp rn rm rk (1) _ _ (by simp) o1 hrl (by omega)).mono ?_
  rintro e w34 ⟨rfl, hG, hH⟩
  have S34 := Same.of_in hG io1
  have z34 : w33.heap.size ≤ w34.heap.size := Nat.le_trans (Nat.le_refl _) S34.size
  replace hK := hK.grown o1 (by omega) hG (by intro b hb; simp only [List.mem_cons, List.not_mem_nil, or_false] at hb; rcases hb with rfl | rfl | rfl | rfl | rfl | rfl <;> exact ⟨_, _, rfl, by decide⟩)
  replace o0 := o0.same io0 S34 (by omega)
  clear S34 hG
  have s1 := o1.shp
  clear o1
  have ihH := io1
  go_wp2_with (refine wpList_load_all rfl 28 _ rfl w22.heap.size rfl _ _ _ (by exact (hK.box (w22.heap.size, .cells #[.int .i64 rp, .int .i64 rn, .int .i64 rm, .int .i64 rk, .slice A1 rs.length c1] 28 (0, 0)) (by simp))) Try.underlying28 rfl 5 (by kernel_rfl) rfl ?_)
  refine (heldMethod_1 rp rn rm rk _ s1 hH hrl).mono ?_
  rintro e w35 ⟨rfl, b35⟩
  have z35 : w34.heap.size ≤ w35.heap.size := size_after (Nat.le_refl _) b35
  replace hK := hK.after b35
  replace o0 := o0.below b35
  replace hH := hH.below b35
  clear b35
  go_wp2_with fail
  have lz2 := hK.below.size
  have zz2 : w35.heap.size ≤ _ := Nat.le_refl _
  go_cut [15, 16] from 94 to 101 (fun s15 s16 wx => ∃ (bb2 : Nat) (A2 : Option Addr) (c2 : Nat), s15 = .pointer (some ⟨bb2, 0, none⟩) ∧ s16 = .int .i64 code ∧ w35.heap.size ≤ bb2 ∧ bb2 < wx.heap.size ∧ Own wx (w35.heap.size) (.slice A2 rs.length c2) rs ∧ At wx bb2 (.cells #[.int .i64 rp, .int .i64 rn, .int .i64 rm, .int .i64 rk, .slice A2 rs.length c2] 28 (0, 0)) ∧ KA w [(w22.heap.size, .cells #[.int .i64 rp, .int .i64 rn, .int .i64 rm, .int .i64 rk, .slice A1 rs.length c1] 28 (0, 0)), (w20.heap.size, .cells #[.int .i64 yp, .int .i64 yn, .int .i64 ym, .int .i64 yk, .slice (some ⟨g20, 0, none⟩) yq.length yq.length] 28 (0, 0)), (w18.heap.size, .cells #[.int .i64 xp, .int .i64 xn, .int .i64 xm, .int .i64 xk, .slice (some ⟨g18, 0, none⟩) xq.length xq.length] 28 (0, 0)), (bb0, .cells #[.int .i64 rp, .int .i64 rn, .int .i64 rm, .int .i64 rk, .slice A0 rs.length c0] 28 (0, 0)), (w.heap.size, .cells #[.int .i64 xp, .int .i64 xn, .int .i64 xm, .int .i64 xk, .slice xA xq.length xc] 24 (0, 0)), ((w.heap.size + 1), .cells #[.int .i64 yp, .int .i64 yn, .int .i64 ym, .int .i64 yk, .slice yA yq.length yc] 24 (0, 0))] wx ∧ Own wx (w2.heap.size) (.slice A0 rs.length c0) rs ∧ Held wx (.slice A1 rs.length c1) 1 rs.length)
  case first =>
    go_wp2_with fail
    refine wp_region_held (S := fun w' => ∀ b ∈ ([(w22.heap.size, .cells #[.int .i64 rp, .int .i64 rn, .int .i64 rm, .int .i64 rk, .slice A1 rs.length c1] 28 (0, 0)), (w20.heap.size, .cells #[.int .i64 yp, .int .i64 yn, .int .i64 ym, .int .i64 yk, .slice (some ⟨g20, 0, none⟩) yq.length yq.length] 28 (0, 0)), (w18.heap.size, .cells #[.int .i64 xp, .int .i64 xn, .int .i64 xm, .int .i64 xk, .slice (some ⟨g18, 0, none⟩) xq.length xq.length] 28 (0, 0)), (bb0, .cells #[.int .i64 rp, .int .i64 rn, .int .i64 rm, .int .i64 rk, .slice A0 rs.length c0] 28 (0, 0)), (w.heap.size, .cells #[.int .i64 xp, .int .i64 xn, .int .i64 xm, .int .i64 xk, .slice xA xq.length xc] 24 (0, 0)), ((w.heap.size + 1), .cells #[.int .i64 yp, .int .i64 yn, .int .i64 ym, .int .i64 yk, .slice yA yq.length yc] 24 (0, 0))] : List (Nat × Obj)), At w' b.1 b.2) (by kernel_rfl) ?_
    change wpAnyH _ _ _ _ _ _ _ _ (World.drew _)
    obtain ⟨w36, hw36, hK, o0, hH, z36⟩ : ∃ W, W = World.drew _ ∧ KA w [(w22.heap.size, .cells #[.int .i64 rp, .int .i64 rn, .int .i64 rm, .int .i64 rk, .slice A1 rs.length c1] 28 (0, 0)), (w20.heap.size, .cells #[.int .i64 yp, .int .i64 yn, .int .i64 ym, .int .i64 yk, .slice (some ⟨g20, 0, none⟩) yq.length yq.length] 28 (0, 0)), (w18.heap.size, .cells #[.int .i64 xp, .int .i64 xn, .int .i64 xm, .int .i64 xk, .slice (some ⟨g18, 0, none⟩) xq.length xq.length] 28 (0, 0)), (bb0, .cells #[.int .i64 rp, .int .i64 rn, .int .i64 rm, .int .i64 rk, .slice A0 rs.length c0] 28 (0, 0)), (w.heap.size, .cells #[.int .i64 xp, .int .i64 xn, .int .i64 xm, .int .i64 xk, .slice xA xq.length xc] 24 (0, 0)), ((w.heap.size + 1), .cells #[.int .i64 yp, .int .i64 yn, .int .i64 ym, .int .i64 yk, .slice yA yq.length yc] 24 (0, 0))] W ∧ Own W (w2.heap.size) (.slice A0 rs.length c0) rs ∧ Held W (.slice A1 rs.length c1) 1 rs.length ∧ w35.heap.size ≤ W.heap.size := ⟨_, rfl, hK.drew, o0.drew, hH, Nat.le_refl _⟩
    rw [← hw36]
    clear hw36
    refine held_yield 0 (some 95) (.agg #[.int .i64 xp, .int .i64 xn, .int .i64 xm, .int .i64 xk, .slice xA xq.length xc]) rfl (by kernel_rfl) (by kernel_rfl) (by kernel_rfl) (fun _ _ _ h => h) rfl rfl hK.box (fun w' h' => exec_load_all 24 _ rfl w.heap.size rfl _ _ _ (h' (w.heap.size, .cells #[.int .i64 xp, .int .i64 xn, .int .i64 xm, .int .i64 xk, .slice xA xq.length xc] 24 (0, 0)) (by simp)) Try.underlying24 rfl 5 (by kernel_rfl) rfl) ?_
    go_frame
    refine held_yield 2 (some 97) (.agg #[.int .i64 yp, .int .i64 yn, .int .i64 ym, .int .i64 yk, .slice yA yq.length yc]) rfl (by kernel_rfl) (by kernel_rfl) (by kernel_rfl) (fun _ _ _ h => h) rfl rfl hK.box (fun w' h' => exec_load_all 24 _ rfl (w.heap.size + 1) rfl _ _ _ (h' ((w.heap.size + 1), .cells #[.int .i64 yp, .int .i64 yn, .int .i64 ym, .int .i64 yk, .slice yA yq.length yc] 24 (0, 0)) (by simp)) Try.underlying24 rfl 5 (by kernel_rfl) rfl) ?_
    go_frame
    refine held_two 1 8 (by kernel_rfl) rfl rfl rfl rfl (fun K' hK' => ?_) (fun K' hK' => ?_)
    · refine wp_call1 (some 96) rfl 8 _ _ rfl (fun args w => by kernel_rfl) _ rfl _ (toMethod_c xp xn xm xk xA xc xq _ (hr_x.keep hK.below) t_x) (fun e w37 h => ?_)
      obtain ⟨g37, rfl, hg37, h37, b37⟩ := h
      have z37 : w36.heap.size ≤ w37.heap.size := size_after (Nat.le_refl _) b37
      replace hK := hK.after b37
      replace o0 := o0.below b37
      replace hH := hH.below b37
      clear b37
      replace hg37 := Nat.le_trans (Nat.le_refl _) hg37
      refine ⟨_, rfl, hK' _ _ hK.box ?_⟩
      clear hK' K'
      go_frame
      refine held_two 3 8 (by kernel_rfl) rfl rfl rfl rfl (fun K' hK' => ?_) (fun K' hK' => ?_)
      · refine wp_call1 (some 98) rfl 8 _ _ rfl (fun args w => by kernel_rfl) _ rfl _ (toMethod_c yp yn ym yk yA yc yq _ (hr_y.keep hK.below) t_y) (fun e w38 h => ?_)
        obtain ⟨g38, rfl, hg38, h38, b38⟩ := h
        have z38 : w37.heap.size ≤ w38.heap.size := size_after (Nat.le_refl _) b38
        replace hK := hK.after b38
        replace o0 := o0.below b38
        replace hH := hH.below b38
        replace h37 := h37.after b38
        clear b38
        replace hg38 := Nat.le_trans (Nat.le_refl _) hg38
        refine ⟨_, rfl, hK' _ _ hK.box ?_⟩
        clear hK' K'
        go_frame
        refine held_two 4 8 (by kernel_rfl) rfl rfl rfl rfl (fun K' hK' => ?_) (fun K' hK' => ?_)
        · refine wp_call2 (some 99) rfl 9 _ _ _ rfl (fun args w => by kernel_rfl) _ _ rfl rfl _ (HIm.out _ _ _ (Rd.of_at h37 hr_x.good) (Rd.of_at h38 hr_y.good)) (fun e w39 h => ?_)
          obtain ⟨v39, rfl, o2, b39⟩ := h
          have z39 : w38.heap.size ≤ w39.heap.size := size_after (Nat.le_refl _) b39
          replace hK := hK.after b39
          replace o0 := o0.below b39
          replace hH := hH.below b39
          replace h37 := h37.after b39
          replace h38 := h38.after b39
          clear b39
          clear h37
          clear h38
          replace o2 := o2.mono (Nat.le_refl _)
          have io2 := o2.inn
          obtain ⟨A2, c2, rfl, _⟩ := o2.rd Hrb.out
          refine ⟨_, rfl, hK' _ _ hK.box ?_⟩
          clear hK' K'
          go_frame
          refine held_yield 5 (some 94) (.tuple #[.agg #[.int .i64 rp, .int .i64 rn, .int .i64 rm, .int .i64 rk, .slice A2 rs.length c2], .int .i64 code]) rfl (by kernel_rfl) (by kernel_rfl) (by kernel_rfl) (fun _ _ _ h => h) rfl rfl hK.box (fun w' h' => exec_move _ rfl (.tuple #[.agg #[.int .i64 rp, .int .i64 rn, .int .i64 rm, .int .i64 rk, .slice A2 rs.length c2], .int .i64 code]) rfl) ?_
          go_frame
          refine held_yield 6 (some 100) (.agg #[.int .i64 rp, .int .i64 rn, .int .i64 rm, .int .i64 rk, .slice A2 rs.length c2]) rfl (by kernel_rfl) (by kernel_rfl) (by kernel_rfl) (fun _ _ _ h => h) rfl rfl hK.box (fun w' h' => exec_extract _ 0 rfl #[.agg #[.int .i64 rp, .int .i64 rn, .int .i64 rm, .int .i64 rk, .slice A2 rs.length c2], .int .i64 code] rfl (.agg #[.int .i64 rp, .int .i64 rn, .int .i64 rm, .int .i64 rk, .slice A2 rs.length c2]) rfl) ?_
          go_frame
          refine held_yield 7 (some 101) (.int .i64 code) rfl (by kernel_rfl) (by kernel_rfl) (by kernel_rfl) (fun _ _ _ h => h) rfl rfl hK.box (fun w' h' => exec_extract _ 1 rfl #[.agg #[.int .i64 rp, .int .i64 rn, .int .i64 rm, .int .i64 rk, .slice A2 rs.length c2], .int .i64 code] rfl (.int .i64 code) rfl) ?_
          go_frame
          refine held_oper 8 (by kernel_rfl) rfl rfl (fun K' hK' => ?_)
          refine wp_new (some 15) rfl (exec_alloc_method rfl) (fun w40 nn => ?_)
          have b40 := nn.below (Below.refl _ _) (Nat.le_refl _)
          have z40 : w39.heap.size ≤ w40.heap.size := size_after (Nat.le_refl _) b40
          replace hK := hK.after b40
          replace o0 := o0.below b40
          replace hH := hH.below b40
          replace o2 := o2.below b40
          have hbx : At w40 w39.heap.size (.cells #[.int .i64 0, .int .i64 0, .int .i64 0, .int .i64 0, .slice none 0 0] 28 (0, 0)) := nn.at_
          have lbx := hbx.lt
          clear b40 nn
          refine hK' _ _ hK.box ?_
          clear hK' K'
          go_frame
          have nb := o2.off hbx (by decide)
          have nb_o0 := o0.off hbx (by decide)
          refine held_oper 9 (by kernel_rfl) rfl rfl (fun K' hK' => ?_)
          refine wp_store_all 28 _ _ rfl rfl (w39.heap.size) rfl _ rfl _ _ hbx 5 (by kernel_rfl) rfl rfl (one5 _ _ _ _ _ _ _) (fun ws ps => ?_)
          replace hK : KA w [(w22.heap.size, .cells #[.int .i64 rp, .int .i64 rn, .int .i64 rm, .int .i64 rk, .slice A1 rs.length c1] 28 (0, 0)), (w20.heap.size, .cells #[.int .i64 yp, .int .i64 yn, .int .i64 ym, .int .i64 yk, .slice (some ⟨g20, 0, none⟩) yq.length yq.length] 28 (0, 0)), (w18.heap.size, .cells #[.int .i64 xp, .int .i64 xn, .int .i64 xm, .int .i64 xk, .slice (some ⟨g18, 0, none⟩) xq.length xq.length] 28 (0, 0)), (bb0, .cells #[.int .i64 rp, .int .i64 rn, .int .i64 rm, .int .i64 rk, .slice A0 rs.length c0] 28 (0, 0)), (w.heap.size, .cells #[.int .i64 xp, .int .i64 xn, .int .i64 xm, .int .i64 xk, .slice xA xq.length xc] 24 (0, 0)), ((w.heap.size + 1), .cells #[.int .i64 yp, .int .i64 yn, .int .i64 ym, .int .i64 yk, .slice yA yq.length yc] 24 (0, 0))] ws := ⟨ps.below hK.below (by omega), by intro b hb; have hx := hK.box b hb; simp only [List.mem_cons, List.not_mem_nil, or_false] at hb; rcases hb with rfl | rfl | rfl | rfl | rfl | rfl <;> exact ps.other hx (by dsimp only; omega)⟩
          replace o0 := o0.put ps nb_o0
          replace hH := hH.put ps (fun e => by have := ihH _ e.symm; omega)
          replace o2 := o2.put ps nb
          replace hbx := ps.at_
          replace lbx := hbx.lt
          refine hK' _ _ hK.box ?_
          clear hK' K' ps
          refine held_yield 10 (some 16) (.int .i64 code) rfl (by kernel_rfl) (by kernel_rfl) (by kernel_rfl) (fun _ _ _ h => h) rfl rfl hK.box (fun w' h' => exec_assign _ rfl (.int .i64 code) rfl) ?_
          go_frame
          refine wpAnyH_done (by kernel_rfl) ?_ _
          go_wp2_with fail
          go_meet
          exact ⟨_, _, _, rfl, rfl, by omega, lbx, o2.mono (by omega), hbx, hK, o0, hH⟩
        · refine wp_new (some 15) rfl (exec_alloc_method rfl) (fun w41 nn => ?_)
          have b41 := nn.below (Below.refl _ _) (Nat.le_refl _)
          have z41 : w38.heap.size ≤ w41.heap.size := size_after (Nat.le_refl _) b41
          replace hK := hK.after b41
          replace o0 := o0.below b41
          replace hH := hH.below b41
          replace h37 := h37.after b41
          replace h38 := h38.after b41
          have hbx : At w41 w38.heap.size (.cells #[.int .i64 0, .int .i64 0, .int .i64 0, .int .i64 0, .slice none 0 0] 28 (0, 0)) := nn.at_
          have lbx := hbx.lt
          clear b41 nn
          refine hK' _ _ hK.box ?_
          clear hK' K'
          go_frame
          refine held_oper 4 (by kernel_rfl) rfl rfl (fun K' hK' => ?_)
          refine wp_call2 (some 99) rfl 9 _ _ _ rfl (fun args w => by kernel_rfl) _ _ rfl rfl _ (HIm.out _ _ _ (Rd.of_at h37 hr_x.good) (Rd.of_at h38 hr_y.good)) (fun e w42 h => ?_)
          obtain ⟨v42, rfl, o2, b42⟩ := h
          have z42 : w41.heap.size ≤ w42.heap.size := size_after (Nat.le_refl _) b42
          replace hK := hK.after b42
          replace o0 := o0.below b42
          replace hH := hH.below b42
          replace h37 := h37.after b42
          replace h38 := h38.after b42
          replace hbx := hbx.after b42
          clear b42
          clear h37
          clear h38
          replace o2 := o2.mono (Nat.le_refl _)
          have io2 := o2.inn
          obtain ⟨A2, c2, rfl, _⟩ := o2.rd Hrb.out
          refine ⟨_, rfl, hK' _ _ hK.box ?_⟩
          clear hK' K'
          go_frame
          refine held_yield 5 (some 94) (.tuple #[.agg #[.int .i64 rp, .int .i64 rn, .int .i64 rm, .int .i64 rk, .slice A2 rs.length c2], .int .i64 code]) rfl (by kernel_rfl) (by kernel_rfl) (by kernel_rfl) (fun _ _ _ h => h) rfl rfl hK.box (fun w' h' => exec_move _ rfl (.tuple #[.agg #[.int .i64 rp, .int .i64 rn, .int .i64 rm, .int .i64 rk, .slice A2 rs.length c2], .int .i64 code]) rfl) ?_
          go_frame
          refine held_yield 6 (some 100) (.agg #[.int .i64 rp, .int .i64 rn, .int .i64 rm, .int .i64 rk, .slice A2 rs.length c2]) rfl (by kernel_rfl) (by kernel_rfl) (by kernel_rfl) (fun _ _ _ h => h) rfl rfl hK.box (fun w' h' => exec_extract _ 0 rfl #[.agg #[.int .i64 rp, .int .i64 rn, .int .i64 rm, .int .i64 rk, .slice A2 rs.length c2], .int .i64 code] rfl (.agg #[.int .i64 rp, .int .i64 rn, .int .i64 rm, .int .i64 rk, .slice A2 rs.length c2]) rfl) ?_
          go_frame
          refine held_yield 7 (some 101) (.int .i64 code) rfl (by kernel_rfl) (by kernel_rfl) (by kernel_rfl) (fun _ _ _ h => h) rfl rfl hK.box (fun w' h' => exec_extract _ 1 rfl #[.agg #[.int .i64 rp, .int .i64 rn, .int .i64 rm, .int .i64 rk, .slice A2 rs.length c2], .int .i64 code] rfl (.int .i64 code) rfl) ?_
          go_frame
          have nb := o2.off hbx (by decide)
          have nb_o0 := o0.off hbx (by decide)
          refine held_oper 9 (by kernel_rfl) rfl rfl (fun K' hK' => ?_)
          refine wp_store_all 28 _ _ rfl rfl (w38.heap.size) rfl _ rfl _ _ hbx 5 (by kernel_rfl) rfl rfl (one5 _ _ _ _ _ _ _) (fun ws ps => ?_)
          replace hK : KA w [(w22.heap.size, .cells #[.int .i64 rp, .int .i64 rn, .int .i64 rm, .int .i64 rk, .slice A1 rs.length c1] 28 (0, 0)), (w20.heap.size, .cells #[.int .i64 yp, .int .i64 yn, .int .i64 ym, .int .i64 yk, .slice (some ⟨g20, 0, none⟩) yq.length yq.length] 28 (0, 0)), (w18.heap.size, .cells #[.int .i64 xp, .int .i64 xn, .int .i64 xm, .int .i64 xk, .slice (some ⟨g18, 0, none⟩) xq.length xq.length] 28 (0, 0)), (bb0, .cells #[.int .i64 rp, .int .i64 rn, .int .i64 rm, .int .i64 rk, .slice A0 rs.length c0] 28 (0, 0)), (w.heap.size, .cells #[.int .i64 xp, .int .i64 xn, .int .i64 xm, .int .i64 xk, .slice xA xq.length xc] 24 (0, 0)), ((w.heap.size + 1), .cells #[.int .i64 yp, .int .i64 yn, .int .i64 ym, .int .i64 yk, .slice yA yq.length yc] 24 (0, 0))] ws := ⟨ps.below hK.below (by omega), by intro b hb; have hx := hK.box b hb; simp only [List.mem_cons, List.not_mem_nil, or_false] at hb; rcases hb with rfl | rfl | rfl | rfl | rfl | rfl <;> exact ps.other hx (by dsimp only; omega)⟩
          replace o0 := o0.put ps nb_o0
          replace hH := hH.put ps (fun e => by have := ihH _ e.symm; omega)
          replace o2 := o2.put ps nb
          replace hbx := ps.at_
          replace lbx := hbx.lt
          refine hK' _ _ hK.box ?_
          clear hK' K' ps
          refine held_yield 10 (some 16) (.int .i64 code) rfl (by kernel_rfl) (by kernel_rfl) (by kernel_rfl) (fun _ _ _ h => h) rfl rfl hK.box (fun w' h' => exec_assign _ rfl (.int .i64 code) rfl) ?_
          go_frame
          refine wpAnyH_done (by kernel_rfl) ?_ _
          go_wp2_with fail
          go_meet
          exact ⟨_, _, _, rfl, rfl, by omega, lbx, o2.mono (by omega), hbx, hK, o0, hH⟩
      · refine wp_new (some 15) rfl (exec_alloc_method rfl) (fun w43 nn => ?_)
        have b43 := nn.below (Below.refl _ _) (Nat.le_refl _)
        have z43 : w37.heap.size ≤ w43.heap.size := size_after (Nat.le_refl _) b43
        replace hK := hK.after b43
        replace o0 := o0.below b43
        replace hH := hH.below b43
        replace h37 := h37.after b43
        have hbx : At w43 w37.heap.size (.cells #[.int .i64 0, .int .i64 0, .int .i64 0, .int .i64 0, .slice none 0 0] 28 (0, 0)) := nn.at_
        have lbx := hbx.lt
        clear b43 nn
        refine hK' _ _ hK.box ?_
        clear hK' K'
        go_frame
        refine held_oper 3 (by kernel_rfl) rfl rfl (fun K' hK' => ?_)
        refine wp_call1 (some 98) rfl 8 _ _ rfl (fun args w => by kernel_rfl) _ rfl _ (toMethod_c yp yn ym yk yA yc yq _ (hr_y.keep hK.below) t_y) (fun e w44 h => ?_)
        obtain ⟨g44, rfl, hg44, h44, b44⟩ := h
        have z44 : w43.heap.size ≤ w44.heap.size := size_after (Nat.le_refl _) b44
        replace hK := hK.after b44
        replace o0 := o0.below b44
        replace hH := hH.below b44
        replace h37 := h37.after b44
        replace hbx := hbx.after b44
        clear b44
        replace hg44 := Nat.le_trans (Nat.le_refl _) hg44
        refine ⟨_, rfl, hK' _ _ hK.box ?_⟩
        clear hK' K'
        go_frame
        refine held_oper 4 (by kernel_rfl) rfl rfl (fun K' hK' => ?_)
        refine wp_call2 (some 99) rfl 9 _ _ _ rfl (fun args w => by kernel_rfl) _ _ rfl rfl _ (HIm.out _ _ _ (Rd.of_at h37 hr_x.good) (Rd.of_at h44 hr_y.good)) (fun e w45 h => ?_)
        obtain ⟨v45, rfl, o2, b45⟩ := h
        have z45 : w44.heap.size ≤ w45.heap.size := size_after (Nat.le_refl _) b45
        replace hK := hK.after b45
        replace o0 := o0.below b45
        replace hH := hH.below b45
        replace h37 := h37.after b45
        replace hbx := hbx.after b45
        replace h44 := h44.after b45
        clear b45
        clear h37
        clear h44
        replace o2 := o2.mono (Nat.le_refl _)
        have io2 := o2.inn
        obtain ⟨A2, c2, rfl, _⟩ := o2.rd Hrb.out
        refine ⟨_, rfl, hK' _ _ hK.box ?_⟩
        clear hK' K'
        go_frame
        refine held_yield 5 (some 94) (.tuple #[.agg #[.int .i64 rp, .int .i64 rn, .int .i64 rm, .int .i64 rk, .slice A2 rs.length c2], .int .i64 code]) rfl (by kernel_rfl) (by kernel_rfl) (by kernel_rfl) (fun _ _ _ h => h) rfl rfl hK.box (fun w' h' => exec_move _ rfl (.tuple #[.agg #[.int .i64 rp, .int .i64 rn, .int .i64 rm, .int .i64 rk, .slice A2 rs.length c2], .int .i64 code]) rfl) ?_
        go_frame
        refine held_yield 6 (some 100) (.agg #[.int .i64 rp, .int .i64 rn, .int .i64 rm, .int .i64 rk, .slice A2 rs.length c2]) rfl (by kernel_rfl) (by kernel_rfl) (by kernel_rfl) (fun _ _ _ h => h) rfl rfl hK.box (fun w' h' => exec_extract _ 0 rfl #[.agg #[.int .i64 rp, .int .i64 rn, .int .i64 rm, .int .i64 rk, .slice A2 rs.length c2], .int .i64 code] rfl (.agg #[.int .i64 rp, .int .i64 rn, .int .i64 rm, .int .i64 rk, .slice A2 rs.length c2]) rfl) ?_
        go_frame
        refine held_yield 7 (some 101) (.int .i64 code) rfl (by kernel_rfl) (by kernel_rfl) (by kernel_rfl) (fun _ _ _ h => h) rfl rfl hK.box (fun w' h' => exec_extract _ 1 rfl #[.agg #[.int .i64 rp, .int .i64 rn, .int .i64 rm, .int .i64 rk, .slice A2 rs.length c2], .int .i64 code] rfl (.int .i64 code) rfl) ?_
        go_frame
        have nb := o2.off hbx (by decide)
        have nb_o0 := o0.off hbx (by decide)
        refine held_oper 9 (by kernel_rfl) rfl rfl (fun K' hK' => ?_)
        refine wp_store_all 28 _ _ rfl rfl (w37.heap.size) rfl _ rfl _ _ hbx 5 (by kernel_rfl) rfl rfl (one5 _ _ _ _ _ _ _) (fun ws ps => ?_)
        replace hK : KA w [(w22.heap.size, .cells #[.int .i64 rp, .int .i64 rn, .int .i64 rm, .int .i64 rk, .slice A1 rs.length c1] 28 (0, 0)), (w20.heap.size, .cells #[.int .i64 yp, .int .i64 yn, .int .i64 ym, .int .i64 yk, .slice (some ⟨g20, 0, none⟩) yq.length yq.length] 28 (0, 0)), (w18.heap.size, .cells #[.int .i64 xp, .int .i64 xn, .int .i64 xm, .int .i64 xk, .slice (some ⟨g18, 0, none⟩) xq.length xq.length] 28 (0, 0)), (bb0, .cells #[.int .i64 rp, .int .i64 rn, .int .i64 rm, .int .i64 rk, .slice A0 rs.length c0] 28 (0, 0)), (w.heap.size, .cells #[.int .i64 xp, .int .i64 xn, .int .i64 xm, .int .i64 xk, .slice xA xq.length xc] 24 (0, 0)), ((w.heap.size + 1), .cells #[.int .i64 yp, .int .i64 yn, .int .i64 ym, .int .i64 yk, .slice yA yq.length yc] 24 (0, 0))] ws := ⟨ps.below hK.below (by omega), by intro b hb; have hx := hK.box b hb; simp only [List.mem_cons, List.not_mem_nil, or_false] at hb; rcases hb with rfl | rfl | rfl | rfl | rfl | rfl <;> exact ps.other hx (by dsimp only; omega)⟩
        replace o0 := o0.put ps nb_o0
        replace hH := hH.put ps (fun e => by have := ihH _ e.symm; omega)
        replace o2 := o2.put ps nb
        replace hbx := ps.at_
        replace lbx := hbx.lt
        refine hK' _ _ hK.box ?_
        clear hK' K' ps
        refine held_yield 10 (some 16) (.int .i64 code) rfl (by kernel_rfl) (by kernel_rfl) (by kernel_rfl) (fun _ _ _ h => h) rfl rfl hK.box (fun w' h' => exec_assign _ rfl (.int .i64 code) rfl) ?_
        go_frame
        refine wpAnyH_done (by kernel_rfl) ?_ _
        go_wp2_with fail
        go_meet
        exact ⟨_, _, _, rfl, rfl, by omega, lbx, o2.mono (by omega), hbx, hK, o0, hH⟩
    · refine wp_new (some 15) rfl (exec_alloc_method rfl) (fun w46 nn => ?_)
      have b46 := nn.below (Below.refl _ _) (Nat.le_refl _)
      have z46 : w36.heap.size ≤ w46.heap.size := size_after (Nat.le_refl _) b46
      replace hK := hK.after b46
      replace o0 := o0.below b46
      replace hH := hH.below b46
      have hbx : At w46 w36.heap.size (.cells #[.int .i64 0, .int .i64 0, .int .i64 0, .int .i64 0, .slice none 0 0] 28 (0, 0)) := nn.at_
      have lbx := hbx.lt
      clear b46 nn
      refine hK' _ _ hK.box ?_
      clear hK' K'
      go_frame
      refine held_oper 1 (by kernel_rfl) rfl rfl (fun K' hK' => ?_)
      refine wp_call1 (some 96) rfl 8 _ _ rfl (fun args w => by kernel_rfl) _ rfl _ (toMethod_c xp xn xm xk xA xc xq _ (hr_x.keep hK.below) t_x) (fun e w47 h => ?_)
      obtain ⟨g47, rfl, hg47, h47, b47⟩ := h
      have z47 : w46.heap.size ≤ w47.heap.size := size_after (Nat.le_refl _) b47
      replace hK := hK.after b47
      replace o0 := o0.below b47
      replace hH := hH.below b47
      replace hbx := hbx.after b47
      clear b47
      replace hg47 := Nat.le_trans (Nat.le_refl _) hg47
      refine ⟨_, rfl, hK' _ _ hK.box ?_⟩
      clear hK' K'
      go_frame
      refine held_oper 3 (by kernel_rfl) rfl rfl (fun K' hK' => ?_)
      refine wp_call1 (some 98) rfl 8 _ _ rfl (fun args w => by kernel_rfl) _ rfl _ (toMethod_c yp yn ym yk yA yc yq _ (hr_y.keep hK.below) t_y) (fun e w48 h => ?_)
      obtain ⟨g48, rfl, hg48, h48, b48⟩ := h
      have z48 : w47.heap.size ≤ w48.heap.size := size_after (Nat.le_refl _) b48
      replace hK := hK.after b48
      replace o0 := o0.below b48
      replace hH := hH.below b48
      replace hbx := hbx.after b48
      replace h47 := h47.after b48
      clear b48
      replace hg48 := Nat.le_trans (Nat.le_refl _) hg48
      refine ⟨_, rfl, hK' _ _ hK.box ?_⟩
      clear hK' K'
      go_frame
      refine held_oper 4 (by kernel_rfl) rfl rfl (fun K' hK' => ?_)
      refine wp_call2 (some 99) rfl 9 _ _ _ rfl (fun args w => by kernel_rfl) _ _ rfl rfl _ (HIm.out _ _ _ (Rd.of_at h47 hr_x.good) (Rd.of_at h48 hr_y.good)) (fun e w49 h => ?_)
      obtain ⟨v49, rfl, o2, b49⟩ := h
      have z49 : w48.heap.size ≤ w49.heap.size := size_after (Nat.le_refl _) b49
      replace hK := hK.after b49
      replace o0 := o0.below b49
      replace hH := hH.below b49
      replace hbx := hbx.after b49
      replace h47 := h47.after b49
      replace h48 := h48.after b49
      clear b49
      clear h47
      clear h48
      replace o2 := o2.mono (Nat.le_refl _)
      have io2 := o2.inn
      obtain ⟨A2, c2, rfl, _⟩ := o2.rd Hrb.out
      refine ⟨_, rfl, hK' _ _ hK.box ?_⟩
      clear hK' K'
      go_frame
      refine held_yield 5 (some 94) (.tuple #[.agg #[.int .i64 rp, .int .i64 rn, .int .i64 rm, .int .i64 rk, .slice A2 rs.length c2], .int .i64 code]) rfl (by kernel_rfl) (by kernel_rfl) (by kernel_rfl) (fun _ _ _ h => h) rfl rfl hK.box (fun w' h' => exec_move _ rfl (.tuple #[.agg #[.int .i64 rp, .int .i64 rn, .int .i64 rm, .int .i64 rk, .slice A2 rs.length c2], .int .i64 code]) rfl) ?_
      go_frame
      refine held_yield 6 (some 100) (.agg #[.int .i64 rp, .int .i64 rn, .int .i64 rm, .int .i64 rk, .slice A2 rs.length c2]) rfl (by kernel_rfl) (by kernel_rfl) (by kernel_rfl) (fun _ _ _ h => h) rfl rfl hK.box (fun w' h' => exec_extract _ 0 rfl #[.agg #[.int .i64 rp, .int .i64 rn, .int .i64 rm, .int .i64 rk, .slice A2 rs.length c2], .int .i64 code] rfl (.agg #[.int .i64 rp, .int .i64 rn, .int .i64 rm, .int .i64 rk, .slice A2 rs.length c2]) rfl) ?_
      go_frame
      refine held_yield 7 (some 101) (.int .i64 code) rfl (by kernel_rfl) (by kernel_rfl) (by kernel_rfl) (fun _ _ _ h => h) rfl rfl hK.box (fun w' h' => exec_extract _ 1 rfl #[.agg #[.int .i64 rp, .int .i64 rn, .int .i64 rm, .int .i64 rk, .slice A2 rs.length c2], .int .i64 code] rfl (.int .i64 code) rfl) ?_
      go_frame
      have nb := o2.off hbx (by decide)
      have nb_o0 := o0.off hbx (by decide)
      refine held_oper 9 (by kernel_rfl) rfl rfl (fun K' hK' => ?_)
      refine wp_store_all 28 _ _ rfl rfl (w36.heap.size) rfl _ rfl _ _ hbx 5 (by kernel_rfl) rfl rfl (one5 _ _ _ _ _ _ _) (fun ws ps => ?_)
      replace hK : KA w [(w22.heap.size, .cells #[.int .i64 rp, .int .i64 rn, .int .i64 rm, .int .i64 rk, .slice A1 rs.length c1] 28 (0, 0)), (w20.heap.size, .cells #[.int .i64 yp, .int .i64 yn, .int .i64 ym, .int .i64 yk, .slice (some ⟨g20, 0, none⟩) yq.length yq.length] 28 (0, 0)), (w18.heap.size, .cells #[.int .i64 xp, .int .i64 xn, .int .i64 xm, .int .i64 xk, .slice (some ⟨g18, 0, none⟩) xq.length xq.length] 28 (0, 0)), (bb0, .cells #[.int .i64 rp, .int .i64 rn, .int .i64 rm, .int .i64 rk, .slice A0 rs.length c0] 28 (0, 0)), (w.heap.size, .cells #[.int .i64 xp, .int .i64 xn, .int .i64 xm, .int .i64 xk, .slice xA xq.length xc] 24 (0, 0)), ((w.heap.size + 1), .cells #[.int .i64 yp, .int .i64 yn, .int .i64 ym, .int .i64 yk, .slice yA yq.length yc] 24 (0, 0))] ws := ⟨ps.below hK.below (by omega), by intro b hb; have hx := hK.box b hb; simp only [List.mem_cons, List.not_mem_nil, or_false] at hb; rcases hb with rfl | rfl | rfl | rfl | rfl | rfl <;> exact ps.other hx (by dsimp only; omega)⟩
      replace o0 := o0.put ps nb_o0
      replace hH := hH.put ps (fun e => by have := ihH _ e.symm; omega)
      replace o2 := o2.put ps nb
      replace hbx := ps.at_
      replace lbx := hbx.lt
      refine hK' _ _ hK.box ?_
      clear hK' K' ps
      refine held_yield 10 (some 16) (.int .i64 code) rfl (by kernel_rfl) (by kernel_rfl) (by kernel_rfl) (fun _ _ _ h => h) rfl rfl hK.box (fun w' h' => exec_assign _ rfl (.int .i64 code) rfl) ?_
      go_frame
      refine wpAnyH_done (by kernel_rfl) ?_ _
      go_wp2_with fail
      go_meet
      exact ⟨_, _, _, rfl, rfl, by omega, lbx, o2.mono (by omega), hbx, hK, o0, hH⟩
  case rest =>
  clear hK o0 hH
  obtain ⟨bb2, A2, c2, rfl, rfl, hb2, lb2, o2, hbx, hK, o0, hH⟩ := hcut
  obtain ⟨w50, rfl⟩ := ka_world hK
  replace hK : KA w [(bb2, .cells #[.int .i64 rp, .int .i64 rn, .int .i64 rm, .int .i64 rk, .slice A2 rs.length c2] 28 (0, 0)), (w22.heap.size, .cells #[.int .i64 rp, .int .i64 rn, .int .i64 rm, .int .i64 rk, .slice A1 rs.length c1] 28 (0, 0)), (w20.heap.size, .cells #[.int .i64 yp, .int .i64 yn, .int .i64 ym, .int .i64 yk, .slice (some ⟨g20, 0, none⟩) yq.length yq.length] 28 (0, 0)), (w18.heap.size, .cells #[.int .i64 xp, .int .i64 xn, .int .i64 xm, .int .i64 xk, .slice (some ⟨g18, 0, none⟩) xq.length xq.length] 28 (0, 0)), (bb0, .cells #[.int .i64 rp, .int .i64 rn, .int .i64 rm, .int .i64 rk, .slice A0 rs.length c0] 28 (0, 0)), (w.heap.size, .cells #[.int .i64 xp, .int .i64 xn, .int .i64 xm, .int .i64 xk, .slice xA xq.length xc] 24 (0, 0)), ((w.heap.size + 1), .cells #[.int .i64 yp, .int .i64 yn, .int .i64 ym, .int .i64 yk, .slice yA yq.length yc] 24 (0, 0))] w50 := hK.more hbx
  clear hbx
  have io2 := o2.inn
  have z50 : w35.heap.size ≤ w50.heap.size := by omega
  go_wp2_with (first | (refine wpList_load_all rfl 28 _ rfl bb2 rfl _ _ _ (by exact (hK.box (bb2, .cells #[.int .i64 rp, .int .i64 rn, .int .i64 rm, .int .i64 rk, .slice A2 rs.length c2] 28 (0, 0)) (by simp))) Try.underlying28 rfl 5 (by kernel_rfl) rfl ?_) | (refine wpList_load_all rfl 28 _ rfl bb0 rfl _ _ _ (by exact (hK.box (bb0, .cells #[.int .i64 rp, .int .i64 rn, .int .i64 rm, .int .i64 rk, .slice A0 rs.length c0] 28 (0, 0)) (by simp))) Try.underlying28 rfl 5 (by kernel_rfl) rfl ?_))
  refine (eqMethod_c rp rn rm rk _ _ _ _ rs _ (o2.rd' Hrb.out) (o0.rd' Hrb.out) (by omega)).mono ?_
  rintro e w51 ⟨rfl, b51⟩
  have z51 : w50.heap.size ≤ w51.heap.size := size_after (Nat.le_refl _) b51
  replace hK := hK.after b51
  replace o0 := o0.below b51
  replace hH := hH.below b51
  replace o2 := o2.below b51
  clear b51
  clear o2 o0
  go_wp2_with (refine wpList_load_all rfl 28 _ rfl w22.heap.size rfl _ _ _ (by exact (hK.box (w22.heap.size, .cells #[.int .i64 rp, .int .i64 rn, .int .i64 rm, .int .i64 rk, .slice A1 rs.length c1] 28 (0, 0)) (by simp))) Try.underlying28 rfl 5 (by kernel_rfl) rfl ?_)
  refine (heldMethod_1 rp rn rm rk _ s1 hH hrl).mono ?_
  rintro e w52 ⟨rfl, b52⟩
  have z52 : w51.heap.size ≤ w52.heap.size := size_after (Nat.le_refl _) b52
  replace hK := hK.after b52
  replace hH := hH.below b52
  clear b52
  go_wp2_with fail
  go_ret
  exact ⟨rfl, hK.below⟩
end Go.Proofs.Ytopdfblfhdooaaa
