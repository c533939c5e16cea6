/-
  laws.FnExactSplitProduct: the walk: it returns true and writes nothing that was there. (Made by genlaw2.py.)
-/
import Derived.Test.YtbgoopmmdbhogaaLK1
import Derived.Test.YtbgoopmmdbhogaaTr2
namespace Go.Proofs.Ytbgoopmmdbhogaa
open Go.RowKit
set_option maxRecDepth 100000
theorem ka_world {w wr : World} {bs : List (Nat × Obj)} (_ : KA w bs wr) : ∃ x : World, x = wr := ⟨wr, rfl⟩
set_option maxHeartbeats 6400000 in
theorem lawSplitProduct_walk (xp xn xm xk : Int) (xA : Option Addr) (xc : Nat) (xq : List (List Nat)) (i : Int) (f : Int) (form : List Nat) (rp rn rm rk : Int) (rs : List (List Nat)) (code : Int) (w : World) (hr_x : Rd w xA xq) (hn_x : xq.length ≤ 9223372036854775807) (hb_form : Bytes 9 form) (hrb : ∀ r ∈ rs, Bytes 27 r) (hrl : rs.length ≤ 1048576)
    (hS : (xq.length ≤ 1048576 → ∀ (gx : Nat) (w : World), Rd w (some ⟨gx, 0, none⟩) xq → Calls Try.prog 16 #[.agg #[.int .i64 xp, .int .i64 xn, .int .i64 xm, .int .i64 xk, .slice (some ⟨gx, 0, none⟩) xq.length xq.length], .int .i64 i, .int .i64 f, .agg (u8s form)] w (ResS w rp rn rm rk rs code)))
    (hI : (xq.length ≤ 1048576 → ∀ (gx : Nat) (w : World), Rd w (some ⟨gx, 0, none⟩) xq → Calls Try.prog 18 #[.agg #[.int .i64 xp, .int .i64 xn, .int .i64 xm, .int .i64 xk, .slice (some ⟨gx, 0, none⟩) xq.length xq.length], .int .i64 i, .int .i64 f, .agg (u8s form)] w (ResS w rp rn rm rk rs code))) :
    Calls Try.prog 5 #[.agg #[.int .i64 xp, .int .i64 xn, .int .i64 xm, .int .i64 xk, .slice xA xq.length xc], .int .i64 i, .int .i64 f, .agg (u8s form)] w fun e w' => e = .returned (.bool true) ∧ Below w.heap.size w w' := by
  have Hrb := Lib.hid hrb
  have hcode : (code != code) = false := by simp
  go_enter Try.func5, Try.ntmps5
  go_wp2_with (first | (refine wpList_abs2 ?_; intro w0 hsz0 hB0 ha0 ha1; have hK : KA w [(w.heap.size, .cells #[.int .i64 xp, .int .i64 xn, .int .i64 xm, .int .i64 xk, .slice xA xq.length xc] 24 (0, 0)), ((w.heap.size + 1), .cells (u8s form) 37 (0, 0))] w0 := ⟨hB0, by intro b hb; simp only [List.mem_cons, List.not_mem_nil, or_false] at hb; rcases hb with rfl | rfl; exact ha0; exact ha1⟩; have z0 : w.heap.size + 2 ≤ w0.heap.size := Nat.le_of_eq hsz0.symm; clear hB0 hsz0 ha0 ha1) | (refine wpList_load_all rfl 24 _ rfl w.heap.size rfl _ _ _ (by exact (hK.box (w.heap.size, .cells #[.int .i64 xp, .int .i64 xn, .int .i64 xm, .int .i64 xk, .slice xA xq.length xc] 24 (0, 0)) (by simp))) Try.underlying24 rfl 5 (by kernel_rfl) rfl ?_))
  refine (szScheme_e xp xn xm xk xA xq.length xc 1048576 _ (by omega) hn_x (by omega)).mono ?_
  rintro e w1 ⟨r1, rfl, hr1, b1⟩
  have z1 : w0.heap.size ≤ w1.heap.size := size_after (Nat.le_refl _) b1
  replace hK := hK.after b1
  clear b1
  rcases hr1 with rfl | ⟨hr1, he1⟩
  · go_wp2_with fail
    go_ret
    exact ⟨rfl, hK.below⟩
  have hg1 : ¬ r1 < 0 := by omega
  have t_x : xq.length ≤ 1048576 := by omega
  have HSp := Lib.hid (hS t_x)
  have HIm := Lib.hid (hI t_x)
  clear hS hI
  go_wp2_with fail
  have lz0 := hK.below.size
  have zz0 : w1.heap.size ≤ _ := Nat.le_refl _
  go_cut [10, 11] from 25 to 34 (fun s10 s11 wx => ∃ (bb0 : Nat) (A0 : Option Addr) (c0 : Nat), s10 = .pointer (some ⟨bb0, 0, none⟩) ∧ s11 = .int .i64 code ∧ w1.heap.size ≤ bb0 ∧ bb0 < wx.heap.size ∧ Own wx (w1.heap.size) (.slice A0 rs.length c0) rs ∧ At wx bb0 (.cells #[.int .i64 rp, .int .i64 rn, .int .i64 rm, .int .i64 rk, .slice A0 rs.length c0] 28 (0, 0)) ∧ KA w [(w.heap.size, .cells #[.int .i64 xp, .int .i64 xn, .int .i64 xm, .int .i64 xk, .slice xA xq.length xc] 24 (0, 0)), ((w.heap.size + 1), .cells (u8s form) 37 (0, 0))] wx)
  case first =>
    go_wp2_with fail
    refine wp_region_held (S := fun w' => ∀ b ∈ ([(w.heap.size, .cells #[.int .i64 xp, .int .i64 xn, .int .i64 xm, .int .i64 xk, .slice xA xq.length xc] 24 (0, 0)), ((w.heap.size + 1), .cells (u8s form) 37 (0, 0))] : List (Nat × Obj)), At w' b.1 b.2) (by kernel_rfl) ?_
    change wpAnyH _ _ _ _ _ _ _ _ (World.drew _)
    obtain ⟨w2, hw2, hK, z2⟩ : ∃ W, W = World.drew _ ∧ KA w [(w.heap.size, .cells #[.int .i64 xp, .int .i64 xn, .int .i64 xm, .int .i64 xk, .slice xA xq.length xc] 24 (0, 0)), ((w.heap.size + 1), .cells (u8s form) 37 (0, 0))] W ∧ w1.heap.size ≤ W.heap.size := ⟨_, rfl, hK.drew, Nat.le_refl _⟩
    rw [← hw2]
    clear hw2
    refine held_yield 0 (some 26) (.agg #[.int .i64 xp, .int .i64 xn, .int .i64 xm, .int .i64 xk, .slice xA xq.length xc]) rfl (by kernel_rfl) (by kernel_rfl) (by kernel_rfl) (fun _ _ _ h => h) rfl rfl hK.box (fun w' h' => exec_load_all 24 _ rfl w.heap.size rfl _ _ _ (h' (w.heap.size, .cells #[.int .i64 xp, .int .i64 xn, .int .i64 xm, .int .i64 xk, .slice xA xq.length xc] 24 (0, 0)) (by simp)) Try.underlying24 rfl 5 (by kernel_rfl) rfl) ?_
    go_frame
    refine held_yield 2 (some 28) (.int .i64 i) rfl (by kernel_rfl) (by kernel_rfl) (by kernel_rfl) (fun _ _ _ h => h) rfl rfl hK.box (fun w' h' => exec_move _ rfl (.int .i64 i) rfl) ?_
    go_frame
    refine held_yield 3 (some 29) (.int .i64 f) rfl (by kernel_rfl) (by kernel_rfl) (by kernel_rfl) (fun _ _ _ h => h) rfl rfl hK.box (fun w' h' => exec_move _ rfl (.int .i64 f) rfl) ?_
    go_frame
    refine held_yield 4 (some 30) (.agg (u8s form)) rfl (by kernel_rfl) (by kernel_rfl) (by kernel_rfl) (fun _ _ _ h => h) rfl rfl hK.box (fun w' h' => exec_load_all 37 _ rfl (w.heap.size + 1) rfl _ _ _ (h' ((w.heap.size + 1), .cells (u8s form) 37 (0, 0)) (by simp)) Try.underlying37 rfl 9 (by kernel_rfl) ((u8s_size _).trans hb_form.len)) ?_
    go_frame
    refine held_two 1 10 (by kernel_rfl) rfl rfl rfl rfl (fun K' hK' => ?_) (fun K' hK' => ?_)
    · refine wp_call1 (some 27) rfl 9 _ _ rfl (fun args w => by kernel_rfl) _ rfl _ (toScheme_c xp xn xm xk xA xc xq _ (hr_x.keep hK.below) t_x) (fun e w3 h => ?_)
      obtain ⟨g3, rfl, hg3, h3, b3⟩ := h
      have z3 : w2.heap.size ≤ w3.heap.size := size_after (Nat.le_refl _) b3
      replace hK := hK.after b3
      clear b3
      replace hg3 := Nat.le_trans (Nat.le_refl _) hg3
      refine ⟨_, rfl, hK' _ _ hK.box ?_⟩
      clear hK' K'
      go_frame
      refine held_two 5 10 (by kernel_rfl) rfl rfl rfl rfl (fun K' hK' => ?_) (fun K' hK' => ?_)
      · refine wp_call1 (some 31) rfl 17 _ _ rfl (fun args w => by kernel_rfl) _ rfl _ (toForm_c form hb_form _) (fun e w4 h => ?_)
        obtain ⟨rfl, b4⟩ := h
        have z4 : w3.heap.size ≤ w4.heap.size := size_after (Nat.le_refl _) b4
        replace hK := hK.after b4
        replace h3 := h3.after b4
        clear b4
        refine ⟨_, rfl, hK' _ _ hK.box ?_⟩
        clear hK' K'
        go_frame
        refine held_two 6 10 (by kernel_rfl) rfl rfl rfl rfl (fun K' hK' => ?_) (fun K' hK' => ?_)
        · refine wp_call4 (some 32) rfl 16 _ _ _ _ _ rfl (fun args w => by kernel_rfl) _ _ _ _ rfl rfl rfl rfl _ (HSp.out _ _ (Rd.of_at h3 hr_x.good)) (fun e w5 h => ?_)
          obtain ⟨v5, rfl, o0, b5⟩ := h
          have z5 : w4.heap.size ≤ w5.heap.size := size_after (Nat.le_refl _) b5
          replace hK := hK.after b5
          replace h3 := h3.after b5
          clear b5
          clear h3
          replace o0 := o0.mono (Nat.le_refl _)
          have io0 := o0.inn
          obtain ⟨A0, c0, rfl, _⟩ := o0.rd Hrb.out
          refine ⟨_, rfl, hK' _ _ hK.box ?_⟩
          clear hK' K'
          go_frame
          refine held_yield 7 (some 25) (.tuple #[.agg #[.int .i64 rp, .int .i64 rn, .int .i64 rm, .int .i64 rk, .slice A0 rs.length c0], .int .i64 code]) rfl (by kernel_rfl) (by kernel_rfl) (by kernel_rfl) (fun _ _ _ h => h) rfl rfl hK.box (fun w' h' => exec_move _ rfl (.tuple #[.agg #[.int .i64 rp, .int .i64 rn, .int .i64 rm, .int .i64 rk, .slice A0 rs.length c0], .int .i64 code]) rfl) ?_
          go_frame
          refine held_yield 8 (some 33) (.agg #[.int .i64 rp, .int .i64 rn, .int .i64 rm, .int .i64 rk, .slice A0 rs.length c0]) rfl (by kernel_rfl) (by kernel_rfl) (by kernel_rfl) (fun _ _ _ h => h) rfl rfl hK.box (fun w' h' => exec_extract _ 0 rfl #[.agg #[.int .i64 rp, .int .i64 rn, .int .i64 rm, .int .i64 rk, .slice A0 rs.length c0], .int .i64 code] rfl (.agg #[.int .i64 rp, .int .i64 rn, .int .i64 rm, .int .i64 rk, .slice A0 rs.length c0]) rfl) ?_
          go_frame
          refine held_yield 9 (some 34) (.int .i64 code) rfl (by kernel_rfl) (by kernel_rfl) (by kernel_rfl) (fun _ _ _ h => h) rfl rfl hK.box (fun w' h' => exec_extract _ 1 rfl #[.agg #[.int .i64 rp, .int .i64 rn, .int .i64 rm, .int .i64 rk, .slice A0 rs.length c0], .int .i64 code] rfl (.int .i64 code) rfl) ?_
          go_frame
          refine held_oper 10 (by kernel_rfl) rfl rfl (fun K' hK' => ?_)
          refine wp_new (some 10) rfl (exec_alloc_scheme rfl) (fun w6 nn => ?_)
          have b6 := nn.below (Below.refl _ _) (Nat.le_refl _)
          have z6 : w5.heap.size ≤ w6.heap.size := size_after (Nat.le_refl _) b6
          replace hK := hK.after b6
          replace o0 := o0.below b6
          have hbx : At w6 w5.heap.size (.cells #[.int .i64 0, .int .i64 0, .int .i64 0, .int .i64 0, .slice none 0 0] 28 (0, 0)) := nn.at_
          have lbx := hbx.lt
          clear b6 nn
          refine hK' _ _ hK.box ?_
          clear hK' K'
          go_frame
          have nb := o0.off hbx (by decide)
          refine held_oper 11 (by kernel_rfl) rfl rfl (fun K' hK' => ?_)
          refine wp_store_all 28 _ _ rfl rfl (w5.heap.size) rfl _ rfl _ _ hbx 5 (by kernel_rfl) rfl rfl (one5 _ _ _ _ _ _ _) (fun ws ps => ?_)
          replace hK : KA w [(w.heap.size, .cells #[.int .i64 xp, .int .i64 xn, .int .i64 xm, .int .i64 xk, .slice xA xq.length xc] 24 (0, 0)), ((w.heap.size + 1), .cells (u8s form) 37 (0, 0))] ws := ⟨ps.below hK.below (by omega), by intro b hb; have hx := hK.box b hb; simp only [List.mem_cons, List.not_mem_nil, or_false] at hb; rcases hb with rfl | rfl <;> exact ps.other hx (by dsimp only; omega)⟩
          replace o0 := o0.put ps nb
          replace hbx := ps.at_
          replace lbx := hbx.lt
          refine hK' _ _ hK.box ?_
          clear hK' K' ps
          refine held_yield 12 (some 11) (.int .i64 code) rfl (by kernel_rfl) (by kernel_rfl) (by kernel_rfl) (fun _ _ _ h => h) rfl rfl hK.box (fun w' h' => exec_assign _ rfl (.int .i64 code) rfl) ?_
          go_frame
          refine wpAnyH_done (by kernel_rfl) ?_ _
          go_wp2_with fail
          go_meet
          exact ⟨_, _, _, rfl, rfl, by omega, lbx, o0.mono (by omega), hbx, hK⟩
        · refine wp_new (some 10) rfl (exec_alloc_scheme rfl) (fun w7 nn => ?_)
          have b7 := nn.below (Below.refl _ _) (Nat.le_refl _)
          have z7 : w4.heap.size ≤ w7.heap.size := size_after (Nat.le_refl _) b7
          replace hK := hK.after b7
          replace h3 := h3.after b7
          have hbx : At w7 w4.heap.size (.cells #[.int .i64 0, .int .i64 0, .int .i64 0, .int .i64 0, .slice none 0 0] 28 (0, 0)) := nn.at_
          have lbx := hbx.lt
          clear b7 nn
          refine hK' _ _ hK.box ?_
          clear hK' K'
          go_frame
          refine held_oper 6 (by kernel_rfl) rfl rfl (fun K' hK' => ?_)
          refine wp_call4 (some 32) rfl 16 _ _ _ _ _ rfl (fun args w => by kernel_rfl) _ _ _ _ rfl rfl rfl rfl _ (HSp.out _ _ (Rd.of_at h3 hr_x.good)) (fun e w8 h => ?_)
          obtain ⟨v8, rfl, o0, b8⟩ := h
          have z8 : w7.heap.size ≤ w8.heap.size := size_after (Nat.le_refl _) b8
          replace hK := hK.after b8
          replace h3 := h3.after b8
          replace hbx := hbx.after b8
          clear b8
          clear h3
          replace o0 := o0.mono (Nat.le_refl _)
          have io0 := o0.inn
          obtain ⟨A0, c0, rfl, _⟩ := o0.rd Hrb.out
          refine ⟨_, rfl, hK' _ _ hK.box ?_⟩
          clear hK' K'
          go_frame
          refine held_yield 7 (some 25) (.tuple #[.agg #[.int .i64 rp, .int .i64 rn, .int .i64 rm, .int .i64 rk, .slice A0 rs.length c0], .int .i64 code]) rfl (by kernel_rfl) (by kernel_rfl) (by kernel_rfl) (fun _ _ _ h => h) rfl rfl hK.box (fun w' h' => exec_move _ rfl (.tuple #[.agg #[.int .i64 rp, .int .i64 rn, .int .i64 rm, .int .i64 rk, .slice A0 rs.length c0], .int .i64 code]) rfl) ?_
          go_frame
          refine held_yield 8 (some 33) (.agg #[.int .i64 rp, .int .i64 rn, .int .i64 rm, .int .i64 rk, .slice A0 rs.length c0]) rfl (by kernel_rfl) (by kernel_rfl) (by kernel_rfl) (fun _ _ _ h => h) rfl rfl hK.box (fun w' h' => exec_extract _ 0 rfl #[.agg #[.int .i64 rp, .int .i64 rn, .int .i64 rm, .int .i64 rk, .slice A0 rs.length c0], .int .i64 code] rfl (.agg #[.int .i64 rp, .int .i64 rn, .int .i64 rm, .int .i64 rk, .slice A0 rs.length c0]) rfl) ?_
          go_frame
          refine held_yield 9 (some 34) (.int .i64 code) rfl (by kernel_rfl) (by kernel_rfl) (by kernel_rfl) (fun _ _ _ h => h) rfl rfl hK.box (fun w' h' => exec_extract _ 1 rfl #[.agg #[.int .i64 rp, .int .i64 rn, .int .i64 rm, .int .i64 rk, .slice A0 rs.length c0], .int .i64 code] rfl (.int .i64 code) rfl) ?_
          go_frame
          have nb := o0.off hbx (by decide)
          refine held_oper 11 (by kernel_rfl) rfl rfl (fun K' hK' => ?_)
          refine wp_store_all 28 _ _ rfl rfl (w4.heap.size) rfl _ rfl _ _ hbx 5 (by kernel_rfl) rfl rfl (one5 _ _ _ _ _ _ _) (fun ws ps => ?_)
          replace hK : KA w [(w.heap.size, .cells #[.int .i64 xp, .int .i64 xn, .int .i64 xm, .int .i64 xk, .slice xA xq.length xc] 24 (0, 0)), ((w.heap.size + 1), .cells (u8s form) 37 (0, 0))] ws := ⟨ps.below hK.below (by omega), by intro b hb; have hx := hK.box b hb; simp only [List.mem_cons, List.not_mem_nil, or_false] at hb; rcases hb with rfl | rfl <;> exact ps.other hx (by dsimp only; omega)⟩
          replace o0 := o0.put ps nb
          replace hbx := ps.at_
          replace lbx := hbx.lt
          refine hK' _ _ hK.box ?_
          clear hK' K' ps
          refine held_yield 12 (some 11) (.int .i64 code) rfl (by kernel_rfl) (by kernel_rfl) (by kernel_rfl) (fun _ _ _ h => h) rfl rfl hK.box (fun w' h' => exec_assign _ rfl (.int .i64 code) rfl) ?_
          go_frame
          refine wpAnyH_done (by kernel_rfl) ?_ _
          go_wp2_with fail
          go_meet
          exact ⟨_, _, _, rfl, rfl, by omega, lbx, o0.mono (by omega), hbx, hK⟩
      · refine wp_new (some 10) rfl (exec_alloc_scheme rfl) (fun w9 nn => ?_)
        have b9 := nn.below (Below.refl _ _) (Nat.le_refl _)
        have z9 : w3.heap.size ≤ w9.heap.size := size_after (Nat.le_refl _) b9
        replace hK := hK.after b9
        replace h3 := h3.after b9
        have hbx : At w9 w3.heap.size (.cells #[.int .i64 0, .int .i64 0, .int .i64 0, .int .i64 0, .slice none 0 0] 28 (0, 0)) := nn.at_
        have lbx := hbx.lt
        clear b9 nn
        refine hK' _ _ hK.box ?_
        clear hK' K'
        go_frame
        refine held_oper 5 (by kernel_rfl) rfl rfl (fun K' hK' => ?_)
        refine wp_call1 (some 31) rfl 17 _ _ rfl (fun args w => by kernel_rfl) _ rfl _ (toForm_c form hb_form _) (fun e w10 h => ?_)
        obtain ⟨rfl, b10⟩ := h
        have z10 : w9.heap.size ≤ w10.heap.size := size_after (Nat.le_refl _) b10
        replace hK := hK.after b10
        replace h3 := h3.after b10
        replace hbx := hbx.after b10
        clear b10
        refine ⟨_, rfl, hK' _ _ hK.box ?_⟩
        clear hK' K'
        go_frame
        refine held_oper 6 (by kernel_rfl) rfl rfl (fun K' hK' => ?_)
        refine wp_call4 (some 32) rfl 16 _ _ _ _ _ rfl (fun args w => by kernel_rfl) _ _ _ _ rfl rfl rfl rfl _ (HSp.out _ _ (Rd.of_at h3 hr_x.good)) (fun e w11 h => ?_)
        obtain ⟨v11, rfl, o0, b11⟩ := h
        have z11 : w10.heap.size ≤ w11.heap.size := size_after (Nat.le_refl _) b11
        replace hK := hK.after b11
        replace h3 := h3.after b11
        replace hbx := hbx.after b11
        clear b11
        clear h3
        replace o0 := o0.mono (Nat.le_refl _)
        have io0 := o0.inn
        obtain ⟨A0, c0, rfl, _⟩ := o0.rd Hrb.out
        refine ⟨_, rfl, hK' _ _ hK.box ?_⟩
        clear hK' K'
        go_frame
        refine held_yield 7 (some 25) (.tuple #[.agg #[.int .i64 rp, .int .i64 rn, .int .i64 rm, .int .i64 rk, .slice A0 rs.length c0], .int .i64 code]) rfl (by kernel_rfl) (by kernel_rfl) (by kernel_rfl) (fun _ _ _ h => h) rfl rfl hK.box (fun w' h' => exec_move _ rfl (.tuple #[.agg #[.int .i64 rp, .int .i64 rn, .int .i64 rm, .int .i64 rk, .slice A0 rs.length c0], .int .i64 code]) rfl) ?_
        go_frame
        refine held_yield 8 (some 33) (.agg #[.int .i64 rp, .int .i64 rn, .int .i64 rm, .int .i64 rk, .slice A0 rs.length c0]) rfl (by kernel_rfl) (by kernel_rfl) (by kernel_rfl) (fun _ _ _ h => h) rfl rfl hK.box (fun w' h' => exec_extract _ 0 rfl #[.agg #[.int .i64 rp, .int .i64 rn, .int .i64 rm, .int .i64 rk, .slice A0 rs.length c0], .int .i64 code] rfl (.agg #[.int .i64 rp, .int .i64 rn, .int .i64 rm, .int .i64 rk, .slice A0 rs.length c0]) rfl) ?_
        go_frame
        refine held_yield 9 (some 34) (.int .i64 code) rfl (by kernel_rfl) (by kernel_rfl) (by kernel_rfl) (fun _ _ _ h => h) rfl rfl hK.box (fun w' h' => exec_extract _ 1 rfl #[.agg #[.int .i64 rp, .int .i64 rn, .int .i64 rm, .int .i64 rk, .slice A0 rs.length c0], .int .i64 code] rfl (.int .i64 code) rfl) ?_
        go_frame
        have nb := o0.off hbx (by decide)
        refine held_oper 11 (by kernel_rfl) rfl rfl (fun K' hK' => ?_)
        refine wp_store_all 28 _ _ rfl rfl (w3.heap.size) rfl _ rfl _ _ hbx 5 (by kernel_rfl) rfl rfl (one5 _ _ _ _ _ _ _) (fun ws ps => ?_)
        replace hK : KA w [(w.heap.size, .cells #[.int .i64 xp, .int .i64 xn, .int .i64 xm, .int .i64 xk, .slice xA xq.length xc] 24 (0, 0)), ((w.heap.size + 1), .cells (u8s form) 37 (0, 0))] ws := ⟨ps.below hK.below (by omega), by intro b hb; have hx := hK.box b hb; simp only [List.mem_cons, List.not_mem_nil, or_false] at hb; rcases hb with rfl | rfl <;> exact ps.other hx (by dsimp only; omega)⟩
        replace o0 := o0.put ps nb
        replace hbx := ps.at_
        replace lbx := hbx.lt
        refine hK' _ _ hK.box ?_
        clear hK' K' ps
        refine held_yield 12 (some 11) (.int .i64 code) rfl (by kernel_rfl) (by kernel_rfl) (by kernel_rfl) (fun _ _ _ h => h) rfl rfl hK.box (fun w' h' => exec_assign _ rfl (.int .i64 code) rfl) ?_
        go_frame
        refine wpAnyH_done (by kernel_rfl) ?_ _
        go_wp2_with fail
        go_meet
        exact ⟨_, _, _, rfl, rfl, by omega, lbx, o0.mono (by omega), hbx, hK⟩
    · refine wp_new (some 10) rfl (exec_alloc_scheme rfl) (fun w12 nn => ?_)
      have b12 := nn.below (Below.refl _ _) (Nat.le_refl _)
      have z12 : w2.heap.size ≤ w12.heap.size := size_after (Nat.le_refl _) b12
      replace hK := hK.after b12
      have hbx : At w12 w2.heap.size (.cells #[.int .i64 0, .int .i64 0, .int .i64 0, .int .i64 0, .slice none 0 0] 28 (0, 0)) := nn.at_
      have lbx := hbx.lt
      clear b12 nn
      refine hK' _ _ hK.box ?_
      clear hK' K'
      go_frame
      refine held_oper 1 (by kernel_rfl) rfl rfl (fun K' hK' => ?_)
      refine wp_call1 (some 27) rfl 9 _ _ rfl (fun args w => by kernel_rfl) _ rfl _ (toScheme_c xp xn xm xk xA xc xq _ (hr_x.keep hK.below) t_x) (fun e w13 h => ?_)
      obtain ⟨g13, rfl, hg13, h13, b13⟩ := h
      have z13 : w12.heap.size ≤ w13.heap.size := size_after (Nat.le_refl _) b13
      replace hK := hK.after b13
      replace hbx := hbx.after b13
      clear b13
      replace hg13 := Nat.le_trans (Nat.le_refl _) hg13
      refine ⟨_, rfl, hK' _ _ hK.box ?_⟩
      clear hK' K'
      go_frame
      refine held_oper 5 (by kernel_rfl) rfl rfl (fun K' hK' => ?_)
      refine wp_call1 (some 31) rfl 17 _ _ rfl (fun args w => by kernel_rfl) _ rfl _ (toForm_c form hb_form _) (fun e w14 h => ?_)
      obtain ⟨rfl, b14⟩ := h
      have z14 : w13.heap.size ≤ w14.heap.size := size_after (Nat.le_refl _) b14
      replace hK := hK.after b14
      replace hbx := hbx.after b14
      replace h13 := h13.after b14
      clear b14
      refine ⟨_, rfl, hK' _ _ hK.box ?_⟩
      clear hK' K'
      go_frame
      refine held_oper 6 (by kernel_rfl) rfl rfl (fun K' hK' => ?_)
      refine wp_call4 (some 32) rfl 16 _ _ _ _ _ rfl (fun args w => by kernel_rfl) _ _ _ _ rfl rfl rfl rfl _ (HSp.out _ _ (Rd.of_at h13 hr_x.good)) (fun e w15 h => ?_)
      obtain ⟨v15, rfl, o0, b15⟩ := h
      have z15 : w14.heap.size ≤ w15.heap.size := size_after (Nat.le_refl _) b15
      replace hK := hK.after b15
      replace hbx := hbx.after b15
      replace h13 := h13.after b15
      clear b15
      clear h13
      replace o0 := o0.mono (Nat.le_refl _)
      have io0 := o0.inn
      obtain ⟨A0, c0, rfl, _⟩ := o0.rd Hrb.out
      refine ⟨_, rfl, hK' _ _ hK.box ?_⟩
      clear hK' K'
      go_frame
      refine held_yield 7 (some 25) (.tuple #[.agg #[.int .i64 rp, .int .i64 rn, .int .i64 rm, .int .i64 rk, .slice A0 rs.length c0], .int .i64 code]) rfl (by kernel_rfl) (by kernel_rfl) (by kernel_rfl) (fun _ _ _ h => h) rfl rfl hK.box (fun w' h' => exec_move _ rfl (.tuple #[.agg #[.int .i64 rp, .int .i64 rn, .int .i64 rm, .int .i64 rk, .slice A0 rs.length c0], .int .i64 code]) rfl) ?_
      go_frame
      refine held_yield 8 (some 33) (.agg #[.int .i64 rp, .int .i64 rn, .int .i64 rm, .int .i64 rk, .slice A0 rs.length c0]) rfl (by kernel_rfl) (by kernel_rfl) (by kernel_rfl) (fun _ _ _ h => h) rfl rfl hK.box (fun w' h' => exec_extract _ 0 rfl #[.agg #[.int .i64 rp, .int .i64 rn, .int .i64 rm, .int .i64 rk, .slice A0 rs.length c0], .int .i64 code] rfl (.agg #[.int .i64 rp, .int .i64 rn, .int .i64 rm, .int .i64 rk, .slice A0 rs.length c0]) rfl) ?_
      go_frame
      refine held_yield 9 (some 34) (.int .i64 code) rfl (by kernel_rfl) (by kernel_rfl) (by kernel_rfl) (fun _ _ _ h => h) rfl rfl hK.box (fun w' h' => exec_extract _ 1 rfl #[.agg #[.int .i64 rp, .int .i64 rn, .int .i64 rm, .int .i64 rk, .slice A0 rs.length c0], .int .i64 code] rfl (.int .i64 code) rfl) ?_
      go_frame
      have nb := o0.off hbx (by decide)
      refine held_oper 11 (by kernel_rfl) rfl rfl (fun K' hK' => ?_)
      refine wp_store_all 28 _ _ rfl rfl (w2.heap.size) rfl _ rfl _ _ hbx 5 (by kernel_rfl) rfl rfl (one5 _ _ _ _ _ _ _) (fun ws ps => ?_)
      replace hK : KA w [(w.heap.size, .cells #[.int .i64 xp, .int .i64 xn, .int .i64 xm, .int .i64 xk, .slice xA xq.length xc] 24 (0, 0)), ((w.heap.size + 1), .cells (u8s form) 37 (0, 0))] ws := ⟨ps.below hK.below (by omega), by intro b hb; have hx := hK.box b hb; simp only [List.mem_cons, List.not_mem_nil, or_false] at hb; rcases hb with rfl | rfl <;> exact ps.other hx (by dsimp only; omega)⟩
      replace o0 := o0.put ps nb
      replace hbx := ps.at_
      replace lbx := hbx.lt
      refine hK' _ _ hK.box ?_
      clear hK' K' ps
      refine held_yield 12 (some 11) (.int .i64 code) rfl (by kernel_rfl) (by kernel_rfl) (by kernel_rfl) (fun _ _ _ h => h) rfl rfl hK.box (fun w' h' => exec_assign _ rfl (.int .i64 code) rfl) ?_
      go_frame
      refine wpAnyH_done (by kernel_rfl) ?_ _
      go_wp2_with fail
      go_meet
      exact ⟨_, _, _, rfl, rfl, by omega, lbx, o0.mono (by omega), hbx, hK⟩
  case rest =>
  clear hK
  obtain ⟨bb0, A0, c0, rfl, rfl, hb0, lb0, o0, hbx, hK⟩ := hcut
  obtain ⟨w16, rfl⟩ := ka_world hK
  replace hK : KA w [(bb0, .cells #[.int .i64 rp, .int .i64 rn, .int .i64 rm, .int .i64 rk, .slice A0 rs.length c0] 28 (0, 0)), (w.heap.size, .cells #[.int .i64 xp, .int .i64 xn, .int .i64 xm, .int .i64 xk, .slice xA xq.length xc] 24 (0, 0)), ((w.heap.size + 1), .cells (u8s form) 37 (0, 0))] w16 := hK.more hbx
  clear hbx
  have io0 := o0.inn
  have z16 : w1.heap.size ≤ w16.heap.size := by omega
  go_wp2_with (refine wpList_load_all rfl 24 _ rfl w.heap.size rfl _ _ _ (by exact (hK.box (w.heap.size, .cells #[.int .i64 xp, .int .i64 xn, .int .i64 xm, .int .i64 xk, .slice xA xq.length xc] 24 (0, 0)) (by simp))) Try.underlying24 rfl 5 (by kernel_rfl) rfl ?_)
  refine (toScheme_c xp xn xm xk xA xc xq _ (hr_x.keep hK.below) t_x).mono ?_
  rintro e w17 ⟨g17, rfl, hg17, h17, b17⟩
  have z17 : w16.heap.size ≤ w17.heap.size := size_after (Nat.le_refl _) b17
  replace hK := hK.after b17
  replace o0 := o0.below b17
  clear b17
  replace hg17 := Nat.le_trans (Nat.le_refl _) hg17
  have oh17 := Own.of_at h17 hr_x.len hg17 t_x
  have ioh17 := oh17.inn
  clear h17
  have bx := below1 w17 (.cells #[.int .i64 xp, .int .i64 xn, .int .i64 xm, .int .i64 xk, .slice (some ⟨g17, 0, none⟩) xq.length xq.length] 28 (0, 0))
  replace hK := hK.after bx
  replace o0 := o0.below bx
  replace oh17 := oh17.below bx
  have hx := al1_0 w17 (.cells #[.int .i64 xp, .int .i64 xn, .int .i64 xm, .int .i64 xk, .slice (some ⟨g17, 0, none⟩) xq.length xq.length] 28 (0, 0))
  replace hK : KA w [(w17.heap.size, .cells #[.int .i64 xp, .int .i64 xn, .int .i64 xm, .int .i64 xk, .slice (some ⟨g17, 0, none⟩) xq.length xq.length] 28 (0, 0)), (bb0, .cells #[.int .i64 rp, .int .i64 rn, .int .i64 rm, .int .i64 rk, .slice A0 rs.length c0] 28 (0, 0)), (w.heap.size, .cells #[.int .i64 xp, .int .i64 xn, .int .i64 xm, .int .i64 xk, .slice xA xq.length xc] 24 (0, 0)), ((w.heap.size + 1), .cells (u8s form) 37 (0, 0))] _ := hK.more hx
  clear bx hx
  go_wp2_with fail
  have lz1 := hK.below.size
  have zz1 : w17.heap.size + 1 ≤ _ := Nat.le_of_eq (size_al1 w17 (.cells #[.int .i64 xp, .int .i64 xn, .int .i64 xm, .int .i64 xk, .slice (some ⟨g17, 0, none⟩) xq.length xq.length] 28 (0, 0))).symm
  go_cut [13, 14] from 37 to 45 (fun s13 s14 wx => ∃ (bb1 : Nat) (A1 : Option Addr) (c1 : Nat), s13 = .pointer (some ⟨bb1, 0, none⟩) ∧ s14 = .int .i64 code ∧ w17.heap.size + 1 ≤ bb1 ∧ bb1 < wx.heap.size ∧ Own wx (w17.heap.size + 1) (.slice A1 rs.length c1) rs ∧ At wx bb1 (.cells #[.int .i64 rp, .int .i64 rn, .int .i64 rm, .int .i64 rk, .slice A1 rs.length c1] 28 (0, 0)) ∧ KA w [(w17.heap.size, .cells #[.int .i64 xp, .int .i64 xn, .int .i64 xm, .int .i64 xk, .slice (some ⟨g17, 0, none⟩) xq.length xq.length] 28 (0, 0)), (bb0, .cells #[.int .i64 rp, .int .i64 rn, .int .i64 rm, .int .i64 rk, .slice A0 rs.length c0] 28 (0, 0)), (w.heap.size, .cells #[.int .i64 xp, .int .i64 xn, .int .i64 xm, .int .i64 xk, .slice xA xq.length xc] 24 (0, 0)), ((w.heap.size + 1), .cells (u8s form) 37 (0, 0))] wx ∧ Own wx (w1.heap.size) (.slice A0 rs.length c0) rs ∧ Own wx (w16.heap.size) (.slice (some ⟨g17, 0, none⟩) xq.length xq.length) xq)
  case first =>
    go_wp2_with fail
    refine wp_region_held (S := fun w' => ∀ b ∈ ([(w17.heap.size, .cells #[.int .i64 xp, .int .i64 xn, .int .i64 xm, .int .i64 xk, .slice (some ⟨g17, 0, none⟩) xq.length xq.length] 28 (0, 0)), (bb0, .cells #[.int .i64 rp, .int .i64 rn, .int .i64 rm, .int .i64 rk, .slice A0 rs.length c0] 28 (0, 0)), (w.heap.size, .cells #[.int .i64 xp, .int .i64 xn, .int .i64 xm, .int .i64 xk, .slice xA xq.length xc] 24 (0, 0)), ((w.heap.size + 1), .cells (u8s form) 37 (0, 0))] : List (Nat × Obj)), At w' b.1 b.2) (by kernel_rfl) ?_
    change wpAnyH _ _ _ _ _ _ _ _ (World.drew _)
    obtain ⟨w19, hw19, hK, o0, oh17, z19⟩ : ∃ W, W = World.drew _ ∧ KA w [(w17.heap.size, .cells #[.int .i64 xp, .int .i64 xn, .int .i64 xm, .int .i64 xk, .slice (some ⟨g17, 0, none⟩) xq.length xq.length] 28 (0, 0)), (bb0, .cells #[.int .i64 rp, .int .i64 rn, .int .i64 rm, .int .i64 rk, .slice A0 rs.length c0] 28 (0, 0)), (w.heap.size, .cells #[.int .i64 xp, .int .i64 xn, .int .i64 xm, .int .i64 xk, .slice xA xq.length xc] 24 (0, 0)), ((w.heap.size + 1), .cells (u8s form) 37 (0, 0))] W ∧ Own W (w1.heap.size) (.slice A0 rs.length c0) rs ∧ Own W (w16.heap.size) (.slice (some ⟨g17, 0, none⟩) xq.length xq.length) xq ∧ w17.heap.size + 1 ≤ W.heap.size := ⟨_, rfl, hK.drew, o0.drew, oh17.drew, Nat.le_of_eq (size_al1 w17 (.cells #[.int .i64 xp, .int .i64 xn, .int .i64 xm, .int .i64 xk, .slice (some ⟨g17, 0, none⟩) xq.length xq.length] 28 (0, 0))).symm⟩
    rw [← hw19]
    clear hw19
    refine held_yield 0 (some 38) (.agg #[.int .i64 xp, .int .i64 xn, .int .i64 xm, .int .i64 xk, .slice (some ⟨g17, 0, none⟩) xq.length xq.length]) rfl (by kernel_rfl) (by kernel_rfl) (by kernel_rfl) (fun _ _ _ h => h) rfl rfl hK.box (fun w' h' => exec_load_all 28 _ rfl w17.heap.size rfl _ _ _ (h' (w17.heap.size, .cells #[.int .i64 xp, .int .i64 xn, .int .i64 xm, .int .i64 xk, .slice (some ⟨g17, 0, none⟩) xq.length xq.length] 28 (0, 0)) (by simp)) Try.underlying28 rfl 5 (by kernel_rfl) rfl) ?_
    go_frame
    refine held_yield 1 (some 39) (.int .i64 i) rfl (by kernel_rfl) (by kernel_rfl) (by kernel_rfl) (fun _ _ _ h => h) rfl rfl hK.box (fun w' h' => exec_move _ rfl (.int .i64 i) rfl) ?_
    go_frame
    refine held_yield 2 (some 40) (.int .i64 f) rfl (by kernel_rfl) (by kernel_rfl) (by kernel_rfl) (fun _ _ _ h => h) rfl rfl hK.box (fun w' h' => exec_move _ rfl (.int .i64 f) rfl) ?_
    go_frame
    refine held_yield 3 (some 41) (.agg (u8s form)) rfl (by kernel_rfl) (by kernel_rfl) (by kernel_rfl) (fun _ _ _ h => h) rfl rfl hK.box (fun w' h' => exec_load_all 37 _ rfl (w.heap.size + 1) rfl _ _ _ (h' ((w.heap.size + 1), .cells (u8s form) 37 (0, 0)) (by simp)) Try.underlying37 rfl 9 (by kernel_rfl) ((u8s_size _).trans hb_form.len)) ?_
    go_frame
    refine held_two 4 9 (by kernel_rfl) rfl rfl rfl rfl (fun K' hK' => ?_) (fun K' hK' => ?_)
    · refine wp_call1 (some 42) rfl 17 _ _ rfl (fun args w => by kernel_rfl) _ rfl _ (toForm_c form hb_form _) (fun e w20 h => ?_)
      obtain ⟨rfl, b20⟩ := h
      have z20 : w19.heap.size ≤ w20.heap.size := size_after (Nat.le_refl _) b20
      replace hK := hK.after b20
      replace o0 := o0.below b20
      replace oh17 := oh17.below b20
      clear b20
      refine ⟨_, rfl, hK' _ _ hK.box ?_⟩
      clear hK' K'
      go_frame
      refine held_two 5 9 (by kernel_rfl) rfl rfl rfl rfl (fun K' hK' => ?_) (fun K' hK' => ?_)
      · refine wp_call4 (some 43) rfl 18 _ _ _ _ _ rfl (fun args w => by kernel_rfl) _ _ _ _ rfl rfl rfl rfl _ (HIm.out _ _ (oh17.rd' hr_x.good)) (fun e w21 h => ?_)
        obtain ⟨v21, rfl, o1, b21⟩ := h
        have z21 : w20.heap.size ≤ w21.heap.size := size_after (Nat.le_refl _) b21
        replace hK := hK.after b21
        replace o0 := o0.below b21
        replace oh17 := oh17.below b21
        clear b21
        replace o1 := o1.mono (Nat.le_refl _)
        have io1 := o1.inn
        obtain ⟨A1, c1, rfl, _⟩ := o1.rd Hrb.out
        refine ⟨_, rfl, hK' _ _ hK.box ?_⟩
        clear hK' K'
        go_frame
        refine held_yield 6 (some 37) (.tuple #[.agg #[.int .i64 rp, .int .i64 rn, .int .i64 rm, .int .i64 rk, .slice A1 rs.length c1], .int .i64 code]) rfl (by kernel_rfl) (by kernel_rfl) (by kernel_rfl) (fun _ _ _ h => h) rfl rfl hK.box (fun w' h' => exec_move _ rfl (.tuple #[.agg #[.int .i64 rp, .int .i64 rn, .int .i64 rm, .int .i64 rk, .slice A1 rs.length c1], .int .i64 code]) rfl) ?_
        go_frame
        refine held_yield 7 (some 44) (.agg #[.int .i64 rp, .int .i64 rn, .int .i64 rm, .int .i64 rk, .slice A1 rs.length c1]) rfl (by kernel_rfl) (by kernel_rfl) (by kernel_rfl) (fun _ _ _ h => h) rfl rfl hK.box (fun w' h' => exec_extract _ 0 rfl #[.agg #[.int .i64 rp, .int .i64 rn, .int .i64 rm, .int .i64 rk, .slice A1 rs.length c1], .int .i64 code] rfl (.agg #[.int .i64 rp, .int .i64 rn, .int .i64 rm, .int .i64 rk, .slice A1 rs.length c1]) rfl) ?_
        go_frame
        refine held_yield 8 (some 45) (.int .i64 code) rfl (by kernel_rfl) (by kernel_rfl) (by kernel_rfl) (fun _ _ _ h => h) rfl rfl hK.box (fun w' h' => exec_extract _ 1 rfl #[.agg #[.int .i64 rp, .int .i64 rn, .int .i64 rm, .int .i64 rk, .slice A1 rs.length c1], .int .i64 code] rfl (.int .i64 code) rfl) ?_
        go_frame
        refine held_oper 9 (by kernel_rfl) rfl rfl (fun K' hK' => ?_)
        refine wp_new (some 13) rfl (exec_alloc_scheme rfl) (fun w22 nn => ?_)
        have b22 := nn.below (Below.refl _ _) (Nat.le_refl _)
        have z22 : w21.heap.size ≤ w22.heap.size := size_after (Nat.le_refl _) b22
        replace hK := hK.after b22
        replace o0 := o0.below b22
        replace oh17 := oh17.below b22
        replace o1 := o1.below b22
        have hbx : At w22 w21.heap.size (.cells #[.int .i64 0, .int .i64 0, .int .i64 0, .int .i64 0, .slice none 0 0] 28 (0, 0)) := nn.at_
        have lbx := hbx.lt
        clear b22 nn
        refine hK' _ _ hK.box ?_
        clear hK' K'
        go_frame
        have nb := o1.off hbx (by decide)
        have nb_o0 := o0.off hbx (by decide)
        have nb_oh17 := oh17.off hbx (by decide)
        refine held_oper 10 (by kernel_rfl) rfl rfl (fun K' hK' => ?_)
        refine wp_store_all 28 _ _ rfl rfl (w21.heap.size) rfl _ rfl _ _ hbx 5 (by kernel_rfl) rfl rfl (one5 _ _ _ _ _ _ _) (fun ws ps => ?_)
        replace hK : KA w [(w17.heap.size, .cells #[.int .i64 xp, .int .i64 xn, .int .i64 xm, .int .i64 xk, .slice (some ⟨g17, 0, none⟩) xq.length xq.length] 28 (0, 0)), (bb0, .cells #[.int .i64 rp, .int .i64 rn, .int .i64 rm, .int .i64 rk, .slice A0 rs.length c0] 28 (0, 0)), (w.heap.size, .cells #[.int .i64 xp, .int .i64 xn, .int .i64 xm, .int .i64 xk, .slice xA xq.length xc] 24 (0, 0)), ((w.heap.size + 1), .cells (u8s form) 37 (0, 0))] ws := ⟨ps.below hK.below (by omega), by intro b hb; have hx := hK.box b hb; simp only [List.mem_cons, List.not_mem_nil, or_false] at hb; rcases hb with rfl | rfl | rfl | rfl <;> exact ps.other hx (by dsimp only; omega)⟩
        replace o0 := o0.put ps nb_o0
        replace oh17 := oh17.put ps nb_oh17
        replace o1 := o1.put ps nb
        replace hbx := ps.at_
        replace lbx := hbx.lt
        refine hK' _ _ hK.box ?_
        clear hK' K' ps
        refine held_yield 11 (some 14) (.int .i64 code) rfl (by kernel_rfl) (by kernel_rfl) (by kernel_rfl) (fun _ _ _ h => h) rfl rfl hK.box (fun w' h' => exec_assign _ rfl (.int .i64 code) rfl) ?_
        go_frame
        refine wpAnyH_done (by kernel_rfl) ?_ _
        go_wp2_with fail
        go_meet
        exact ⟨_, _, _, rfl, rfl, by omega, lbx, o1.mono (by omega), hbx, hK, o0, oh17⟩
      · refine wp_new (some 13) rfl (exec_alloc_scheme rfl) (fun w23 nn => ?_)
        have b23 := nn.below (Below.refl _ _) (Nat.le_refl _)
        have z23 : w20.heap.size ≤ w23.heap.size := size_after (Nat.le_refl _) b23
        replace hK := hK.after b23
        replace o0 := o0.below b23
        replace oh17 := oh17.below b23
        have hbx : At w23 w20.heap.size (.cells #[.int .i64 0, .int .i64 0, .int .i64 0, .int .i64 0, .slice none 0 0] 28 (0, 0)) := nn.at_
        have lbx := hbx.lt
        clear b23 nn
        refine hK' _ _ hK.box ?_
        clear hK' K'
        go_frame
        refine held_oper 5 (by kernel_rfl) rfl rfl (fun K' hK' => ?_)
        refine wp_call4 (some 43) rfl 18 _ _ _ _ _ rfl (fun args w => by kernel_rfl) _ _ _ _ rfl rfl rfl rfl _ (HIm.out _ _ (oh17.rd' hr_x.good)) (fun e w24 h => ?_)
        obtain ⟨v24, rfl, o1, b24⟩ := h
        have z24 : w23.heap.size ≤ w24.heap.size := size_after (Nat.le_refl _) b24
        replace hK := hK.after b24
        replace o0 := o0.below b24
        replace oh17 := oh17.below b24
        replace hbx := hbx.after b24
        clear b24
        replace o1 := o1.mono (Nat.le_refl _)
        have io1 := o1.inn
        obtain ⟨A1, c1, rfl, _⟩ := o1.rd Hrb.out
        refine ⟨_, rfl, hK' _ _ hK.box ?_⟩
        clear hK' K'
        go_frame
        refine held_yield 6 (some 37) (.tuple #[.agg #[.int .i64 rp, .int .i64 rn, .int .i64 rm, .int .i64 rk, .slice A1 rs.length c1], .int .i64 code]) rfl (by kernel_rfl) (by kernel_rfl) (by kernel_rfl) (fun _ _ _ h => h) rfl rfl hK.box (fun w' h' => exec_move _ rfl (.tuple #[.agg #[.int .i64 rp, .int .i64 rn, .int .i64 rm, .int .i64 rk, .slice A1 rs.length c1], .int .i64 code]) rfl) ?_
        go_frame
        refine held_yield 7 (some 44) (.agg #[.int .i64 rp, .int .i64 rn, .int .i64 rm, .int .i64 rk, .slice A1 rs.length c1]) rfl (by kernel_rfl) (by kernel_rfl) (by kernel_rfl) (fun _ _ _ h => h) rfl rfl hK.box (fun w' h' => exec_extract _ 0 rfl #[.agg #[.int .i64 rp, .int .i64 rn, .int .i64 rm, .int .i64 rk, .slice A1 rs.length c1], .int .i64 code] rfl (.agg #[.int .i64 rp, .int .i64 rn, .int .i64 rm, .int .i64 rk, .slice A1 rs.length c1]) rfl) ?_
        go_frame
        refine held_yield 8 (some 45) (.int .i64 code) rfl (by kernel_rfl) (by kernel_rfl) (by kernel_rfl) (fun _ _ _ h => h) rfl rfl hK.box (fun w' h' => exec_extract _ 1 rfl #[.agg #[.int .i64 rp, .int .i64 rn, .int .i64 rm, .int .i64 rk, .slice A1 rs.length c1], .int .i64 code] rfl (.int .i64 code) rfl) ?_
        go_frame
        have nb := o1.off hbx (by decide)
        have nb_o0 := o0.off hbx (by decide)
        have nb_oh17 := oh17.off hbx (by decide)
        refine held_oper 10 (by kernel_rfl) rfl rfl (fun K' hK' => ?_)
        refine wp_store_all 28 _ _ rfl rfl (w20.heap.size) rfl _ rfl _ _ hbx 5 (by kernel_rfl) rfl rfl (one5 _ _ _ _ _ _ _) (fun ws ps => ?_)
        replace hK : KA w [(w17.heap.size, .cells #[.int .i64 xp, .int .i64 xn, .int .i64 xm, .int .i64 xk, .slice (some ⟨g17, 0, none⟩) xq.length xq.length] 28 (0, 0)), (bb0, .cells #[.int .i64 rp, .int .i64 rn, .int .i64 rm, .int .i64 rk, .slice A0 rs.length c0] 28 (0, 0)), (w.heap.size, .cells #[.int .i64 xp, .int .i64 xn, .int .i64 xm, .int .i64 xk, .slice xA xq.length xc] 24 (0, 0)), ((w.heap.size + 1), .cells (u8s form) 37 (0, 0))] ws := ⟨ps.below hK.below (by omega), by intro b hb; have hx := hK.box b hb; simp only [List.mem_cons, List.not_mem_nil, or_false] at hb; rcases hb with rfl | rfl | rfl | rfl <;> exact ps.other hx (by dsimp only; omega)⟩
        replace o0 := o0.put ps nb_o0
        replace oh17 := oh17.put ps nb_oh17
        replace o1 := o1.put ps nb
        replace hbx := ps.at_
        replace lbx := hbx.lt
        refine hK' _ _ hK.box ?_
        clear hK' K' ps
        refine held_yield 11 (some 14) (.int .i64 code) rfl (by kernel_rfl) (by kernel_rfl) (by kernel_rfl) (fun _ _ _ h => h) rfl rfl hK.box (fun w' h' => exec_assign _ rfl (.int .i64 code) rfl) ?_
        go_frame
        refine wpAnyH_done (by kernel_rfl) ?_ _
        go_wp2_with fail
        go_meet
        exact ⟨_, _, _, rfl, rfl, by omega, lbx, o1.mono (by omega), hbx, hK, o0, oh17⟩
    · refine wp_new (some 13) rfl (exec_alloc_scheme rfl) (fun w25 nn => ?_)
      have b25 := nn.below (Below.refl _ _) (Nat.le_refl _)
      have z25 : w19.heap.size ≤ w25.heap.size := size_after (Nat.le_refl _) b25
      replace hK := hK.after b25
      replace o0 := o0.below b25
      replace oh17 := oh17.below b25
      have hbx : At w25 w19.heap.size (.cells #[.int .i64 0, .int .i64 0, .int .i64 0, .int .i64 0, .slice none 0 0] 28 (0, 0)) := nn.at_
      have lbx := hbx.lt
      clear b25 nn
      refine hK' _ _ hK.box ?_
      clear hK' K'
      go_frame
      refine held_oper 4 (by kernel_rfl) rfl rfl (fun K' hK' => ?_)
      refine wp_call1 (some 42) rfl 17 _ _ rfl (fun args w => by kernel_rfl) _ rfl _ (toForm_c form hb_form _) (fun e w26 h => ?_)
      obtain ⟨rfl, b26⟩ := h
      have z26 : w25.heap.size ≤ w26.heap.size := size_after (Nat.le_refl _) b26
      replace hK := hK.after b26
      replace o0 := o0.below b26
      replace oh17 := oh17.below b26
      replace hbx := hbx.after b26
      clear b26
      refine ⟨_, rfl, hK' _ _ hK.box ?_⟩
      clear hK' K'
      go_frame
      refine held_oper 5 (by kernel_rfl) rfl rfl (fun K' hK' => ?_)
      refine wp_call4 (some 43) rfl 18 _ _ _ _ _ rfl (fun args w => by kernel_rfl) _ _ _ _ rfl rfl rfl rfl _ (HIm.out _ _ (oh17.rd' hr_x.good)) (fun e w27 h => ?_)
      obtain ⟨v27, rfl, o1, b27⟩ := h
      have z27 : w26.heap.size ≤ w27.heap.size := size_after (Nat.le_refl _) b27
      replace hK := hK.after b27
      replace o0 := o0.below b27
      replace oh17 := oh17.below b27
      replace hbx := hbx.after b27
      clear b27
      replace o1 := o1.mono (Nat.le_refl _)
      have io1 := o1.inn
      obtain ⟨A1, c1, rfl, _⟩ := o1.rd Hrb.out
      refine ⟨_, rfl, hK' _ _ hK.box ?_⟩
      clear hK' K'
      go_frame
      refine held_yield 6 (some 37) (.tuple #[.agg #[.int .i64 rp, .int .i64 rn, .int .i64 rm, .int .i64 rk, .slice A1 rs.length c1], .int .i64 code]) rfl (by kernel_rfl) (by kernel_rfl) (by kernel_rfl) (fun _ _ _ h => h) rfl rfl hK.box (fun w' h' => exec_move _ rfl (.tuple #[.agg #[.int .i64 rp, .int .i64 rn, .int .i64 rm, .int .i64 rk, .slice A1 rs.length c1], .int .i64 code]) rfl) ?_
      go_frame
      refine held_yield 7 (some 44) (.agg #[.int .i64 rp, .int .i64 rn, .int .i64 rm, .int .i64 rk, .slice A1 rs.length c1]) rfl (by kernel_rfl) (by kernel_rfl) (by kernel_rfl) (fun _ _ _ h => h) rfl rfl hK.box (fun w' h' => exec_extract _ 0 rfl #[.agg #[.int .i64 rp, .int .i64 rn, .int .i64 rm, .int .i64 rk, .slice A1 rs.length c1], .int .i64 code] rfl (.agg #[.int .i64 rp, .int .i64 rn, .int .i64 rm, .int .i64 rk, .slice A1 rs.length c1]) rfl) ?_
      go_frame
      refine held_yield 8 (some 45) (.int .i64 code) rfl (by kernel_rfl) (by kernel_rfl) (by kernel_rfl) (fun _ _ _ h => h) rfl rfl hK.box (fun w' h' => exec_extract _ 1 rfl #[.agg #[.int .i64 rp, .int .i64 rn, .int .i64 rm, .int .i64 rk, .slice A1 rs.length c1], .int .i64 code] rfl (.int .i64 code) rfl) ?_
      go_frame
      have nb := o1.off hbx (by decide)
      have nb_o0 := o0.off hbx (by decide)
      have nb_oh17 := oh17.off hbx (by decide)
      refine held_oper 10 (by kernel_rfl) rfl rfl (fun K' hK' => ?_)
      refine wp_store_all 28 _ _ rfl rfl (w19.heap.size) rfl _ rfl _ _ hbx 5 (by kernel_rfl) rfl rfl (one5 _ _ _ _ _ _ _) (fun ws ps => ?_)
      replace hK : KA w [(w17.heap.size, .cells #[.int .i64 xp, .int .i64 xn, .int .i64 xm, .int .i64 xk, .slice (some ⟨g17, 0, none⟩) xq.length xq.length] 28 (0, 0)), (bb0, .cells #[.int .i64 rp, .int .i64 rn, .int .i64 rm, .int .i64 rk, .slice A0 rs.length c0] 28 (0, 0)), (w.heap.size, .cells #[.int .i64 xp, .int .i64 xn, .int .i64 xm, .int .i64 xk, .slice xA xq.length xc] 24 (0, 0)), ((w.heap.size + 1), .cells (u8s form) 37 (0, 0))] ws := ⟨ps.below hK.below (by omega), by intro b hb; have hx := hK.box b hb; simp only [List.mem_cons, List.not_mem_nil, or_false] at hb; rcases hb with rfl | rfl | rfl | rfl <;> exact ps.other hx (by dsimp only; omega)⟩
      replace o0 := o0.put ps nb_o0
      replace oh17 := oh17.put ps nb_oh17
      replace o1 := o1.put ps nb
      replace hbx := ps.at_
      replace lbx := hbx.lt
      refine hK' _ _ hK.box ?_
      clear hK' K' ps
      refine held_yield 11 (some 14) (.int .i64 code) rfl (by kernel_rfl) (by kernel_rfl) (by kernel_rfl) (fun _ _ _ h => h) rfl rfl hK.box (fun w' h' => exec_assign _ rfl (.int .i64 code) rfl) ?_
      go_frame
      refine wpAnyH_done (by kernel_rfl) ?_ _
      go_wp2_with fail
      go_meet
      exact ⟨_, _, _, rfl, rfl, by omega, lbx, o1.mono (by omega), hbx, hK, o0, oh17⟩
  case rest =>
  clear hK o0 oh17
  obtain ⟨bb1, A1, c1, rfl, rfl, hb1, lb1, o1, hbx, hK, o0, oh17⟩ := hcut
  obtain ⟨w28, rfl⟩ := ka_world hK
  replace hK : KA w [(bb1, .cells #[.int .i64 rp, .int .i64 rn, .int .i64 rm, .int .i64 rk, .slice A1 rs.length c1] 28 (0, 0)), (w17.heap.size, .cells #[.int .i64 xp, .int .i64 xn, .int .i64 xm, .int .i64 xk, .slice (some ⟨g17, 0, none⟩) xq.length xq.length] 28 (0, 0)), (bb0, .cells #[.int .i64 rp, .int .i64 rn, .int .i64 rm, .int .i64 rk, .slice A0 rs.length c0] 28 (0, 0)), (w.heap.size, .cells #[.int .i64 xp, .int .i64 xn, .int .i64 xm, .int .i64 xk, .slice xA xq.length xc] 24 (0, 0)), ((w.heap.size + 1), .cells (u8s form) 37 (0, 0))] w28 := hK.more hbx
  clear hbx
  have io1 := o1.inn
  have z28 : w17.heap.size + 1 ≤ w28.heap.size := by omega
  go_wp2_with (first | (refine wpList_load_all rfl 28 _ rfl bb1 rfl _ _ _ (by exact (hK.box (bb1, .cells #[.int .i64 rp, .int .i64 rn, .int .i64 rm, .int .i64 rk, .slice A1 rs.length c1] 28 (0, 0)) (by simp))) Try.underlying28 rfl 5 (by kernel_rfl) rfl ?_) | (refine wpList_load_all rfl 28 _ rfl bb0 rfl _ _ _ (by exact (hK.box (bb0, .cells #[.int .i64 rp, .int .i64 rn, .int .i64 rm, .int .i64 rk, .slice A0 rs.length c0] 28 (0, 0)) (by simp))) Try.underlying28 rfl 5 (by kernel_rfl) rfl ?_))
  refine (eqScheme_c rp rn rm rk _ _ _ _ rs _ (o1.rd' Hrb.out) (o0.rd' Hrb.out) (by omega)).mono ?_
  rintro e w29 ⟨rfl, b29⟩
  have z29 : w28.heap.size ≤ w29.heap.size := size_after (Nat.le_refl _) b29
  replace hK := hK.after b29
  replace o0 := o0.below b29
  replace oh17 := oh17.below b29
  replace o1 := o1.below b29
  clear b29
  go_wp2_with fail
  refine wp_region_held (S := fun w' => ∀ b ∈ ([(bb1, .cells #[.int .i64 rp, .int .i64 rn, .int .i64 rm, .int .i64 rk, .slice A1 rs.length c1] 28 (0, 0)), (w17.heap.size, .cells #[.int .i64 xp, .int .i64 xn, .int .i64 xm, .int .i64 xk, .slice (some ⟨g17, 0, none⟩) xq.length xq.length] 28 (0, 0)), (bb0, .cells #[.int .i64 rp, .int .i64 rn, .int .i64 rm, .int .i64 rk, .slice A0 rs.length c0] 28 (0, 0)), (w.heap.size, .cells #[.int .i64 xp, .int .i64 xn, .int .i64 xm, .int .i64 xk, .slice xA xq.length xc] 24 (0, 0)), ((w.heap.size + 1), .cells (u8s form) 37 (0, 0))] : List (Nat × Obj)), At w' b.1 b.2) (by kernel_rfl) ?_
  change wpAnyH _ _ _ _ _ _ _ _ (World.drew _)
  obtain ⟨w30, hw30, hK, o0, oh17, o1, z30⟩ : ∃ W, W = World.drew _ ∧ KA w [(bb1, .cells #[.int .i64 rp, .int .i64 rn, .int .i64 rm, .int .i64 rk, .slice A1 rs.length c1] 28 (0, 0)), (w17.heap.size, .cells #[.int .i64 xp, .int .i64 xn, .int .i64 xm, .int .i64 xk, .slice (some ⟨g17, 0, none⟩) xq.length xq.length] 28 (0, 0)), (bb0, .cells #[.int .i64 rp, .int .i64 rn, .int .i64 rm, .int .i64 rk, .slice A0 rs.length c0] 28 (0, 0)), (w.heap.size, .cells #[.int .i64 xp, .int .i64 xn, .int .i64 xm, .int .i64 xk, .slice xA xq.length xc] 24 (0, 0)), ((w.heap.size + 1), .cells (u8s form) 37 (0, 0))] W ∧ Own W (w1.heap.size) (.slice A0 rs.length c0) rs ∧ Own W (w16.heap.size) (.slice (some ⟨g17, 0, none⟩) xq.length xq.length) xq ∧ Own W (w17.heap.size + 1) (.slice A1 rs.length c1) rs ∧ w29.heap.size ≤ W.heap.size := ⟨_, rfl, hK.drew, o0.drew, oh17.drew, o1.drew, Nat.le_refl _⟩
  rw [← hw30]
  clear hw30
  refine held_yield 0 (some 55) (.agg #[.int .i64 xp, .int .i64 xn, .int .i64 xm, .int .i64 xk, .slice (some ⟨g17, 0, none⟩) xq.length xq.length]) rfl (by kernel_rfl) (by kernel_rfl) (by kernel_rfl) (fun _ _ _ h => h) rfl rfl hK.box (fun w' h' => exec_load_all 28 _ rfl w17.heap.size rfl _ _ _ (h' (w17.heap.size, .cells #[.int .i64 xp, .int .i64 xn, .int .i64 xm, .int .i64 xk, .slice (some ⟨g17, 0, none⟩) xq.length xq.length] 28 (0, 0)) (by simp)) Try.underlying28 rfl 5 (by kernel_rfl) rfl) ?_
  go_frame
  refine held_yield 1 (some 56) (.agg #[.int .i64 xp, .int .i64 xn, .int .i64 xm, .int .i64 xk, .slice xA xq.length xc]) rfl (by kernel_rfl) (by kernel_rfl) (by kernel_rfl) (fun _ _ _ h => h) rfl rfl hK.box (fun w' h' => exec_load_all 24 _ rfl w.heap.size rfl _ _ _ (h' (w.heap.size, .cells #[.int .i64 xp, .int .i64 xn, .int .i64 xm, .int .i64 xk, .slice xA xq.length xc] 24 (0, 0)) (by simp)) Try.underlying24 rfl 5 (by kernel_rfl) rfl) ?_
  go_frame
  refine held_oper 2 (by kernel_rfl) rfl rfl (fun K' hK' => ?_)
  refine wp_call1 (some 57) rfl 9 _ _ rfl (fun args w => by kernel_rfl) _ rfl _ (toScheme_c xp xn xm xk xA xc xq _ (hr_x.keep hK.below) t_x) (fun e w31 h => ?_)
  obtain ⟨g31, rfl, hg31, h31, b31⟩ := h
  have z31 : w30.heap.size ≤ w31.heap.size := size_after (Nat.le_refl _) b31
  replace hK := hK.after b31
  replace o0 := o0.below b31
  replace oh17 := oh17.below b31
  replace o1 := o1.below b31
  clear b31
  replace hg31 := Nat.le_trans (Nat.le_refl _) hg31
  refine ⟨_, rfl, hK' _ _ hK.box ?_⟩
  clear hK' K'
  go_frame
  refine held_oper 3 (by kernel_rfl) rfl rfl (fun K' hK' => ?_)
  refine wp_call2 (some 58) rfl 11 _ _ _ rfl (fun args w => by kernel_rfl) _ _ rfl rfl _ (eqScheme_c xp xn xm xk _ _ _ _ xq _ (oh17.rd' hr_x.good) (Rd.of_at h31 hr_x.good) (by omega)) (fun e w32 h => ?_)
  obtain ⟨rfl, b32⟩ := h
  have z32 : w31.heap.size ≤ w32.heap.size := size_after (Nat.le_refl _) b32
  replace hK := hK.after b32
  replace o0 := o0.below b32
  replace oh17 := oh17.below b32
  replace o1 := o1.below b32
  replace h31 := h31.after b32
  clear b32
  clear h31
  refine ⟨_, rfl, hK' _ _ hK.box ?_⟩
  clear hK' K'
  go_frame
  refine held_exec 4 (some 59) (.bool false) (by kernel_rfl) rfl rfl rfl (exec_not 4 _ rfl true rfl) hK.box ?_
  go_frame
  refine wpAnyH_done (by kernel_rfl) ?_ _
  go_wp2_with (refine wpList_load_all rfl 28 _ rfl w17.heap.size rfl _ _ _ (by exact (hK.box (w17.heap.size, .cells #[.int .i64 xp, .int .i64 xn, .int .i64 xm, .int .i64 xk, .slice (some ⟨g17, 0, none⟩) xq.length xq.length] 28 (0, 0)) (by simp))) Try.underlying28 rfl 5 (by kernel_rfl) rfl ?_)
  have hneg33 : ¬ (1 : Int) + (xq.length : Int) * 27 < 0 := by omega
  refine (markScheme_2 xp xn xm xk (1) _ _ (by simp) oh17 t_x (by omega)).mono ?_
  rintro e w33 ⟨rfl, hG, hH⟩
  have S33 := Same.of_in hG ioh17
  have z33 : w32.heap.size ≤ w33.heap.size := Nat.le_trans (Nat.le_refl _) S33.size
  replace hK := hK.grown oh17 (by omega) hG (by intro b hb; simp only [List.mem_cons, List.not_mem_nil, or_false] at hb; rcases hb with rfl | rfl | rfl | rfl | rfl <;> exact ⟨_, _, rfl, by decide⟩)
  replace o0 := o0.same io0 S33 (by omega)
  replace o1 := o1.same io1 S33 (by omega)
  clear S33 hG
  clear hH
  clear oh17
  go_wp2_with (first | (refine wpList_want_exec rfl (exec_load_all 28 _ rfl bb1 rfl _ _ _ (by exact (hK.box (bb1, .cells #[.int .i64 rp, .int .i64 rn, .int .i64 rm, .int .i64 rk, .slice A1 rs.length c1] 28 (0, 0)) (by simp))) Try.underlying28 rfl 5 (by kernel_rfl) rfl) ?_) | (refine wpList_want_exec rfl (exec_load_all 28 _ rfl bb0 rfl _ _ _ (by exact (hK.box (bb0, .cells #[.int .i64 rp, .int .i64 rn, .int .i64 rm, .int .i64 rk, .slice A0 rs.length c0] 28 (0, 0)) (by simp))) Try.underlying28 rfl 5 (by kernel_rfl) rfl) ?_))
  refine (eqScheme_c rp rn rm rk _ _ _ _ rs _ (o1.rd' Hrb.out) (o0.rd' Hrb.out) (by omega)).mono ?_
  rintro e w34 ⟨rfl, b34⟩
  have z34 : w33.heap.size ≤ w34.heap.size := size_after (Nat.le_refl _) b34
  replace hK := hK.after b34
  replace o0 := o0.below b34
  replace o1 := o1.below b34
  clear b34
  go_wp2_with (refine wpList_load_all rfl 28 _ rfl bb1 rfl _ _ _ (by exact (hK.box (bb1, .cells #[.int .i64 rp, .int .i64 rn, .int .i64 rm, .int .i64 rk, .slice A1 rs.length c1] 28 (0, 0)) (by simp))) Try.underlying28 rfl 5 (by kernel_rfl) rfl ?_)
  have hneg35 : ¬ (1 : Int) + (rs.length : Int) * 27 < 0 := by omega
  refine (markScheme_2 rp rn rm rk (1) _ _ (by simp) o1 hrl (by omega)).mono ?_
  rintro e w35 ⟨rfl, hG, hH⟩
  have S35 := Same.of_in hG io1
  have z35 : w34.heap.size ≤ w35.heap.size := Nat.le_trans (Nat.le_refl _) S35.size
  replace hK := hK.grown o1 (by omega) hG (by intro b hb; simp only [List.mem_cons, List.not_mem_nil, or_false] at hb; rcases hb with rfl | rfl | rfl | rfl | rfl <;> exact ⟨_, _, rfl, by decide⟩)
  replace o0 := o0.same io0 S35 (by omega)
  clear S35 hG
  have s1 := o1.shp
  clear o1
  have ihH := io1
  go_wp2_with (refine wpList_load_all rfl 28 _ rfl bb1 rfl _ _ _ (by exact (hK.box (bb1, .cells #[.int .i64 rp, .int .i64 rn, .int .i64 rm, .int .i64 rk, .slice A1 rs.length c1] 28 (0, 0)) (by simp))) Try.underlying28 rfl 5 (by kernel_rfl) rfl ?_)
  refine (heldScheme_1 rp rn rm rk _ s1 hH hrl).mono ?_
  rintro e w36 ⟨rfl, b36⟩
  have z36 : w35.heap.size ≤ w36.heap.size := size_after (Nat.le_refl _) b36
  replace hK := hK.after b36
  replace o0 := o0.below b36
  replace hH := hH.below b36
  clear b36
  go_wp2_with fail
  have lz2 := hK.below.size
  have zz2 : w36.heap.size ≤ _ := Nat.le_refl _
  go_cut [18, 19] from 87 to 96 (fun s18 s19 wx => ∃ (bb2 : Nat) (A2 : Option Addr) (c2 : Nat), s18 = .pointer (some ⟨bb2, 0, none⟩) ∧ s19 = .int .i64 code ∧ w36.heap.size ≤ bb2 ∧ bb2 < wx.heap.size ∧ Own wx (w36.heap.size) (.slice A2 rs.length c2) rs ∧ At wx bb2 (.cells #[.int .i64 rp, .int .i64 rn, .int .i64 rm, .int .i64 rk, .slice A2 rs.length c2] 28 (0, 0)) ∧ KA w [(bb1, .cells #[.int .i64 rp, .int .i64 rn, .int .i64 rm, .int .i64 rk, .slice A1 rs.length c1] 28 (0, 0)), (w17.heap.size, .cells #[.int .i64 xp, .int .i64 xn, .int .i64 xm, .int .i64 xk, .slice (some ⟨g17, 0, none⟩) xq.length xq.length] 28 (0, 0)), (bb0, .cells #[.int .i64 rp, .int .i64 rn, .int .i64 rm, .int .i64 rk, .slice A0 rs.length c0] 28 (0, 0)), (w.heap.size, .cells #[.int .i64 xp, .int .i64 xn, .int .i64 xm, .int .i64 xk, .slice xA xq.length xc] 24 (0, 0)), ((w.heap.size + 1), .cells (u8s form) 37 (0, 0))] wx ∧ Own wx (w1.heap.size) (.slice A0 rs.length c0) rs ∧ Held wx (.slice A1 rs.length c1) 1 rs.length)
  case first =>
    go_wp2_with fail
    refine wp_region_held (S := fun w' => ∀ b ∈ ([(bb1, .cells #[.int .i64 rp, .int .i64 rn, .int .i64 rm, .int .i64 rk, .slice A1 rs.length c1] 28 (0, 0)), (w17.heap.size, .cells #[.int .i64 xp, .int .i64 xn, .int .i64 xm, .int .i64 xk, .slice (some ⟨g17, 0, none⟩) xq.length xq.length] 28 (0, 0)), (bb0, .cells #[.int .i64 rp, .int .i64 rn, .int .i64 rm, .int .i64 rk, .slice A0 rs.length c0] 28 (0, 0)), (w.heap.size, .cells #[.int .i64 xp, .int .i64 xn, .int .i64 xm, .int .i64 xk, .slice xA xq.length xc] 24 (0, 0)), ((w.heap.size + 1), .cells (u8s form) 37 (0, 0))] : List (Nat × Obj)), At w' b.1 b.2) (by kernel_rfl) ?_
    change wpAnyH _ _ _ _ _ _ _ _ (World.drew _)
    obtain ⟨w37, hw37, hK, o0, hH, z37⟩ : ∃ W, W = World.drew _ ∧ KA w [(bb1, .cells #[.int .i64 rp, .int .i64 rn, .int .i64 rm, .int .i64 rk, .slice A1 rs.length c1] 28 (0, 0)), (w17.heap.size, .cells #[.int .i64 xp, .int .i64 xn, .int .i64 xm, .int .i64 xk, .slice (some ⟨g17, 0, none⟩) xq.length xq.length] 28 (0, 0)), (bb0, .cells #[.int .i64 rp, .int .i64 rn, .int .i64 rm, .int .i64 rk, .slice A0 rs.length c0] 28 (0, 0)), (w.heap.size, .cells #[.int .i64 xp, .int .i64 xn, .int .i64 xm, .int .i64 xk, .slice xA xq.length xc] 24 (0, 0)), ((w.heap.size + 1), .cells (u8s form) 37 (0, 0))] W ∧ Own W (w1.heap.size) (.slice A0 rs.length c0) rs ∧ Held W (.slice A1 rs.length c1) 1 rs.length ∧ w36.heap.size ≤ W.heap.size := ⟨_, rfl, hK.drew, o0.drew, hH, Nat.le_refl _⟩
    rw [← hw37]
    clear hw37
    refine held_yield 0 (some 88) (.agg #[.int .i64 xp, .int .i64 xn, .int .i64 xm, .int .i64 xk, .slice xA xq.length xc]) rfl (by kernel_rfl) (by kernel_rfl) (by kernel_rfl) (fun _ _ _ h => h) rfl rfl hK.box (fun w' h' => exec_load_all 24 _ rfl w.heap.size rfl _ _ _ (h' (w.heap.size, .cells #[.int .i64 xp, .int .i64 xn, .int .i64 xm, .int .i64 xk, .slice xA xq.length xc] 24 (0, 0)) (by simp)) Try.underlying24 rfl 5 (by kernel_rfl) rfl) ?_
    go_frame
    refine held_yield 2 (some 90) (.int .i64 i) rfl (by kernel_rfl) (by kernel_rfl) (by kernel_rfl) (fun _ _ _ h => h) rfl rfl hK.box (fun w' h' => exec_move _ rfl (.int .i64 i) rfl) ?_
    go_frame
    refine held_yield 3 (some 91) (.int .i64 f) rfl (by kernel_rfl) (by kernel_rfl) (by kernel_rfl) (fun _ _ _ h => h) rfl rfl hK.box (fun w' h' => exec_move _ rfl (.int .i64 f) rfl) ?_
    go_frame
    refine held_yield 4 (some 92) (.agg (u8s form)) rfl (by kernel_rfl) (by kernel_rfl) (by kernel_rfl) (fun _ _ _ h => h) rfl rfl hK.box (fun w' h' => exec_load_all 37 _ rfl (w.heap.size + 1) rfl _ _ _ (h' ((w.heap.size + 1), .cells (u8s form) 37 (0, 0)) (by simp)) Try.underlying37 rfl 9 (by kernel_rfl) ((u8s_size _).trans hb_form.len)) ?_
    go_frame
    refine held_two 1 10 (by kernel_rfl) rfl rfl rfl rfl (fun K' hK' => ?_) (fun K' hK' => ?_)
    · refine wp_call1 (some 89) rfl 9 _ _ rfl (fun args w => by kernel_rfl) _ rfl _ (toScheme_c xp xn xm xk xA xc xq _ (hr_x.keep hK.below) t_x) (fun e w38 h => ?_)
      obtain ⟨g38, rfl, hg38, h38, b38⟩ := h
      have z38 : w37.heap.size ≤ w38.heap.size := size_after (Nat.le_refl _) b38
      replace hK := hK.after b38
      replace o0 := o0.below b38
      replace hH := hH.below b38
      clear b38
      replace hg38 := Nat.le_trans (Nat.le_refl _) hg38
      refine ⟨_, rfl, hK' _ _ hK.box ?_⟩
      clear hK' K'
      go_frame
      refine held_two 5 10 (by kernel_rfl) rfl rfl rfl rfl (fun K' hK' => ?_) (fun K' hK' => ?_)
      · refine wp_call1 (some 93) rfl 17 _ _ rfl (fun args w => by kernel_rfl) _ rfl _ (toForm_c form hb_form _) (fun e w39 h => ?_)
        obtain ⟨rfl, b39⟩ := h
        have z39 : w38.heap.size ≤ w39.heap.size := size_after (Nat.le_refl _) b39
        replace hK := hK.after b39
        replace o0 := o0.below b39
        replace hH := hH.below b39
        replace h38 := h38.after b39
        clear b39
        refine ⟨_, rfl, hK' _ _ hK.box ?_⟩
        clear hK' K'
        go_frame
        refine held_two 6 10 (by kernel_rfl) rfl rfl rfl rfl (fun K' hK' => ?_) (fun K' hK' => ?_)
        · refine wp_call4 (some 94) rfl 18 _ _ _ _ _ rfl (fun args w => by kernel_rfl) _ _ _ _ rfl rfl rfl rfl _ (HIm.out _ _ (Rd.of_at h38 hr_x.good)) (fun e w40 h => ?_)
          obtain ⟨v40, rfl, o2, b40⟩ := h
          have z40 : w39.heap.size ≤ w40.heap.size := size_after (Nat.le_refl _) b40
          replace hK := hK.after b40
          replace o0 := o0.below b40
          replace hH := hH.below b40
          replace h38 := h38.after b40
          clear b40
          clear h38
          replace o2 := o2.mono (Nat.le_refl _)
          have io2 := o2.inn
          obtain ⟨A2, c2, rfl, _⟩ := o2.rd Hrb.out
          refine ⟨_, rfl, hK' _ _ hK.box ?_⟩
          clear hK' K'
          go_frame
          refine held_yield 7 (some 87) (.tuple #[.agg #[.int .i64 rp, .int .i64 rn, .int .i64 rm, .int .i64 rk, .slice A2 rs.length c2], .int .i64 code]) rfl (by kernel_rfl) (by kernel_rfl) (by kernel_rfl) (fun _ _ _ h => h) rfl rfl hK.box (fun w' h' => exec_move _ rfl (.tuple #[.agg #[.int .i64 rp, .int .i64 rn, .int .i64 rm, .int .i64 rk, .slice A2 rs.length c2], .int .i64 code]) rfl) ?_
          go_frame
          refine held_yield 8 (some 95) (.agg #[.int .i64 rp, .int .i64 rn, .int .i64 rm, .int .i64 rk, .slice A2 rs.length c2]) rfl (by kernel_rfl) (by kernel_rfl) (by kernel_rfl) (fun _ _ _ h => h) rfl rfl hK.box (fun w' h' => exec_extract _ 0 rfl #[.agg #[.int .i64 rp, .int .i64 rn, .int .i64 rm, .int .i64 rk, .slice A2 rs.length c2], .int .i64 code] rfl (.agg #[.int .i64 rp, .int .i64 rn, .int .i64 rm, .int .i64 rk, .slice A2 rs.length c2]) rfl) ?_
          go_frame
          refine held_yield 9 (some 96) (.int .i64 code) rfl (by kernel_rfl) (by kernel_rfl) (by kernel_rfl) (fun _ _ _ h => h) rfl rfl hK.box (fun w' h' => exec_extract _ 1 rfl #[.agg #[.int .i64 rp, .int .i64 rn, .int .i64 rm, .int .i64 rk, .slice A2 rs.length c2], .int .i64 code] rfl (.int .i64 code) rfl) ?_
          go_frame
          refine held_oper 10 (by kernel_rfl) rfl rfl (fun K' hK' => ?_)
          refine wp_new (some 18) rfl (exec_alloc_scheme rfl) (fun w41 nn => ?_)
          have b41 := nn.below (Below.refl _ _) (Nat.le_refl _)
          have z41 : w40.heap.size ≤ w41.heap.size := size_after (Nat.le_refl _) b41
          replace hK := hK.after b41
          replace o0 := o0.below b41
          replace hH := hH.below b41
          replace o2 := o2.below b41
          have hbx : At w41 w40.heap.size (.cells #[.int .i64 0, .int .i64 0, .int .i64 0, .int .i64 0, .slice none 0 0] 28 (0, 0)) := nn.at_
          have lbx := hbx.lt
          clear b41 nn
          refine hK' _ _ hK.box ?_
          clear hK' K'
          go_frame
          have nb := o2.off hbx (by decide)
          have nb_o0 := o0.off hbx (by decide)
          refine held_oper 11 (by kernel_rfl) rfl rfl (fun K' hK' => ?_)
          refine wp_store_all 28 _ _ rfl rfl (w40.heap.size) rfl _ rfl _ _ hbx 5 (by kernel_rfl) rfl rfl (one5 _ _ _ _ _ _ _) (fun ws ps => ?_)
          replace hK : KA w [(bb1, .cells #[.int .i64 rp, .int .i64 rn, .int .i64 rm, .int .i64 rk, .slice A1 rs.length c1] 28 (0, 0)), (w17.heap.size, .cells #[.int .i64 xp, .int .i64 xn, .int .i64 xm, .int .i64 xk, .slice (some ⟨g17, 0, none⟩) xq.length xq.length] 28 (0, 0)), (bb0, .cells #[.int .i64 rp, .int .i64 rn, .int .i64 rm, .int .i64 rk, .slice A0 rs.length c0] 28 (0, 0)), (w.heap.size, .cells #[.int .i64 xp, .int .i64 xn, .int .i64 xm, .int .i64 xk, .slice xA xq.length xc] 24 (0, 0)), ((w.heap.size + 1), .cells (u8s form) 37 (0, 0))] ws := ⟨ps.below hK.below (by omega), by intro b hb; have hx := hK.box b hb; simp only [List.mem_cons, List.not_mem_nil, or_false] at hb; rcases hb with rfl | rfl | rfl | rfl | rfl <;> exact ps.other hx (by dsimp only; omega)⟩
          replace o0 := o0.put ps nb_o0
          replace hH := hH.put ps (fun e => by have := ihH _ e.symm; omega)
          replace o2 := o2.put ps nb
          replace hbx := ps.at_
          replace lbx := hbx.lt
          refine hK' _ _ hK.box ?_
          clear hK' K' ps
          refine held_yield 12 (some 19) (.int .i64 code) rfl (by kernel_rfl) (by kernel_rfl) (by kernel_rfl) (fun _ _ _ h => h) rfl rfl hK.box (fun w' h' => exec_assign _ rfl (.int .i64 code) rfl) ?_
          go_frame
          refine wpAnyH_done (by kernel_rfl) ?_ _
          go_wp2_with fail
          go_meet
          exact ⟨_, _, _, rfl, rfl, by omega, lbx, o2.mono (by omega), hbx, hK, o0, hH⟩
        · refine wp_new (some 18) rfl (exec_alloc_scheme rfl) (fun w42 nn => ?_)
          have b42 := nn.below (Below.refl _ _) (Nat.le_refl _)
          have z42 : w39.heap.size ≤ w42.heap.size := size_after (Nat.le_refl _) b42
          replace hK := hK.after b42
          replace o0 := o0.below b42
          replace hH := hH.below b42
          replace h38 := h38.after b42
          have hbx : At w42 w39.heap.size (.cells #[.int .i64 0, .int .i64 0, .int .i64 0, .int .i64 0, .slice none 0 0] 28 (0, 0)) := nn.at_
          have lbx := hbx.lt
          clear b42 nn
          refine hK' _ _ hK.box ?_
          clear hK' K'
          go_frame
          refine held_oper 6 (by kernel_rfl) rfl rfl (fun K' hK' => ?_)
          refine wp_call4 (some 94) rfl 18 _ _ _ _ _ rfl (fun args w => by kernel_rfl) _ _ _ _ rfl rfl rfl rfl _ (HIm.out _ _ (Rd.of_at h38 hr_x.good)) (fun e w43 h => ?_)
          obtain ⟨v43, rfl, o2, b43⟩ := h
          have z43 : w42.heap.size ≤ w43.heap.size := size_after (Nat.le_refl _) b43
          replace hK := hK.after b43
          replace o0 := o0.below b43
          replace hH := hH.below b43
          replace h38 := h38.after b43
          replace hbx := hbx.after b43
          clear b43
          clear h38
          replace o2 := o2.mono (Nat.le_refl _)
          have io2 := o2.inn
          obtain ⟨A2, c2, rfl, _⟩ := o2.rd Hrb.out
          refine ⟨_, rfl, hK' _ _ hK.box ?_⟩
          clear hK' K'
          go_frame
          refine held_yield 7 (some 87) (.tuple #[.agg #[.int .i64 rp, .int .i64 rn, .int .i64 rm, .int .i64 rk, .slice A2 rs.length c2], .int .i64 code]) rfl (by kernel_rfl) (by kernel_rfl) (by kernel_rfl) (fun _ _ _ h => h) rfl rfl hK.box (fun w' h' => exec_move _ rfl (.tuple #[.agg #[.int .i64 rp, .int .i64 rn, .int .i64 rm, .int .i64 rk, .slice A2 rs.length c2], .int .i64 code]) rfl) ?_
          go_frame
          refine held_yield 8 (some 95) (.agg #[.int .i64 rp, .int .i64 rn, .int .i64 rm, .int .i64 rk, .slice A2 rs.length c2]) rfl (by kernel_rfl) (by kernel_rfl) (by kernel_rfl) (fun _ _ _ h => h) rfl rfl hK.box (fun w' h' => exec_extract _ 0 rfl #[.agg #[.int .i64 rp, .int .i64 rn, .int .i64 rm, .int .i64 rk, .slice A2 rs.length c2], .int .i64 code] rfl (.agg #[.int .i64 rp, .int .i64 rn, .int .i64 rm, .int .i64 rk, .slice A2 rs.length c2]) rfl) ?_
          go_frame
          refine held_yield 9 (some 96) (.int .i64 code) rfl (by kernel_rfl) (by kernel_rfl) (by kernel_rfl) (fun _ _ _ h => h) rfl rfl hK.box (fun w' h' => exec_extract _ 1 rfl #[.agg #[.int .i64 rp, .int .i64 rn, .int .i64 rm, .int .i64 rk, .slice A2 rs.length c2], .int .i64 code] rfl (.int .i64 code) rfl) ?_
          go_frame
          have nb := o2.off hbx (by decide)
          have nb_o0 := o0.off hbx (by decide)
          refine held_oper 11 (by kernel_rfl) rfl rfl (fun K' hK' => ?_)
          refine wp_store_all 28 _ _ rfl rfl (w39.heap.size) rfl _ rfl _ _ hbx 5 (by kernel_rfl) rfl rfl (one5 _ _ _ _ _ _ _) (fun ws ps => ?_)
          replace hK : KA w [(bb1, .cells #[.int .i64 rp, .int .i64 rn, .int .i64 rm, .int .i64 rk, .slice A1 rs.length c1] 28 (0, 0)), (w17.heap.size, .cells #[.int .i64 xp, .int .i64 xn, .int .i64 xm, .int .i64 xk, .slice (some ⟨g17, 0, none⟩) xq.length xq.length] 28 (0, 0)), (bb0, .cells #[.int .i64 rp, .int .i64 rn, .int .i64 rm, .int .i64 rk, .slice A0 rs.length c0] 28 (0, 0)), (w.heap.size, .cells #[.int .i64 xp, .int .i64 xn, .int .i64 xm, .int .i64 xk, .slice xA xq.length xc] 24 (0, 0)), ((w.heap.size + 1), .cells (u8s form) 37 (0, 0))] ws := ⟨ps.below hK.below (by omega), by intro b hb; have hx := hK.box b hb; simp only [List.mem_cons, List.not_mem_nil, or_false] at hb; rcases hb with rfl | rfl | rfl | rfl | rfl <;> exact ps.other hx (by dsimp only; omega)⟩
          replace o0 := o0.put ps nb_o0
          replace hH := hH.put ps (fun e => by have := ihH _ e.symm; omega)
          replace o2 := o2.put ps nb
          replace hbx := ps.at_
          replace lbx := hbx.lt
          refine hK' _ _ hK.box ?_
          clear hK' K' ps
          refine held_yield 12 (some 19) (.int .i64 code) rfl (by kernel_rfl) (by kernel_rfl) (by kernel_rfl) (fun _ _ _ h => h) rfl rfl hK.box (fun w' h' => exec_assign _ rfl (.int .i64 code) rfl) ?_
          go_frame
          refine wpAnyH_done (by kernel_rfl) ?_ _
          go_wp2_with fail
          go_meet
          exact ⟨_, _, _, rfl, rfl, by omega, lbx, o2.mono (by omega), hbx, hK, o0, hH⟩
      · refine wp_new (some 18) rfl (exec_alloc_scheme rfl) (fun w44 nn => ?_)
        have b44 := nn.below (Below.refl _ _) (Nat.le_refl _)
        have z44 : w38.heap.size ≤ w44.heap.size := size_after (Nat.le_refl _) b44
        replace hK := hK.after b44
        replace o0 := o0.below b44
        replace hH := hH.below b44
        replace h38 := h38.after b44
        have hbx : At w44 w38.heap.size (.cells #[.int .i64 0, .int .i64 0, .int .i64 0, .int .i64 0, .slice none 0 0] 28 (0, 0)) := nn.at_
        have lbx := hbx.lt
        clear b44 nn
        refine hK' _ _ hK.box ?_
        clear hK' K'
        go_frame
        refine held_oper 5 (by kernel_rfl) rfl rfl (fun K' hK' => ?_)
        refine wp_call1 (some 93) rfl 17 _ _ rfl (fun args w => by kernel_rfl) _ rfl _ (toForm_c form hb_form _) (fun e w45 h => ?_)
        obtain ⟨rfl, b45⟩ := h
        have z45 : w44.heap.size ≤ w45.heap.size := size_after (Nat.le_refl _) b45
        replace hK := hK.after b45
        replace o0 := o0.below b45
        replace hH := hH.below b45
        replace h38 := h38.after b45
        replace hbx := hbx.after b45
        clear b45
        refine ⟨_, rfl, hK' _ _ hK.box ?_⟩
        clear hK' K'
        go_frame
        refine held_oper 6 (by kernel_rfl) rfl rfl (fun K' hK' => ?_)
        refine wp_call4 (some 94) rfl 18 _ _ _ _ _ rfl (fun args w => by kernel_rfl) _ _ _ _ rfl rfl rfl rfl _ (HIm.out _ _ (Rd.of_at h38 hr_x.good)) (fun e w46 h => ?_)
        obtain ⟨v46, rfl, o2, b46⟩ := h
        have z46 : w45.heap.size ≤ w46.heap.size := size_after (Nat.le_refl _) b46
        replace hK := hK.after b46
        replace o0 := o0.below b46
        replace hH := hH.below b46
        replace h38 := h38.after b46
        replace hbx := hbx.after b46
        clear b46
        clear h38
        replace o2 := o2.mono (Nat.le_refl _)
        have io2 := o2.inn
        obtain ⟨A2, c2, rfl, _⟩ := o2.rd Hrb.out
        refine ⟨_, rfl, hK' _ _ hK.box ?_⟩
        clear hK' K'
        go_frame
        refine held_yield 7 (some 87) (.tuple #[.agg #[.int .i64 rp, .int .i64 rn, .int .i64 rm, .int .i64 rk, .slice A2 rs.length c2], .int .i64 code]) rfl (by kernel_rfl) (by kernel_rfl) (by kernel_rfl) (fun _ _ _ h => h) rfl rfl hK.box (fun w' h' => exec_move _ rfl (.tuple #[.agg #[.int .i64 rp, .int .i64 rn, .int .i64 rm, .int .i64 rk, .slice A2 rs.length c2], .int .i64 code]) rfl) ?_
        go_frame
        refine held_yield 8 (some 95) (.agg #[.int .i64 rp, .int .i64 rn, .int .i64 rm, .int .i64 rk, .slice A2 rs.length c2]) rfl (by kernel_rfl) (by kernel_rfl) (by kernel_rfl) (fun _ _ _ h => h) rfl rfl hK.box (fun w' h' => exec_extract _ 0 rfl #[.agg #[.int .i64 rp, .int .i64 rn, .int .i64 rm, .int .i64 rk, .slice A2 rs.length c2], .int .i64 code] rfl (.agg #[.int .i64 rp, .int .i64 rn, .int .i64 rm, .int .i64 rk, .slice A2 rs.length c2]) rfl) ?_
        go_frame
        refine held_yield 9 (some 96) (.int .i64 code) rfl (by kernel_rfl) (by kernel_rfl) (by kernel_rfl) (fun _ _ _ h => h) rfl rfl hK.box (fun w' h' => exec_extract _ 1 rfl #[.agg #[.int .i64 rp, .int .i64 rn, .int .i64 rm, .int .i64 rk, .slice A2 rs.length c2], .int .i64 code] rfl (.int .i64 code) rfl) ?_
        go_frame
        have nb := o2.off hbx (by decide)
        have nb_o0 := o0.off hbx (by decide)
        refine held_oper 11 (by kernel_rfl) rfl rfl (fun K' hK' => ?_)
        refine wp_store_all 28 _ _ rfl rfl (w38.heap.size) rfl _ rfl _ _ hbx 5 (by kernel_rfl) rfl rfl (one5 _ _ _ _ _ _ _) (fun ws ps => ?_)
        replace hK : KA w [(bb1, .cells #[.int .i64 rp, .int .i64 rn, .int .i64 rm, .int .i64 rk, .slice A1 rs.length c1] 28 (0, 0)), (w17.heap.size, .cells #[.int .i64 xp, .int .i64 xn, .int .i64 xm, .int .i64 xk, .slice (some ⟨g17, 0, none⟩) xq.length xq.length] 28 (0, 0)), (bb0, .cells #[.int .i64 rp, .int .i64 rn, .int .i64 rm, .int .i64 rk, .slice A0 rs.length c0] 28 (0, 0)), (w.heap.size, .cells #[.int .i64 xp, .int .i64 xn, .int .i64 xm, .int .i64 xk, .slice xA xq.length xc] 24 (0, 0)), ((w.heap.size + 1), .cells (u8s form) 37 (0, 0))] ws := ⟨ps.below hK.below (by omega), by intro b hb; have hx := hK.box b hb; simp only [List.mem_cons, List.not_mem_nil, or_false] at hb; rcases hb with rfl | rfl | rfl | rfl | rfl <;> exact ps.other hx (by dsimp only; omega)⟩
        replace o0 := o0.put ps nb_o0
        replace hH := hH.put ps (fun e => by have := ihH _ e.symm; omega)
        replace o2 := o2.put ps nb
        replace hbx := ps.at_
        replace lbx := hbx.lt
        refine hK' _ _ hK.box ?_
        clear hK' K' ps
        refine held_yield 12 (some 19) (.int .i64 code) rfl (by kernel_rfl) (by kernel_rfl) (by kernel_rfl) (fun _ _ _ h => h) rfl rfl hK.box (fun w' h' => exec_assign _ rfl (.int .i64 code) rfl) ?_
        go_frame
        refine wpAnyH_done (by kernel_rfl) ?_ _
        go_wp2_with fail
        go_meet
        exact ⟨_, _, _, rfl, rfl, by omega, lbx, o2.mono (by omega), hbx, hK, o0, hH⟩
    · refine wp_new (some 18) rfl (exec_alloc_scheme rfl) (fun w47 nn => ?_)
      have b47 := nn.below (Below.refl _ _) (Nat.le_refl _)
      have z47 : w37.heap.size ≤ w47.heap.size := size_after (Nat.le_refl _) b47
      replace hK := hK.after b47
      replace o0 := o0.below b47
      replace hH := hH.below b47
      have hbx : At w47 w37.heap.size (.cells #[.int .i64 0, .int .i64 0, .int .i64 0, .int .i64 0, .slice none 0 0] 28 (0, 0)) := nn.at_
      have lbx := hbx.lt
      clear b47 nn
      refine hK' _ _ hK.box ?_
      clear hK' K'
      go_frame
      refine held_oper 1 (by kernel_rfl) rfl rfl (fun K' hK' => ?_)
      refine wp_call1 (some 89) rfl 9 _ _ rfl (fun args w => by kernel_rfl) _ rfl _ (toScheme_c xp xn xm xk xA xc xq _ (hr_x.keep hK.below) t_x) (fun e w48 h => ?_)
      obtain ⟨g48, rfl, hg48, h48, b48⟩ := h
      have z48 : w47.heap.size ≤ w48.heap.size := size_after (Nat.le_refl _) b48
      replace hK := hK.after b48
      replace o0 := o0.below b48
      replace hH := hH.below b48
      replace hbx := hbx.after b48
      clear b48
      replace hg48 := Nat.le_trans (Nat.le_refl _) hg48
      refine ⟨_, rfl, hK' _ _ hK.box ?_⟩
      clear hK' K'
      go_frame
      refine held_oper 5 (by kernel_rfl) rfl rfl (fun K' hK' => ?_)
      refine wp_call1 (some 93) rfl 17 _ _ rfl (fun args w => by kernel_rfl) _ rfl _ (toForm_c form hb_form _) (fun e w49 h => ?_)
      obtain ⟨rfl, b49⟩ := h
      have z49 : w48.heap.size ≤ w49.heap.size := size_after (Nat.le_refl _) b49
      replace hK := hK.after b49
      replace o0 := o0.below b49
      replace hH := hH.below b49
      replace hbx := hbx.after b49
      replace h48 := h48.after b49
      clear b49
      refine ⟨_, rfl, hK' _ _ hK.box ?_⟩
      clear hK' K'
      go_frame
      refine held_oper 6 (by kernel_rfl) rfl rfl (fun K' hK' => ?_)
      refine wp_call4 (some 94) rfl 18 _ _ _ _ _ rfl (fun args w => by kernel_rfl) _ _ _ _ rfl rfl rfl rfl _ (HIm.out _ _ (Rd.of_at h48 hr_x.good)) (fun e w50 h => ?_)
      obtain ⟨v50, rfl, o2, b50⟩ := h
      have z50 : w49.heap.size ≤ w50.heap.size := size_after (Nat.le_refl _) b50
      replace hK := hK.after b50
      replace o0 := o0.below b50
      replace hH := hH.below b50
      replace hbx := hbx.after b50
      replace h48 := h48.after b50
      clear b50
      clear h48
      replace o2 := o2.mono (Nat.le_refl _)
      have io2 := o2.inn
      obtain ⟨A2, c2, rfl, _⟩ := o2.rd Hrb.out
      refine ⟨_, rfl, hK' _ _ hK.box ?_⟩
      clear hK' K'
      go_frame
      refine held_yield 7 (some 87) (.tuple #[.agg #[.int .i64 rp, .int .i64 rn, .int .i64 rm, .int .i64 rk, .slice A2 rs.length c2], .int .i64 code]) rfl (by kernel_rfl) (by kernel_rfl) (by kernel_rfl) (fun _ _ _ h => h) rfl rfl hK.box (fun w' h' => exec_move _ rfl (.tuple #[.agg #[.int .i64 rp, .int .i64 rn, .int .i64 rm, .int .i64 rk, .slice A2 rs.length c2], .int .i64 code]) rfl) ?_
      go_frame
      refine held_yield 8 (some 95) (.agg #[.int .i64 rp, .int .i64 rn, .int .i64 rm, .int .i64 rk, .slice A2 rs.length c2]) rfl (by kernel_rfl) (by kernel_rfl) (by kernel_rfl) (fun _ _ _ h => h) rfl rfl hK.box (fun w' h' => exec_extract _ 0 rfl #[.agg #[.int .i64 rp, .int .i64 rn, .int .i64 rm, .int .i64 rk, .slice A2 rs.length c2], .int .i64 code] rfl (.agg #[.int .i64 rp, .int .i64 rn, .int .i64 rm, .int .i64 rk, .slice A2 rs.length c2]) rfl) ?_
      go_frame
      refine held_yield 9 (some 96) (.int .i64 code) rfl (by kernel_rfl) (by kernel_rfl) (by kernel_rfl) (fun _ _ _ h => h) rfl rfl hK.box (fun w' h' => exec_extract _ 1 rfl #[.agg #[.int .i64 rp, .int .i64 rn, .int .i64 rm, .int .i64 rk, .slice A2 rs.length c2], .int .i64 code] rfl (.int .i64 code) rfl) ?_
      go_frame
      have nb := o2.off hbx (by decide)
      have nb_o0 := o0.off hbx (by decide)
      refine held_oper 11 (by kernel_rfl) rfl rfl (fun K' hK' => ?_)
      refine wp_store_all 28 _ _ rfl rfl (w37.heap.size) rfl _ rfl _ _ hbx 5 (by kernel_rfl) rfl rfl (one5 _ _ _ _ _ _ _) (fun ws ps => ?_)
      replace hK : KA w [(bb1, .cells #[.int .i64 rp, .int .i64 rn, .int .i64 rm, .int .i64 rk, .slice A1 rs.length c1] 28 (0, 0)), (w17.heap.size, .cells #[.int .i64 xp, .int .i64 xn, .int .i64 xm, .int .i64 xk, .slice (some ⟨g17, 0, none⟩) xq.length xq.length] 28 (0, 0)), (bb0, .cells #[.int .i64 rp, .int .i64 rn, .int .i64 rm, .int .i64 rk, .slice A0 rs.length c0] 28 (0, 0)), (w.heap.size, .cells #[.int .i64 xp, .int .i64 xn, .int .i64 xm, .int .i64 xk, .slice xA xq.length xc] 24 (0, 0)), ((w.heap.size + 1), .cells (u8s form) 37 (0, 0))] ws := ⟨ps.below hK.below (by omega), by intro b hb; have hx := hK.box b hb; simp only [List.mem_cons, List.not_mem_nil, or_false] at hb; rcases hb with rfl | rfl | rfl | rfl | rfl <;> exact ps.other hx (by dsimp only; omega)⟩
      replace o0 := o0.put ps nb_o0
      replace hH := hH.put ps (fun e => by have := ihH _ e.symm; omega)
      replace o2 := o2.put ps nb
      replace hbx := ps.at_
      replace lbx := hbx.lt
      refine hK' _ _ hK.box ?_
      clear hK' K' ps
      refine held_yield 12 (some 19) (.int .i64 code) rfl (by kernel_rfl) (by kernel_rfl) (by kernel_rfl) (fun _ _ _ h => h) rfl rfl hK.box (fun w' h' => exec_assign _ rfl (.int .i64 code) rfl) ?_
      go_frame
      refine wpAnyH_done (by kernel_rfl) ?_ _
      go_wp2_with fail
      go_meet
      exact ⟨_, _, _, rfl, rfl, by omega, lbx, o2.mono (by omega), hbx, hK, o0, hH⟩
  case rest =>
  clear hK o0 hH
  obtain ⟨bb2, A2, c2, rfl, rfl, hb2, lb2, o2, hbx, hK, o0, hH⟩ := hcut
  obtain ⟨w51, rfl⟩ := ka_world hK
  replace hK : KA w [(bb2, .cells #[.int .i64 rp, .int .i64 rn, .int .i64 rm, .int .i64 rk, .slice A2 rs.length c2] 28 (0, 0)), (bb1, .cells #[.int .i64 rp, .int .i64 rn, .int .i64 rm, .int .i64 rk, .slice A1 rs.length c1] 28 (0, 0)), (w17.heap.size, .cells #[.int .i64 xp, .int .i64 xn, .int .i64 xm, .int .i64 xk, .slice (some ⟨g17, 0, none⟩) xq.length xq.length] 28 (0, 0)), (bb0, .cells #[.int .i64 rp, .int .i64 rn, .int .i64 rm, .int .i64 rk, .slice A0 rs.length c0] 28 (0, 0)), (w.heap.size, .cells #[.int .i64 xp, .int .i64 xn, .int .i64 xm, .int .i64 xk, .slice xA xq.length xc] 24 (0, 0)), ((w.heap.size + 1), .cells (u8s form) 37 (0, 0))] w51 := hK.more hbx
  clear hbx
  have io2 := o2.inn
  have z51 : w36.heap.size ≤ w51.heap.size := by omega
  go_wp2_with (first | (refine wpList_load_all rfl 28 _ rfl bb2 rfl _ _ _ (by exact (hK.box (bb2, .cells #[.int .i64 rp, .int .i64 rn, .int .i64 rm, .int .i64 rk, .slice A2 rs.length c2] 28 (0, 0)) (by simp))) Try.underlying28 rfl 5 (by kernel_rfl) rfl ?_) | (refine wpList_load_all rfl 28 _ rfl bb0 rfl _ _ _ (by exact (hK.box (bb0, .cells #[.int .i64 rp, .int .i64 rn, .int .i64 rm, .int .i64 rk, .slice A0 rs.length c0] 28 (0, 0)) (by simp))) Try.underlying28 rfl 5 (by kernel_rfl) rfl ?_))
  refine (eqScheme_c rp rn rm rk _ _ _ _ rs _ (o2.rd' Hrb.out) (o0.rd' Hrb.out) (by omega)).mono ?_
  rintro e w52 ⟨rfl, b52⟩
  have z52 : w51.heap.size ≤ w52.heap.size := size_after (Nat.le_refl _) b52
  replace hK := hK.after b52
  replace o0 := o0.below b52
  replace hH := hH.below b52
  replace o2 := o2.below b52
  clear b52
  clear o2 o0
  go_wp2_with (refine wpList_load_all rfl 28 _ rfl bb1 rfl _ _ _ (by exact (hK.box (bb1, .cells #[.int .i64 rp, .int .i64 rn, .int .i64 rm, .int .i64 rk, .slice A1 rs.length c1] 28 (0, 0)) (by simp))) Try.underlying28 rfl 5 (by kernel_rfl) rfl ?_)
  refine (heldScheme_1 rp rn rm rk _ s1 hH hrl).mono ?_
  rintro e w53 ⟨rfl, b53⟩
  have z53 : w52.heap.size ≤ w53.heap.size := size_after (Nat.le_refl _) b53
  replace hK := hK.after b53
  replace hH := hH.below b53
  clear b53
  go_wp2_with fail
  go_ret
  exact ⟨rfl, hK.below⟩
end Go.Proofs.Ytbgoopmmdbhogaa
