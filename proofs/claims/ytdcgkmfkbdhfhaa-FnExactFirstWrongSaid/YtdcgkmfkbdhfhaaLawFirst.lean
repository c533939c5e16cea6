/-
  laws.FnExactFirstWrong: the walk: it returns true and writes nothing that was there.
-/
import Derived.Test.YtdcgkmfkbdhfhaaLawKit
import Derived.Test.YtdcgkmfkbdhfhaaFst4
namespace Go.Proofs.Ytdcgkmfkbdhfhaa
open Go.RowKit
set_option maxRecDepth 100000
set_option maxHeartbeats 1600000 in
theorem lawFirstWrong_walk (p n m k : Int) (A : Option Addr) (c : Nat) (qs : List (List Nat)) (w : World) (hr : Rd w A qs) (hn : qs.length ≤ 9223372036854775807) :
    Calls Try.prog 7 #[.agg #[.int .i64 p, .int .i64 n, .int .i64 m, .int .i64 k, .slice A qs.length c]] w fun e w' => e = .returned (.bool true) ∧ Below w.heap.size w w' := by
  by_cases hbig : (1048576 : Int) < (qs.length : Int)
  · have HS := Lib.hid (fun w => szScheme_c p n m k A qs.length c 1048576 w (by omega) hn (by omega))
    simp only [if_pos hbig] at HS
    go_enter Try.func7, Try.ntmps7
    go_wp2_with fail
    refine (HS.out _).mono ?_
    rintro e w1 ⟨rfl, b1⟩
    have hB := below_after (below1 _ _) b1
    go_wp2_with fail
    go_ret
    exact ⟨rfl, hB⟩
  · have hlen : qs.length ≤ 1048576 := by omega
    have HS := Lib.hid (fun w => szScheme_c p n m k A qs.length c 1048576 w (by omega) hn (by omega))
    simp only [if_neg hbig] at HS
    have h0' : ¬ (1048576 : Int) - (qs.length : Int) < 0 := by omega
    have hxl := fwXs_len p n m k qs
    have HSp := Lib.hid (fun A cap w h => specFirstWrong_c p n m k A cap qs w h hlen)
    have HIm := Lib.hid (fun A cap w h => implFirstWrong_c p n m k A cap qs w h hlen)
    generalize fwXs p n m k qs = xs at *
    generalize fwCode p n m k qs = code at *
    have hcode : (code != code) = false := by simp
    clear hbig
    go_enter Try.func7, Try.ntmps7
    go_wp2_with fail
    refine (HS.out _).mono ?_
    rintro e w1 ⟨rfl, b1⟩
    have hB := below_after (below1 _ _) b1
    have ha := At.after (al1_0 _ _) b1
    clear b1 HS
    go_wp2_with (refine wpList_load_all rfl 24 _ rfl w.heap.size rfl _ _ _ ha Try.underlying24 rfl 5 (by kernel_rfl) rfl ?_)
    refine (toScheme_c p n m k A c qs _ (hr.keep hB) hlen).mono ?_
    rintro e w2 ⟨g2, rfl, hg2, hA2, b2⟩
    replace hB := below_after hB b2
    replace ha := ha.after b2
    clear b2
    go_wp2_with fail
    refine (HSp.out _ _ _ (Rd.of_at hA2 hr.good)).mono ?_
    rintro e w3 ⟨v0, rfl, o0, b3⟩
    have hl0 := hB.size
    replace hB := below_after hB b3
    replace ha := ha.after b3
    clear b3 hA2 hg2
    obtain ⟨A0, c0, rfl, _⟩ := o0.rd
    go_wp2_with (refine wpList_load_all rfl 24 _ rfl w.heap.size rfl _ _ _ ha Try.underlying24 rfl 5 (by kernel_rfl) rfl ?_)
    refine (toScheme_c p n m k A c qs _ (hr.keep hB) hlen).mono ?_
    rintro e w4 ⟨gx, rfl, hgx, hAx, b4⟩
    have hl3 := hB.size
    have ox : Own w4 w3.heap.size (.slice (some ⟨gx, 0, none⟩) qs.length qs.length) qs := Own.of_at hAx hr.len hgx hlen
    have hL : KL w p n m k A c qs w4.heap.size gx (w4.alloc (.cells #[.int .i64 p, .int .i64 n, .int .i64 m, .int .i64 k, .slice (some ⟨gx, 0, none⟩) qs.length qs.length] 30 (0, 0))) :=
      ⟨below_after (below_after hB b4) (below1 _ _), (ha.after b4).after (below1 _ _), al1_0 _ _, by omega⟩
    replace o0 := (o0.below b4).below (below1 w4 (.cells #[.int .i64 p, .int .i64 n, .int .i64 m, .int .i64 k, .slice (some ⟨gx, 0, none⟩) qs.length qs.length] 30 (0, 0)))
    replace ox := ox.below (below1 w4 (.cells #[.int .i64 p, .int .i64 n, .int .i64 m, .int .i64 k, .slice (some ⟨gx, 0, none⟩) qs.length qs.length] 30 (0, 0)))
    clear b4 hB ha hAx
    go_wp2_with (refine wpList_load_all rfl 30 _ rfl w4.heap.size rfl _ _ _ (by exact hL.bb) Try.underlying30 rfl 5 (by kernel_rfl) rfl ?_)
    refine (HIm.out _ _ _ (ox.rd' hr.good)).mono ?_
    rintro e w5 ⟨v1, rfl, o1, b5⟩
    have n01 := OwnI.ne o0 o1 (Nat.le_refl _)
    have l1 := hL.below.size
    replace o0 := o0.below b5
    replace ox := ox.below b5
    replace hL := hL.after b5
    clear b5
    obtain ⟨A1, c1, rfl, _⟩ := o1.rd
    go_wp2_with fail
    refine (eqInt64S_c _ _ _ _ xs _ o1.rd' o0.rd' (by omega)).mono ?_
    rintro e w6 ⟨rfl, b6⟩
    replace o0 := o0.below b6
    replace o1 := o1.below b6
    replace ox := ox.below b6
    replace hL := hL.after b6
    clear b6
    go_wp2_with fail
    refine wp_region_held (S := fun w' => At w' w.heap.size (.cells #[.int .i64 p, .int .i64 n, .int .i64 m, .int .i64 k, .slice A qs.length c] 24 (0, 0)) ∧ At w' w4.heap.size (.cells #[.int .i64 p, .int .i64 n, .int .i64 m, .int .i64 k, .slice (some ⟨gx, 0, none⟩) qs.length qs.length] 30 (0, 0))) (by kernel_rfl) ?_
    change wpAnyH _ _ _ _ _ _ _ _ w6.drew
    replace o0 : OwnI w6.drew _ _ _ := o0
    replace o1 : OwnI w6.drew _ _ _ := o1
    replace ox : Own w6.drew _ _ _ := ox
    replace hL := hL.drew
    generalize w6.drew = wd at *
    refine held_yield 0 (some 41) (.agg #[.int .i64 p, .int .i64 n, .int .i64 m, .int .i64 k, .slice (some ⟨gx, 0, none⟩) qs.length qs.length]) rfl (by kernel_rfl) (by kernel_rfl) (by kernel_rfl) (fun _ _ _ h => h) rfl rfl ⟨hL.ba, hL.bb⟩ (fun w' h' => exec_load_all 30 _ rfl w4.heap.size rfl _ _ _ h'.2 Try.underlying30 rfl 5 (by kernel_rfl) rfl) ?_
    go_frame
    refine held_yield 1 (some 42) (.agg #[.int .i64 p, .int .i64 n, .int .i64 m, .int .i64 k, .slice A qs.length c]) rfl (by kernel_rfl) (by kernel_rfl) (by kernel_rfl) (fun _ _ _ h => h) rfl rfl ⟨hL.ba, hL.bb⟩ (fun w' h' => exec_load_all 24 _ rfl w.heap.size rfl _ _ _ h'.1 Try.underlying24 rfl 5 (by kernel_rfl) rfl) ?_
    go_frame
    refine held_oper 2 (by kernel_rfl) rfl rfl (fun K' hK' => ?_)
    refine wp_call1 (some 43) rfl 10 _ _ rfl call_toScheme (.agg #[.int .i64 p, .int .i64 n, .int .i64 m, .int .i64 k, .slice A qs.length c]) rfl _ (toScheme_c p n m k A c qs _ (hr.keep hL.below) hlen) (fun e w7 h => ?_)
    obtain ⟨g7, rfl, hg7, hA7, b7⟩ := h
    replace o0 := o0.below b7
    replace o1 := o1.below b7
    replace ox := ox.below b7
    replace hL := hL.after b7
    refine ⟨_, rfl, hK' _ _ ⟨hL.ba, hL.bb⟩ ?_⟩
    clear hK' K' b7
    go_frame
    refine held_oper 3 (by kernel_rfl) rfl rfl (fun K' hK' => ?_)
    refine wp_call2 (some 44) rfl 12 _ _ _ rfl call_eqScheme _ _ rfl rfl _ (eqScheme_c p n m k _ _ _ _ qs _ (ox.rd' hr.good) (Rd.of_at hA7 hr.good) (by omega)) (fun e w8 h => ?_)
    obtain ⟨rfl, b8⟩ := h
    replace o0 := o0.below b8
    replace o1 := o1.below b8
    replace ox := ox.below b8
    replace hL := hL.after b8
    refine ⟨_, rfl, hK' _ _ ⟨hL.ba, hL.bb⟩ ?_⟩
    clear hK' K' b8 hA7 hg7
    go_frame
    refine held_exec 4 (some 45) (.bool false) (by kernel_rfl) rfl rfl rfl (exec_not 4 _ rfl true rfl) ⟨hL.ba, hL.bb⟩ ?_
    go_frame
    refine wpAnyH_done (by kernel_rfl) ?_ _
    go_wp2_with (refine wpList_load_all rfl 30 _ rfl w4.heap.size rfl _ _ _ (by exact hL.bb) Try.underlying30 rfl 5 (by kernel_rfl) rfl ?_)
    refine (markScheme_1 p n m k _ ox hlen).mono ?_
    rintro e w9 ⟨rfl, hG, _⟩
    replace hL := hL.grown ox hl3 hG
    replace o1 := o1.grown hG (o1.apart ox)
    replace o0 := o0.grown hG (o0.apart ox)
    have hneg : ¬ (1 : Int) + (qs.length : Int) * 27 < 0 := by omega
    have hneg2 : ¬ (1 : Int) + (xs.length : Int) < 0 := by omega
    clear hG ox
    go_wp2_with fail
    refine (eqInt64S_c _ _ _ _ xs _ o1.rd' o0.rd' (by omega)).mono ?_
    rintro e w10 ⟨rfl, b10⟩
    replace o0 := o0.below b10
    replace o1 := o1.below b10
    replace hL := hL.after b10
    clear b10
    go_wp2_with fail
    refine (markInt64S_1 _ o1 (by omega)).mono ?_
    rintro e w11 ⟨rfl, hG, hH⟩
    replace hL := hL.grownI o1 l1 hG
    replace o0 := o0.grown hG n01
    have s1 := o1.shp
    clear hG o1
    go_wp2_with fail
    refine (heldInt64S_1 _ s1 hH (by omega)).mono ?_
    rintro e w12 ⟨rfl, rfl⟩
    go_wp2_with (refine wpList_load_all rfl 24 _ rfl w.heap.size rfl _ _ _ (by exact hL.ba) Try.underlying24 rfl 5 (by kernel_rfl) rfl ?_)
    refine (toScheme_c p n m k A c qs _ (hr.keep hL.below) hlen).mono ?_
    rintro e w13 ⟨g13, rfl, hg13, hA13, b13⟩
    replace o0 := o0.below b13
    replace hH := hH.below b13
    replace hL := hL.after b13
    clear b13
    go_wp2_with fail
    refine (HIm.out _ _ _ (Rd.of_at hA13 hr.good)).mono ?_
    rintro e w14 ⟨v2, rfl, o2, b14⟩
    replace o0 := o0.below b14
    replace hH := hH.below b14
    replace hL := hL.after b14
    clear b14 hA13 hg13
    obtain ⟨A2, c2, rfl, _⟩ := o2.rd
    go_wp2_with fail
    refine (eqInt64S_c _ _ _ _ xs _ o2.rd' o0.rd' (by omega)).mono ?_
    rintro e w15 ⟨rfl, b15⟩
    replace hH := hH.below b15
    replace hL := hL.after b15
    clear b15 o0 o2
    go_wp2_with fail
    refine (heldInt64S_1 _ s1 hH (by omega)).mono ?_
    rintro e w16 ⟨rfl, rfl⟩
    go_wp2_with fail
    go_ret
    exact ⟨rfl, hL.below⟩
end Go.Proofs.Ytdcgkmfkbdhfhaa
