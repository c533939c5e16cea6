/-
  laws.FnExactWithoutProduct: the walk: it returns true and writes nothing that was there.
-/
import Derived.Test.YtpoekhpchhmkaaaLK1
import Derived.Test.YtpoekhpchhmkaaaWo3
namespace Go.Proofs.Ytpoekhpchhmkaaa
open Go.RowKit
set_option maxRecDepth 100000
theorem call_specWithoutProduct (args : Array Value) (w : World) : (callFunc 15 args).run Try.prog w = .ok (.enter 15 args) w := by kernel_rfl
theorem call_implWithoutProduct (args : Array Value) (w : World) : (callFunc 16 args).run Try.prog w = .ok (.enter 16 args) w := by kernel_rfl
set_option maxHeartbeats 3200000 in
theorem lawWithoutProduct_walk (p n m k : Int) (A : Option Addr) (c : Nat) (qs : List (List Nat)) (i : Int) (rp rn rm rk code : Int) (rs : List (List Nat)) (w : World) (hr : Rd w A qs) (hn : qs.length ≤ 9223372036854775807) (hrb : ∀ r ∈ rs, Bytes 27 r) (hrl : rs.length ≤ 1048576)
    (hS : qs.length ≤ 1048576 → ∀ (g : Nat) (w : World), Rd w (some ⟨g, 0, none⟩) qs → Calls Try.prog 15 #[.agg #[.int .i64 p, .int .i64 n, .int .i64 m, .int .i64 k, .slice (some ⟨g, 0, none⟩) qs.length qs.length], .int .i64 i] w (ResS w rp rn rm rk rs code))
    (hI : qs.length ≤ 1048576 → ∀ (g : Nat) (w : World), Rd w (some ⟨g, 0, none⟩) qs → Calls Try.prog 16 #[.agg #[.int .i64 p, .int .i64 n, .int .i64 m, .int .i64 k, .slice (some ⟨g, 0, none⟩) qs.length qs.length], .int .i64 i] w (ResS w rp rn rm rk rs code)) :
    Calls Try.prog 4 #[.agg #[.int .i64 p, .int .i64 n, .int .i64 m, .int .i64 k, .slice A qs.length c], .int .i64 i] w fun e w' => e = .returned (.bool true) ∧ Below w.heap.size w w' := by
  by_cases hbig : (1048576 : Int) < (qs.length : Int)
  · have HS := Lib.hid (fun w => szScheme_c p n m k A qs.length c 1048576 w (by omega) hn (by omega))
    simp only [if_pos hbig] at HS
    go_enter Try.func4, Try.ntmps4
    go_wp2_with fail
    refine (HS.out _).mono ?_
    rintro e w1 ⟨rfl, b1⟩
    have hB := below_after (below1 _ _) b1
    go_wp2_with fail
    go_ret
    exact ⟨rfl, hB⟩
  · have hlen : qs.length ≤ 1048576 := by omega
    have HS := Lib.hid (fun w => szScheme_c p n m k A qs.length c 1048576 w (by omega) hn (by omega))
    simp only [if_neg hbig] at HS
    have h0' : ¬ (1048576 : Int) - (qs.length : Int) < 0 := by omega
    have HSp := Lib.hid (hS hlen)
    have HIm := Lib.hid (hI hlen)
    have Hrb := Lib.hid hrb
    have hcode : (code != code) = false := by simp
    clear hbig hS hI hrb
    go_enter Try.func4, Try.ntmps4
    go_wp2_with fail
    refine (HS.out _).mono ?_
    rintro e w1 ⟨rfl, b1⟩
    have hK : KA w [(w.heap.size, .cells #[.int .i64 p, .int .i64 n, .int .i64 m, .int .i64 k, .slice A qs.length c] 24 (0, 0))] w1 := KA.after ⟨below1 _ _, by intro b hb; simp only [List.mem_cons, List.not_mem_nil, or_false] at hb; subst hb; exact al1_0 _ _⟩ b1
    clear b1 HS
    go_wp2_with (refine wpList_load_all rfl 24 _ rfl w.heap.size rfl _ _ _ (by exact (hK.box (w.heap.size, .cells #[.int .i64 p, .int .i64 n, .int .i64 m, .int .i64 k, .slice A qs.length c] 24 (0, 0)) (by simp))) Try.underlying24 rfl 5 (by kernel_rfl) rfl ?_)
    refine (toScheme_c p n m k A c qs _ (hr.keep hK.below) hlen).mono ?_
    rintro e w2 ⟨gs, rfl, hgs, hAs, b2⟩
    replace hK := hK.after b2
    clear b2
    go_wp2_with fail
    refine (HSp.out _ _ (Rd.of_at hAs hr.good)).mono ?_
    rintro e w3 ⟨v0, rfl, o0, b3⟩
    replace o0 := o0.mono hK.below.size
    replace hK := hK.after b3
    obtain ⟨A0, c0, rfl, _⟩ := o0.rd Hrb.out
    clear hAs hgs b3
    have bz := below1 w3 (.cells #[.int .i64 rp, .int .i64 rn, .int .i64 rm, .int .i64 rk, .slice A0 rs.length c0] 31 (0, 0))
    replace hK := hK.after bz
    replace o0 := o0.below bz
    have h6 : At (w3.alloc (.cells #[.int .i64 rp, .int .i64 rn, .int .i64 rm, .int .i64 rk, .slice A0 rs.length c0] 31 (0, 0))) w3.heap.size (.cells #[.int .i64 rp, .int .i64 rn, .int .i64 rm, .int .i64 rk, .slice A0 rs.length c0] 31 (0, 0)) := al1_0 _ _
    clear bz
    go_wp2_with (refine wpList_load_all rfl 24 _ rfl w.heap.size rfl _ _ _ (by exact (hK.box (w.heap.size, .cells #[.int .i64 p, .int .i64 n, .int .i64 m, .int .i64 k, .slice A qs.length c] 24 (0, 0)) (by simp))) Try.underlying24 rfl 5 (by kernel_rfl) rfl ?_)
    refine (toScheme_c p n m k A c qs _ (hr.keep hK.below) hlen).mono ?_
    rintro e w4 ⟨gx, rfl, hgx, hAx, b4⟩
    have hl3 := hK.below.size
    have ox0 := Own.of_at hAx hr.len hgx hlen
    have n0x := Own.ne o0 ox0 (Nat.le_refl _)
    have ox := ox0.mono hl3
    have bx := below1 w4 (.cells #[.int .i64 p, .int .i64 n, .int .i64 m, .int .i64 k, .slice (some ⟨gx, 0, none⟩) qs.length qs.length] 31 (0, 0))
    replace hK := (hK.after b4).after bx
    replace h6 := (h6.after b4).after bx
    replace o0 := (o0.below b4).below bx
    replace ox := ox.below bx
    have h8 := al1_0 w4 (.cells #[.int .i64 p, .int .i64 n, .int .i64 m, .int .i64 k, .slice (some ⟨gx, 0, none⟩) qs.length qs.length] 31 (0, 0))
    clear b4 hAx bx ox0
    replace hK : KA w [(w4.heap.size, .cells #[.int .i64 p, .int .i64 n, .int .i64 m, .int .i64 k, .slice (some ⟨gx, 0, none⟩) qs.length qs.length] 31 (0, 0)), (w.heap.size, .cells #[.int .i64 p, .int .i64 n, .int .i64 m, .int .i64 k, .slice A qs.length c] 24 (0, 0))] _ := hK.more h8
    go_wp2_with (refine wpList_load_all rfl 31 _ rfl w4.heap.size rfl _ _ _ (by exact (hK.box (w4.heap.size, .cells #[.int .i64 p, .int .i64 n, .int .i64 m, .int .i64 k, .slice (some ⟨gx, 0, none⟩) qs.length qs.length] 31 (0, 0)) (by simp))) Try.underlying31 rfl 5 (by kernel_rfl) rfl ?_)
    refine (HIm.out _ _ (ox.rd' hr.good)).mono ?_
    rintro e w5 ⟨v1, rfl, o1, b5⟩
    have n01 := Own.ne o0 o1 (Nat.le_refl _)
    have nx1 := Own.ne ox o1 (Nat.le_refl _)
    replace o1 := o1.mono hK.below.size
    replace hK := hK.after b5
    replace h6 := h6.after b5
    replace o0 := o0.below b5
    replace ox := ox.below b5
    obtain ⟨A1, c1, rfl, _⟩ := o1.rd Hrb.out
    have bz := below1 w5 (.cells #[.int .i64 rp, .int .i64 rn, .int .i64 rm, .int .i64 rk, .slice A1 rs.length c1] 31 (0, 0))
    replace hK := hK.after bz
    replace h6 := h6.after bz
    replace o0 := o0.below bz
    replace o1 := o1.below bz
    replace ox := ox.below bz
    have h9 : At (w5.alloc (.cells #[.int .i64 rp, .int .i64 rn, .int .i64 rm, .int .i64 rk, .slice A1 rs.length c1] 31 (0, 0))) w5.heap.size (.cells #[.int .i64 rp, .int .i64 rn, .int .i64 rm, .int .i64 rk, .slice A1 rs.length c1] 31 (0, 0)) := al1_0 _ _
    clear bz b5 h8
    go_wp2_with (first | (refine wpList_load_all rfl 31 _ rfl w5.heap.size rfl _ _ _ (by exact h9) Try.underlying31 rfl 5 (by kernel_rfl) rfl ?_) | (refine wpList_load_all rfl 31 _ rfl w3.heap.size rfl _ _ _ (by exact h6) Try.underlying31 rfl 5 (by kernel_rfl) rfl ?_))
    refine (eqScheme_c rp rn rm rk _ _ _ _ rs _ (o1.rd' Hrb.out) (o0.rd' Hrb.out) (by omega)).mono ?_
    rintro e w8 ⟨rfl, b8⟩
    replace hK := hK.after b8
    replace h6 := h6.after b8
    replace h9 := h9.after b8
    replace o0 := o0.below b8
    replace o1 := o1.below b8
    replace ox := ox.below b8
    clear b8
    go_wp2_with fail
    refine wp_region_held (S := fun w' => ∀ b ∈ ([(w4.heap.size, .cells #[.int .i64 p, .int .i64 n, .int .i64 m, .int .i64 k, .slice (some ⟨gx, 0, none⟩) qs.length qs.length] 31 (0, 0)), (w.heap.size, .cells #[.int .i64 p, .int .i64 n, .int .i64 m, .int .i64 k, .slice A qs.length c] 24 (0, 0))] : List (Nat × Obj)), At w' b.1 b.2) (by kernel_rfl) ?_
    change wpAnyH _ _ _ _ _ _ _ _ (World.drew _)
    obtain ⟨wd, hwd, hK, h6, h9, o0, o1, ox⟩ : ∃ W, W = World.drew _ ∧ KA w [(w4.heap.size, .cells #[.int .i64 p, .int .i64 n, .int .i64 m, .int .i64 k, .slice (some ⟨gx, 0, none⟩) qs.length qs.length] 31 (0, 0)), (w.heap.size, .cells #[.int .i64 p, .int .i64 n, .int .i64 m, .int .i64 k, .slice A qs.length c] 24 (0, 0))] W ∧ At W w3.heap.size _ ∧ At W w5.heap.size _ ∧ Own W w.heap.size (.slice A0 rs.length c0) rs ∧ Own W w.heap.size (.slice A1 rs.length c1) rs ∧ Own W w.heap.size (.slice (some ⟨gx, 0, none⟩) qs.length qs.length) qs := ⟨_, rfl, hK.drew, h6.drewN 1, h9.drewN 1, o0.drew, o1.drew, ox.drew⟩
    rw [← hwd]
    clear hwd
    refine held_yield 0 (some 45) (.agg #[.int .i64 p, .int .i64 n, .int .i64 m, .int .i64 k, .slice (some ⟨gx, 0, none⟩) qs.length qs.length]) rfl (by kernel_rfl) (by kernel_rfl) (by kernel_rfl) (fun _ _ _ h => h) rfl rfl hK.box (fun w' h' => exec_load_all 31 _ rfl w4.heap.size rfl _ _ _ (h' (w4.heap.size, .cells #[.int .i64 p, .int .i64 n, .int .i64 m, .int .i64 k, .slice (some ⟨gx, 0, none⟩) qs.length qs.length] 31 (0, 0)) (by simp)) Try.underlying31 rfl 5 (by kernel_rfl) rfl) ?_
    go_frame
    refine held_yield 1 (some 46) (.agg #[.int .i64 p, .int .i64 n, .int .i64 m, .int .i64 k, .slice A qs.length c]) rfl (by kernel_rfl) (by kernel_rfl) (by kernel_rfl) (fun _ _ _ h => h) rfl rfl hK.box (fun w' h' => exec_load_all 24 _ rfl w.heap.size rfl _ _ _ (h' (w.heap.size, .cells #[.int .i64 p, .int .i64 n, .int .i64 m, .int .i64 k, .slice A qs.length c] 24 (0, 0)) (by simp)) Try.underlying24 rfl 5 (by kernel_rfl) rfl) ?_
    go_frame
    refine held_oper 2 (by kernel_rfl) rfl rfl (fun K' hK' => ?_)
    refine wp_call1 (some 47) rfl 9 _ _ rfl call_toScheme (.agg #[.int .i64 p, .int .i64 n, .int .i64 m, .int .i64 k, .slice A qs.length c]) rfl _ (toScheme_c p n m k A c qs _ (hr.keep hK.below) hlen) (fun e w7 h => ?_)
    obtain ⟨g7, rfl, hg7, hA7, b7⟩ := h
    replace hK := hK.after b7
    replace h6 := h6.after b7
    replace h9 := h9.after b7
    replace o0 := o0.below b7
    replace o1 := o1.below b7
    replace ox := ox.below b7
    refine ⟨_, rfl, hK' _ _ hK.box ?_⟩
    clear hK' K' b7
    go_frame
    refine held_oper 3 (by kernel_rfl) rfl rfl (fun K' hK' => ?_)
    refine wp_call2 (some 48) rfl 12 _ _ _ rfl call_eqScheme _ _ rfl rfl _ (eqScheme_c p n m k _ _ _ _ qs _ (ox.rd' hr.good) (Rd.of_at hA7 hr.good) (by omega)) (fun e w8 h => ?_)
    obtain ⟨rfl, b8⟩ := h
    replace hK := hK.after b8
    replace h6 := h6.after b8
    replace h9 := h9.after b8
    replace o0 := o0.below b8
    replace o1 := o1.below b8
    replace ox := ox.below b8
    refine ⟨_, rfl, hK' _ _ hK.box ?_⟩
    clear hK' K' b8 hA7 hg7
    go_frame
    refine held_exec 4 (some 49) (.bool false) (by kernel_rfl) rfl rfl rfl (exec_not 4 _ rfl true rfl) hK.box ?_
    go_frame
    refine wpAnyH_done (by kernel_rfl) ?_ _
    go_wp2_with (refine wpList_load_all rfl 31 _ rfl w4.heap.size rfl _ _ _ (by exact (hK.box (w4.heap.size, .cells #[.int .i64 p, .int .i64 n, .int .i64 m, .int .i64 k, .slice (some ⟨gx, 0, none⟩) qs.length qs.length] 31 (0, 0)) (by simp))) Try.underlying31 rfl 5 (by kernel_rfl) rfl ?_)
    have nx1s := own_symm nx1
    refine (markScheme_1 p n m k _ ox hlen).mono ?_
    rintro e w9 ⟨rfl, hG, _⟩
    replace h6 := h6.grown hG (ox.off h6 (by decide))
    replace h9 := h9.grown hG (ox.off h9 (by decide))
    have hneg : ¬ (1 : Int) + (qs.length : Int) * 27 < 0 := by omega
    have hneg2 : ¬ (1 : Int) + (rs.length : Int) * 27 < 0 := by omega
    replace o1 := o1.grown hG nx1s
    replace o0 := o0.grown hG n0x
    replace hK := hK.grown ox (Nat.le_refl _) hG (by intro b hb; simp only [List.mem_cons, List.not_mem_nil, or_false] at hb; rcases hb with rfl | rfl <;> exact ⟨_, _, rfl, by decide⟩)
    clear hG ox nx1 nx1s n0x
    go_wp2_with (first | (refine wpList_want_exec rfl (exec_load_all 31 _ rfl w5.heap.size rfl _ _ _ h9 Try.underlying31 rfl 5 (by kernel_rfl) rfl) ?_) | (refine wpList_want_exec rfl (exec_load_all 31 _ rfl w3.heap.size rfl _ _ _ h6 Try.underlying31 rfl 5 (by kernel_rfl) rfl) ?_))
    refine (eqScheme_c rp rn rm rk _ _ _ _ rs _ (o1.rd' Hrb.out) (o0.rd' Hrb.out) (by omega)).mono ?_
    rintro e w10 ⟨rfl, b10⟩
    replace hK := hK.after b10
    replace h6 := h6.after b10
    replace h9 := h9.after b10
    replace o0 := o0.below b10
    replace o1 := o1.below b10
    clear b10
    go_wp2_with (refine wpList_load_all rfl 31 _ rfl w5.heap.size rfl _ _ _ (by exact h9) Try.underlying31 rfl 5 (by kernel_rfl) rfl ?_)
    refine (markScheme_1 rp rn rm rk _ o1 hrl).mono ?_
    rintro e w11 ⟨rfl, hG, hH⟩
    replace h6 := h6.grown hG (o1.off h6 (by decide))
    replace h9 := h9.grown hG (o1.off h9 (by decide))
    replace o0 := o0.grown hG n01
    replace hK := hK.grown o1 (Nat.le_refl _) hG (by intro b hb; simp only [List.mem_cons, List.not_mem_nil, or_false] at hb; rcases hb with rfl | rfl <;> exact ⟨_, _, rfl, by decide⟩)
    have s1 := o1.shp
    have hb1 := Blk.of o1 hG
    clear hG o1 n01
    go_wp2_with (refine wpList_load_all rfl 31 _ rfl w5.heap.size rfl _ _ _ (by exact h9) Try.underlying31 rfl 5 (by kernel_rfl) rfl ?_)
    refine (heldScheme_1 rp rn rm rk _ s1 hH hrl).mono ?_
    rintro e w12 ⟨rfl, b12⟩
    replace hK := hK.after b12
    replace h6 := h6.after b12
    replace h9 := h9.after b12
    replace o0 := o0.below b12
    replace hH := hH.below b12
    replace hb1 := hb1.after b12
    clear b12
    go_wp2_with (refine wpList_load_all rfl 24 _ rfl w.heap.size rfl _ _ _ (by exact (hK.box (w.heap.size, .cells #[.int .i64 p, .int .i64 n, .int .i64 m, .int .i64 k, .slice A qs.length c] 24 (0, 0)) (by simp))) Try.underlying24 rfl 5 (by kernel_rfl) rfl ?_)
    refine (toScheme_c p n m k A c qs _ (hr.keep hK.below) hlen).mono ?_
    rintro e w13 ⟨gs, rfl, hgs, hAs, b13⟩
    replace hK := hK.after b13
    replace h6 := h6.after b13
    replace h9 := h9.after b13
    replace o0 := o0.below b13
    replace hH := hH.below b13
    replace hb1 := hb1.after b13
    clear b13
    go_wp2_with fail
    refine (HIm.out _ _ (Rd.of_at hAs hr.good)).mono ?_
    rintro e w14 ⟨v2, rfl, o2, b14⟩
    replace hK := hK.after b14
    replace h6 := h6.after b14
    replace h9 := h9.after b14
    replace o0 := o0.below b14
    replace hH := hH.below b14
    replace hb1 := hb1.after b14
    obtain ⟨A2, c2, rfl, _⟩ := o2.rd Hrb.out
    clear hAs hgs b14
    have bz := below1 w14 (.cells #[.int .i64 rp, .int .i64 rn, .int .i64 rm, .int .i64 rk, .slice A2 rs.length c2] 31 (0, 0))
    replace hK := hK.after bz
    replace h6 := h6.after bz
    replace h9 := h9.after bz
    replace o0 := o0.below bz
    replace hH := hH.below bz
    replace hb1 := hb1.after bz
    replace o2 := o2.below bz
    have h14 : At (w14.alloc (.cells #[.int .i64 rp, .int .i64 rn, .int .i64 rm, .int .i64 rk, .slice A2 rs.length c2] 31 (0, 0))) w14.heap.size (.cells #[.int .i64 rp, .int .i64 rn, .int .i64 rm, .int .i64 rk, .slice A2 rs.length c2] 31 (0, 0)) := al1_0 _ _
    clear bz
    go_wp2_with (first | (refine wpList_load_all rfl 31 _ rfl w14.heap.size rfl _ _ _ (by exact h14) Try.underlying31 rfl 5 (by kernel_rfl) rfl ?_) | (refine wpList_load_all rfl 31 _ rfl w3.heap.size rfl _ _ _ (by exact h6) Try.underlying31 rfl 5 (by kernel_rfl) rfl ?_))
    refine (eqScheme_c rp rn rm rk _ _ _ _ rs _ (o2.rd' Hrb.out) (o0.rd' Hrb.out) (by omega)).mono ?_
    rintro e w15 ⟨rfl, b15⟩
    replace h9 := h9.after b15
    replace hH := hH.below b15
    replace hK := hK.after b15
    clear b15 o0 o2 h6 h14
    go_wp2_with (refine wpList_load_all rfl 31 _ rfl w5.heap.size rfl _ _ _ (by exact h9) Try.underlying31 rfl 5 (by kernel_rfl) rfl ?_)
    refine (heldScheme_1 rp rn rm rk _ s1 hH hrl).mono ?_
    rintro e w16 ⟨rfl, b16⟩
    replace hK := hK.after b16
    go_wp2_with fail
    go_ret
    exact ⟨rfl, hK.below⟩
end Go.Proofs.Ytpoekhpchhmkaaa
