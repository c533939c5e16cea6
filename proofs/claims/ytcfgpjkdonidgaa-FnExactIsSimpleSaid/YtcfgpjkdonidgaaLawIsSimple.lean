/-
  laws.FnExactIsSimple: the walk: it returns true and writes nothing that was there. (Made by genlaw2.py.)
-/
import Derived.Test.YtcfgpjkdonidgaaTen1
namespace Go.Proofs.Ytcfgpjkdonidgaa
open Go.RowKit
set_option maxRecDepth 100000
theorem ka_world {w wr : World} {bs : List (Nat × Obj)} (_ : KA w bs wr) : ∃ x : World, x = wr := ⟨wr, rfl⟩
set_option maxHeartbeats 6400000 in
theorem lawIsSimple_walk (tp tn tm tk : Int) (tA : Option Addr) (tc : Nat) (tq : List Int) (r : Bool) (code : Int) (w : World) (hr_t : RdI w tA tq)  (hn_t : tq.length ≤ 9223372036854775807)
    (hS : (tq.length ≤ 1048576 → ∀ (gt : Nat) (w : World), RdI w (some ⟨gt, 0, none⟩) tq → Calls Try.prog 6 #[.agg #[.int .i64 tp, .int .i64 tn, .int .i64 tm, .int .i64 tk, .slice (some ⟨gt, 0, none⟩) tq.length tq.length]] w (fun e w' => e = .returned (.tuple #[.bool r, .int .i64 code]) ∧ Below w.heap.size w w')))
    (hI : (tq.length ≤ 1048576 → ∀ (gt : Nat) (w : World), RdI w (some ⟨gt, 0, none⟩) tq → Calls Try.prog 8 #[.agg #[.int .i64 tp, .int .i64 tn, .int .i64 tm, .int .i64 tk, .slice (some ⟨gt, 0, none⟩) tq.length tq.length]] w (fun e w' => e = .returned (.tuple #[.bool r, .int .i64 code]) ∧ Below w.heap.size w w'))) :
    Calls Try.prog 3 #[.agg #[.int .i64 tp, .int .i64 tn, .int .i64 tm, .int .i64 tk, .slice tA tq.length tc]] w fun e w' => e = .returned (.bool true) ∧ Below w.heap.size w w' := by
  have hcode : (code != code) = false := by simp
  have hr0 : (r != r) = false := by simp
  go_enter Try.func3, Try.ntmps3
  go_wp2_with (first | (refine wpList_abs1 ?_; intro w0 hsz0 hB0 ha0; have hK : KA w [(w.heap.size, .cells #[.int .i64 tp, .int .i64 tn, .int .i64 tm, .int .i64 tk, .slice tA tq.length tc] 24 (0, 0))] w0 := ⟨hB0, by intro b hb; simp only [List.mem_cons, List.not_mem_nil, or_false] at hb; rcases hb with rfl; exact ha0⟩; have z0 : w.heap.size + 1 ≤ w0.heap.size := Nat.le_of_eq hsz0.symm; clear hB0 hsz0 ha0) | (refine wpList_load_all rfl 24 _ rfl w.heap.size rfl _ _ _ (by exact (hK.box (w.heap.size, .cells #[.int .i64 tp, .int .i64 tn, .int .i64 tm, .int .i64 tk, .slice tA tq.length tc] 24 (0, 0)) (by simp))) Try.underlying24 rfl 5 (by kernel_rfl) rfl ?_))
  refine (szTensor_e tp tn tm tk tA tq.length tc 1048576 _ (by omega) hn_t (by omega)).mono ?_
  rintro e w1 ⟨r1, rfl, hr1, b1⟩
  have z1 : w0.heap.size ≤ w1.heap.size := size_after (Nat.le_refl _) b1
  replace hK := hK.after b1
  clear b1
  rcases hr1 with rfl | ⟨hr1, he1⟩
  · go_wp2_with fail
    go_ret
    exact ⟨rfl, hK.below⟩
  have hg1 : ¬ r1 < 0 := by omega
  have t_t : tq.length ≤ 1048576 := by omega
  have HSp := Lib.hid (hS t_t)
  have HIm := Lib.hid (hI t_t)
  clear hS hI
  go_wp2_with (refine wpList_load_all rfl 24 _ rfl w.heap.size rfl _ _ _ (by exact (hK.box (w.heap.size, .cells #[.int .i64 tp, .int .i64 tn, .int .i64 tm, .int .i64 tk, .slice tA tq.length tc] 24 (0, 0)) (by simp))) Try.underlying24 rfl 5 (by kernel_rfl) rfl ?_)
  refine (toTensor_c tp tn tm tk tA tc tq _ (hr_t.keep hK.below) t_t).mono ?_
  rintro e w2 ⟨g2, rfl, hg2, h2, b2⟩
  have z2 : w1.heap.size ≤ w2.heap.size := size_after (Nat.le_refl _) b2
  replace hK := hK.after b2
  clear b2
  replace hg2 := Nat.le_trans (Nat.le_refl _) hg2
  go_wp2_with fail
  refine (HSp.out _ _ (RdI.of_iar h2)).mono ?_
  rintro e w3 ⟨rfl, b3⟩
  have z3 : w2.heap.size ≤ w3.heap.size := size_after (Nat.le_refl _) b3
  replace hK := hK.after b3
  replace h2 := h2.after b3
  clear b3
  clear h2
  go_wp2_with (refine wpList_load_all rfl 24 _ rfl w.heap.size rfl _ _ _ (by exact (hK.box (w.heap.size, .cells #[.int .i64 tp, .int .i64 tn, .int .i64 tm, .int .i64 tk, .slice tA tq.length tc] 24 (0, 0)) (by simp))) Try.underlying24 rfl 5 (by kernel_rfl) rfl ?_)
  refine (toTensor_c tp tn tm tk tA tc tq _ (hr_t.keep hK.below) t_t).mono ?_
  rintro e w4 ⟨g4, rfl, hg4, h4, b4⟩
  have z4 : w3.heap.size ≤ w4.heap.size := size_after (Nat.le_refl _) b4
  replace hK := hK.after b4
  clear b4
  replace hg4 := Nat.le_trans (Nat.le_refl _) hg4
  have oh4 := OwnI.of_at h4 hg4 t_t
  have ioh4 := oh4.inn
  clear h4
  have bx := below1 w4 (.cells #[.int .i64 tp, .int .i64 tn, .int .i64 tm, .int .i64 tk, .slice (some ⟨g4, 0, none⟩) tq.length tq.length] 28 (0, 0))
  replace hK := hK.after bx
  replace oh4 := oh4.below bx
  have hx := al1_0 w4 (.cells #[.int .i64 tp, .int .i64 tn, .int .i64 tm, .int .i64 tk, .slice (some ⟨g4, 0, none⟩) tq.length tq.length] 28 (0, 0))
  replace hK : KA w [(w4.heap.size, .cells #[.int .i64 tp, .int .i64 tn, .int .i64 tm, .int .i64 tk, .slice (some ⟨g4, 0, none⟩) tq.length tq.length] 28 (0, 0)), (w.heap.size, .cells #[.int .i64 tp, .int .i64 tn, .int .i64 tm, .int .i64 tk, .slice tA tq.length tc] 24 (0, 0))] _ := hK.more hx
  clear bx hx
  go_wp2_with (refine wpList_load_all rfl 28 _ rfl w4.heap.size rfl _ _ _ (by exact (hK.box (w4.heap.size, .cells #[.int .i64 tp, .int .i64 tn, .int .i64 tm, .int .i64 tk, .slice (some ⟨g4, 0, none⟩) tq.length tq.length] 28 (0, 0)) (by simp))) Try.underlying28 rfl 5 (by kernel_rfl) rfl ?_)
  refine (HIm.out _ _ (oh4.rd')).mono ?_
  rintro e w6 ⟨rfl, b6⟩
  have z6 : w4.heap.size + 1 ≤ w6.heap.size := size_after (Nat.le_of_eq (size_al1 w4 (.cells #[.int .i64 tp, .int .i64 tn, .int .i64 tm, .int .i64 tk, .slice (some ⟨g4, 0, none⟩) tq.length tq.length] 28 (0, 0))).symm) b6
  replace hK := hK.after b6
  replace oh4 := oh4.below b6
  clear b6
  go_wp2_with fail
  refine wp_region_held (S := fun w' => ∀ b ∈ ([(w4.heap.size, .cells #[.int .i64 tp, .int .i64 tn, .int .i64 tm, .int .i64 tk, .slice (some ⟨g4, 0, none⟩) tq.length tq.length] 28 (0, 0)), (w.heap.size, .cells #[.int .i64 tp, .int .i64 tn, .int .i64 tm, .int .i64 tk, .slice tA tq.length tc] 24 (0, 0))] : List (Nat × Obj)), At w' b.1 b.2) (by kernel_rfl) ?_
  change wpAnyH _ _ _ _ _ _ _ _ (World.drew _)
  obtain ⟨w7, hw7, hK, oh4, z7⟩ : ∃ W, W = World.drew _ ∧ KA w [(w4.heap.size, .cells #[.int .i64 tp, .int .i64 tn, .int .i64 tm, .int .i64 tk, .slice (some ⟨g4, 0, none⟩) tq.length tq.length] 28 (0, 0)), (w.heap.size, .cells #[.int .i64 tp, .int .i64 tn, .int .i64 tm, .int .i64 tk, .slice tA tq.length tc] 24 (0, 0))] W ∧ OwnI W (w3.heap.size) (.slice (some ⟨g4, 0, none⟩) tq.length tq.length) tq ∧ w6.heap.size ≤ W.heap.size := ⟨_, rfl, hK.drew, oh4, Nat.le_refl _⟩
  rw [← hw7]
  clear hw7
  refine held_yield 0 (some 35) (.agg #[.int .i64 tp, .int .i64 tn, .int .i64 tm, .int .i64 tk, .slice (some ⟨g4, 0, none⟩) tq.length tq.length]) rfl (by kernel_rfl) (by kernel_rfl) (by kernel_rfl) (fun _ _ _ h => h) rfl rfl hK.box (fun w' h' => exec_load_all 28 _ rfl w4.heap.size rfl _ _ _ (h' (w4.heap.size, .cells #[.int .i64 tp, .int .i64 tn, .int .i64 tm, .int .i64 tk, .slice (some ⟨g4, 0, none⟩) tq.length tq.length] 28 (0, 0)) (by simp)) Try.underlying28 rfl 5 (by kernel_rfl) rfl) ?_
  go_frame
  refine held_yield 1 (some 36) (.agg #[.int .i64 tp, .int .i64 tn, .int .i64 tm, .int .i64 tk, .slice tA tq.length tc]) rfl (by kernel_rfl) (by kernel_rfl) (by kernel_rfl) (fun _ _ _ h => h) rfl rfl hK.box (fun w' h' => exec_load_all 24 _ rfl w.heap.size rfl _ _ _ (h' (w.heap.size, .cells #[.int .i64 tp, .int .i64 tn, .int .i64 tm, .int .i64 tk, .slice tA tq.length tc] 24 (0, 0)) (by simp)) Try.underlying24 rfl 5 (by kernel_rfl) rfl) ?_
  go_frame
  refine held_oper 2 (by kernel_rfl) rfl rfl (fun K' hK' => ?_)
  refine wp_call1 (some 37) rfl 7 _ _ rfl (fun args w => by kernel_rfl) _ rfl _ (toTensor_c tp tn tm tk tA tc tq _ (hr_t.keep hK.below) t_t) (fun e w8 h => ?_)
  obtain ⟨g8, rfl, hg8, h8, b8⟩ := h
  have z8 : w7.heap.size ≤ w8.heap.size := size_after (Nat.le_refl _) b8
  replace hK := hK.after b8
  replace oh4 := oh4.below b8
  clear b8
  replace hg8 := Nat.le_trans (Nat.le_refl _) hg8
  refine ⟨_, rfl, hK' _ _ hK.box ?_⟩
  clear hK' K'
  go_frame
  refine held_oper 3 (by kernel_rfl) rfl rfl (fun K' hK' => ?_)
  refine wp_call2 (some 38) rfl 9 _ _ _ rfl (fun args w => by kernel_rfl) _ _ rfl rfl _ (eqTensor_c tp tn tm tk _ _ _ _ tq _ (oh4.rd') (RdI.of_iar h8) (by omega)) (fun e w9 h => ?_)
  obtain ⟨rfl, b9⟩ := h
  have z9 : w8.heap.size ≤ w9.heap.size := size_after (Nat.le_refl _) b9
  replace hK := hK.after b9
  replace oh4 := oh4.below b9
  replace h8 := h8.after b9
  clear b9
  clear h8
  refine ⟨_, rfl, hK' _ _ hK.box ?_⟩
  clear hK' K'
  go_frame
  refine held_exec 4 (some 39) (.bool false) (by kernel_rfl) rfl rfl rfl (exec_not 4 _ rfl true rfl) hK.box ?_
  go_frame
  refine wpAnyH_done (by kernel_rfl) ?_ _
  go_wp2_with fail
  go_ret
  exact ⟨rfl, hK.below⟩
end Go.Proofs.Ytcfgpjkdonidgaa
