/-
  laws.FnExactIsProgram: the walk: it returns true and writes nothing that was there. (Made by genlaw2.py.)
-/
import Derived.Test.YtokmchadckcilaaPg1
namespace Go.Proofs.Ytokmchadckcilaa
open Go.RowKit
set_option maxRecDepth 100000
theorem ka_world {w wr : World} {bs : List (Nat × Obj)} (_ : KA w bs wr) : ∃ x : World, x = wr := ⟨wr, rfl⟩
set_option maxHeartbeats 6400000 in
theorem lawIsProgram_walk (xp xn : Int) (xAs xAo : Option Addr) (xcs xco : Nat) (xss xos : List (List Int)) (r : Bool) (w : World) (hr_x : RdK 3 w xAs xss) (hn_x : xss.length ≤ 9223372036854775807) (hr2_x : RdK 2 w xAo xos) (hn2_x : xos.length ≤ 9223372036854775807)
    (hS : (xss.length + xos.length ≤ 1048576 → ∀ (gx jx : Nat) (w : World), RdK 3 w (some ⟨gx, 0, none⟩) xss → RdK 2 w (some ⟨jx, 0, none⟩) xos → Calls Try.prog 13 #[.agg #[.int .i64 xp, .int .i64 xn, .slice (some ⟨gx, 0, none⟩) xss.length xss.length, .slice (some ⟨jx, 0, none⟩) xos.length xos.length]] w (fun e w' => e = .returned (.bool r) ∧ Below w.heap.size w w')))
    (hI : (xss.length + xos.length ≤ 1048576 → ∀ (gx jx : Nat) (w : World), RdK 3 w (some ⟨gx, 0, none⟩) xss → RdK 2 w (some ⟨jx, 0, none⟩) xos → Calls Try.prog 15 #[.agg #[.int .i64 xp, .int .i64 xn, .slice (some ⟨gx, 0, none⟩) xss.length xss.length, .slice (some ⟨jx, 0, none⟩) xos.length xos.length]] w (fun e w' => e = .returned (.bool r) ∧ Below w.heap.size w w'))) :
    Calls Try.prog 5 #[.agg #[.int .i64 xp, .int .i64 xn, .slice xAs xss.length xcs, .slice xAo xos.length xco]] w fun e w' => e = .returned (.bool true) ∧ Below w.heap.size w w' := by
  have hr0 : (r != r) = false := by simp
  go_enter Try.func5, Try.ntmps5
  go_wp2_with (first | (refine wpList_abs1 ?_; intro w0 hsz0 hB0 ha0; have hK : KA w [(w.heap.size, .cells #[.int .i64 xp, .int .i64 xn, .slice xAs xss.length xcs, .slice xAo xos.length xco] 30 (0, 0))] w0 := ⟨hB0, by intro b hb; simp only [List.mem_cons, List.not_mem_nil, or_false] at hb; rcases hb with rfl; exact ha0⟩; have z0 : w.heap.size + 1 ≤ w0.heap.size := Nat.le_of_eq hsz0.symm; clear hB0 hsz0 ha0) | (refine wpList_load_all rfl 30 _ rfl w.heap.size rfl _ _ _ (by exact (hK.box (w.heap.size, .cells #[.int .i64 xp, .int .i64 xn, .slice xAs xss.length xcs, .slice xAo xos.length xco] 30 (0, 0)) (by simp))) Try.underlying30 rfl 4 (by kernel_rfl) rfl ?_))
  refine (szProgram_e xp xn xAs xAo xss.length xcs xos.length xco 1048576 _ (by omega) hn_x hn2_x (by omega)).mono ?_
  rintro e w1 ⟨r1, rfl, hr1, b1⟩
  have z1 : w0.heap.size ≤ w1.heap.size := size_after (Nat.le_refl _) b1
  replace hK := hK.after b1
  clear b1
  rcases hr1 with rfl | ⟨hr1, he1⟩
  · go_wp2_with fail
    go_ret
    exact ⟨rfl, hK.below⟩
  have hg1 : ¬ r1 < 0 := by omega
  have t_x : xss.length + xos.length ≤ 1048576 := by omega
  have HSp := Lib.hid (hS t_x)
  have HIm := Lib.hid (hI t_x)
  clear hS hI
  go_wp2_with (refine wpList_load_all rfl 30 _ rfl w.heap.size rfl _ _ _ (by exact (hK.box (w.heap.size, .cells #[.int .i64 xp, .int .i64 xn, .slice xAs xss.length xcs, .slice xAo xos.length xco] 30 (0, 0)) (by simp))) Try.underlying30 rfl 4 (by kernel_rfl) rfl ?_)
  refine (toProgram_c xp xn xAs xAo xcs xco xss xos _ (hr_x.keep hK.below) (hr2_x.keep hK.below) (by omega) (by omega)).mono ?_
  rintro e w2 ⟨g2, gj2, rfl, hg2, hgj2, h2, j2, b2⟩
  have z2 : w1.heap.size ≤ w2.heap.size := size_after (Nat.le_refl _) b2
  replace hK := hK.after b2
  clear b2
  replace hg2 := Nat.le_trans (Nat.le_refl _) hg2
  have hgk2 := Nat.le_trans hg2 (Nat.le_of_lt hgj2)
  go_wp2_with fail
  refine (HSp.out _ _ _ (RdK.of_at h2 hr_x.good) (RdK.of_at j2 hr2_x.good)).mono ?_
  rintro e w3 ⟨rfl, b3⟩
  have z3 : w2.heap.size ≤ w3.heap.size := size_after (Nat.le_refl _) b3
  replace hK := hK.after b3
  replace h2 := h2.after b3
  replace j2 := j2.after b3
  clear b3
  clear h2 j2
  go_wp2_with (refine wpList_load_all rfl 30 _ rfl w.heap.size rfl _ _ _ (by exact (hK.box (w.heap.size, .cells #[.int .i64 xp, .int .i64 xn, .slice xAs xss.length xcs, .slice xAo xos.length xco] 30 (0, 0)) (by simp))) Try.underlying30 rfl 4 (by kernel_rfl) rfl ?_)
  refine (toProgram_c xp xn xAs xAo xcs xco xss xos _ (hr_x.keep hK.below) (hr2_x.keep hK.below) (by omega) (by omega)).mono ?_
  rintro e w4 ⟨g4, gj4, rfl, hg4, hgj4, h4, j4, b4⟩
  have z4 : w3.heap.size ≤ w4.heap.size := size_after (Nat.le_refl _) b4
  replace hK := hK.after b4
  clear b4
  replace hg4 := Nat.le_trans (Nat.le_refl _) hg4
  have hgk4 := Nat.le_trans hg4 (Nat.le_of_lt hgj4)
  have oh4 := OwnK.of_at (lo := w3.heap.size) h4 hr_x.good hg4 (by omega)
  have ioh4 := oh4.inn
  have oj4 := OwnK.of_at (lo := w3.heap.size) j4 hr2_x.good hgk4 (by omega)
  have ioj4 := oj4.inn
  clear h4 j4
  have bx := below1 w4 (.cells #[.int .i64 xp, .int .i64 xn, .slice (some ⟨g4, 0, none⟩) xss.length xss.length, .slice (some ⟨gj4, 0, none⟩) xos.length xos.length] 36 (0, 0))
  replace hK := hK.after bx
  replace oh4 := oh4.below bx
  replace oj4 := oj4.below bx
  have hx := al1_0 w4 (.cells #[.int .i64 xp, .int .i64 xn, .slice (some ⟨g4, 0, none⟩) xss.length xss.length, .slice (some ⟨gj4, 0, none⟩) xos.length xos.length] 36 (0, 0))
  replace hK : KA w [(w4.heap.size, .cells #[.int .i64 xp, .int .i64 xn, .slice (some ⟨g4, 0, none⟩) xss.length xss.length, .slice (some ⟨gj4, 0, none⟩) xos.length xos.length] 36 (0, 0)), (w.heap.size, .cells #[.int .i64 xp, .int .i64 xn, .slice xAs xss.length xcs, .slice xAo xos.length xco] 30 (0, 0))] _ := hK.more hx
  clear bx hx
  go_wp2_with (refine wpList_load_all rfl 36 _ rfl w4.heap.size rfl _ _ _ (by exact (hK.box (w4.heap.size, .cells #[.int .i64 xp, .int .i64 xn, .slice (some ⟨g4, 0, none⟩) xss.length xss.length, .slice (some ⟨gj4, 0, none⟩) xos.length xos.length] 36 (0, 0)) (by simp))) Try.underlying36 rfl 4 (by kernel_rfl) rfl ?_)
  refine (HIm.out _ _ _ (oh4.rd') (oj4.rd')).mono ?_
  rintro e w6 ⟨rfl, b6⟩
  have z6 : w4.heap.size + 1 ≤ w6.heap.size := size_after (Nat.le_of_eq (size_al1 w4 (.cells #[.int .i64 xp, .int .i64 xn, .slice (some ⟨g4, 0, none⟩) xss.length xss.length, .slice (some ⟨gj4, 0, none⟩) xos.length xos.length] 36 (0, 0))).symm) b6
  replace hK := hK.after b6
  replace oh4 := oh4.below b6
  replace oj4 := oj4.below b6
  clear b6
  go_wp2_with fail
  refine wp_region_held (S := fun w' => ∀ b ∈ ([(w4.heap.size, .cells #[.int .i64 xp, .int .i64 xn, .slice (some ⟨g4, 0, none⟩) xss.length xss.length, .slice (some ⟨gj4, 0, none⟩) xos.length xos.length] 36 (0, 0)), (w.heap.size, .cells #[.int .i64 xp, .int .i64 xn, .slice xAs xss.length xcs, .slice xAo xos.length xco] 30 (0, 0))] : List (Nat × Obj)), At w' b.1 b.2) (by kernel_rfl) ?_
  change wpAnyH _ _ _ _ _ _ _ _ (World.drew _)
  obtain ⟨w7, hw7, hK, oh4, oj4, z7⟩ : ∃ W, W = World.drew _ ∧ KA w [(w4.heap.size, .cells #[.int .i64 xp, .int .i64 xn, .slice (some ⟨g4, 0, none⟩) xss.length xss.length, .slice (some ⟨gj4, 0, none⟩) xos.length xos.length] 36 (0, 0)), (w.heap.size, .cells #[.int .i64 xp, .int .i64 xn, .slice xAs xss.length xcs, .slice xAo xos.length xco] 30 (0, 0))] W ∧ OwnK 57 3 W (w3.heap.size) (.slice (some ⟨g4, 0, none⟩) xss.length xss.length) xss ∧ OwnK 61 2 W (w3.heap.size) (.slice (some ⟨gj4, 0, none⟩) xos.length xos.length) xos ∧ w6.heap.size ≤ W.heap.size := ⟨_, rfl, hK.drew, oh4.drew, oj4.drew, Nat.le_refl _⟩
  rw [← hw7]
  clear hw7
  refine held_yield 0 (some 22) (.agg #[.int .i64 xp, .int .i64 xn, .slice (some ⟨g4, 0, none⟩) xss.length xss.length, .slice (some ⟨gj4, 0, none⟩) xos.length xos.length]) rfl (by kernel_rfl) (by kernel_rfl) (by kernel_rfl) (fun _ _ _ h => h) rfl rfl hK.box (fun w' h' => exec_load_all 36 _ rfl w4.heap.size rfl _ _ _ (h' (w4.heap.size, .cells #[.int .i64 xp, .int .i64 xn, .slice (some ⟨g4, 0, none⟩) xss.length xss.length, .slice (some ⟨gj4, 0, none⟩) xos.length xos.length] 36 (0, 0)) (by simp)) Try.underlying36 rfl 4 (by kernel_rfl) rfl) ?_
  go_frame
  refine held_yield 1 (some 23) (.agg #[.int .i64 xp, .int .i64 xn, .slice xAs xss.length xcs, .slice xAo xos.length xco]) rfl (by kernel_rfl) (by kernel_rfl) (by kernel_rfl) (fun _ _ _ h => h) rfl rfl hK.box (fun w' h' => exec_load_all 30 _ rfl w.heap.size rfl _ _ _ (h' (w.heap.size, .cells #[.int .i64 xp, .int .i64 xn, .slice xAs xss.length xcs, .slice xAo xos.length xco] 30 (0, 0)) (by simp)) Try.underlying30 rfl 4 (by kernel_rfl) rfl) ?_
  go_frame
  refine held_oper 2 (by kernel_rfl) rfl rfl (fun K' hK' => ?_)
  refine wp_call1 (some 24) rfl 14 _ _ rfl (fun args w => by kernel_rfl) _ rfl _ (toProgram_c xp xn xAs xAo xcs xco xss xos _ (hr_x.keep hK.below) (hr2_x.keep hK.below) (by omega) (by omega)) (fun e w8 h => ?_)
  obtain ⟨g8, gj8, rfl, hg8, hgj8, h8, j8, b8⟩ := h
  have z8 : w7.heap.size ≤ w8.heap.size := size_after (Nat.le_refl _) b8
  replace hK := hK.after b8
  replace oh4 := oh4.below b8
  replace oj4 := oj4.below b8
  clear b8
  replace hg8 := Nat.le_trans (Nat.le_refl _) hg8
  have hgk8 := Nat.le_trans hg8 (Nat.le_of_lt hgj8)
  refine ⟨_, rfl, hK' _ _ hK.box ?_⟩
  clear hK' K'
  go_frame
  refine held_oper 3 (by kernel_rfl) rfl rfl (fun K' hK' => ?_)
  refine wp_call2 (some 25) rfl 16 _ _ _ rfl (fun args w => by kernel_rfl) _ _ rfl rfl _ (eqProgram_c xp xn _ _ _ _ _ _ _ _ xss xos _ (oh4.rd') (oj4.rd') (RdK.of_at h8 hr_x.good) (RdK.of_at j8 hr2_x.good) (by omega) (by omega)) (fun e w9 h => ?_)
  obtain ⟨rfl, b9⟩ := h
  have z9 : w8.heap.size ≤ w9.heap.size := size_after (Nat.le_refl _) b9
  replace hK := hK.after b9
  replace oh4 := oh4.below b9
  replace oj4 := oj4.below b9
  replace h8 := h8.after b9
  replace j8 := j8.after b9
  clear b9
  clear h8 j8
  refine ⟨_, rfl, hK' _ _ hK.box ?_⟩
  clear hK' K'
  go_frame
  refine held_exec 4 (some 26) (.bool false) (by kernel_rfl) rfl rfl rfl (exec_not 4 _ rfl true rfl) hK.box ?_
  go_frame
  refine wpAnyH_done (by kernel_rfl) ?_ _
  go_wp2_with fail
  go_ret
  exact ⟨rfl, hK.below⟩
end Go.Proofs.Ytokmchadckcilaa
