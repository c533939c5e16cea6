/-
  laws.FnExactPlainProgram: the walk: it returns true and writes nothing that was there. (Made by genlaw2.py.)
-/
import Derived.Test.YtoaibfbamecdlaaPgC
namespace Go.Proofs.Ytoaibfbamecdlaa
open Go.RowKit
set_option maxRecDepth 100000
theorem ka_world {w wr : World} {bs : List (Nat × Obj)} (_ : KA w bs wr) : ∃ x : World, x = wr := ⟨wr, rfl⟩
set_option maxHeartbeats 6400000 in
theorem lawPlainProgram_walk (x : Int) (y : Int) (zA : Option Addr) (zc zn : Nat) (z : Nat → List Int) (rp rn : Int) (rs ru : List (List Int)) (code : Int) (w : World) (hm_z : RdM w zA zn z) (hn_z : zn ≤ 9223372036854775807) (hl_z : ∀ i, i < zn → (z i).length ≤ 9223372036854775807) (hrl : rs.length ≤ 1048576) (hrl2 : ru.length ≤ 1048576)
    (hS : (zn + tot z zn ≤ 1048576 → ∀ (Az : Option Addr) (cz : Nat) (w : World), RdM w Az zn z → Calls Try.prog 16 #[.int .i64 x, .int .i64 y, .slice Az zn cz] w (ResG w rp rn rs ru code)))
    (hI : (zn + tot z zn ≤ 1048576 → ∀ (Az : Option Addr) (cz : Nat) (w : World), RdM w Az zn z → Calls Try.prog 18 #[.int .i64 x, .int .i64 y, .slice Az zn cz] w (ResG w rp rn rs ru code))) :
    Calls Try.prog 4 #[.int .i64 x, .int .i64 y, .slice zA zn zc] w fun e w' => e = .returned (.bool true) ∧ Below w.heap.size w w' := by
  have hcode : (code != code) = false := by simp
  go_enter Try.func4, Try.ntmps4
  have hK : KA w [] w := ⟨Below.refl _ _, by intro b hb; cases hb⟩
  go_wp2_with fail
  refine (szInt64SS_c zA zn zc z 1048576 _ (hm_z.keep hK.below) (by omega) hn_z hl_z (by omega)).mono ?_
  rintro e w1 ⟨r1, rfl, hr1, hw1⟩
  subst hw1
  rcases hr1 with rfl | ⟨hr1, he1⟩
  · go_wp2_with fail
    go_ret
    exact ⟨rfl, hK.below⟩
  have hg1 : ¬ r1 < 0 := by omega
  have t_z : zn + tot z zn ≤ 1048576 := by omega
  have tl_z : Hid (∀ i, i < zn → (z i).length ≤ 1048576) := Lib.hid (fun i hi => by have := tot_ge z hi; omega)
  have t9_z : Hid (∀ i, i < zn → (z i).length ≤ 9000000000000000000) := Lib.hid (fun i hi => by have := tot_ge z hi; omega)
  have HSp := Lib.hid (hS t_z)
  have HIm := Lib.hid (hI t_z)
  clear hS hI
  clear hl_z
  go_wp2_with fail
  refine (toInt64SS_c zA zc zn z _ (hm_z.keep hK.below) (by omega) tl_z.out).mono ?_
  rintro e w2 ⟨v2, rfl, h2, b2⟩
  have z2 : w.heap.size ≤ w2.heap.size := size_after (Nat.le_refl _) b2
  replace hK := hK.after b2
  clear b2
  obtain ⟨A2, c2, rfl, _⟩ := h2.rd
  replace h2 := h2.mono (Nat.le_refl _) (Nat.le_refl _)
  go_wp2_with fail
  refine (HSp.out _ _ _ (h2.rd')).mono ?_
  rintro e w3 ⟨v3, u903, rfl, o0, u0, b3⟩
  have z3 : w2.heap.size ≤ w3.heap.size := size_after (Nat.le_refl _) b3
  replace hK := hK.after b3
  replace h2 := h2.below b3
  clear b3
  clear h2
  replace o0 := o0.mono (Nat.le_refl _)
  replace u0 := u0.mono (Nat.le_refl _)
  have io0 := o0.inn
  have iu0 := u0.inn
  obtain ⟨A0, c0, rfl, _⟩ := o0.rd
  obtain ⟨B0, d0, rfl, _⟩ := u0.rd
  have bx := below1 w3 (.cells #[.int .i64 rp, .int .i64 rn, .slice A0 rs.length c0, .slice B0 ru.length d0] 33 (0, 0))
  replace hK := hK.after bx
  replace o0 := o0.below bx
  replace u0 := u0.below bx
  have hx := al1_0 w3 (.cells #[.int .i64 rp, .int .i64 rn, .slice A0 rs.length c0, .slice B0 ru.length d0] 33 (0, 0))
  replace hK : KA w [(w3.heap.size, .cells #[.int .i64 rp, .int .i64 rn, .slice A0 rs.length c0, .slice B0 ru.length d0] 33 (0, 0))] _ := hK.more hx
  clear bx hx
  go_wp2_with fail
  refine (toInt64SS_c zA zc zn z _ (hm_z.keep hK.below) (by omega) tl_z.out).mono ?_
  rintro e w5 ⟨v5, rfl, h5, b5⟩
  have z5 : w3.heap.size + 1 ≤ w5.heap.size := size_after (Nat.le_of_eq (size_al1 w3 (.cells #[.int .i64 rp, .int .i64 rn, .slice A0 rs.length c0, .slice B0 ru.length d0] 33 (0, 0))).symm) b5
  replace hK := hK.after b5
  replace o0 := o0.below b5
  replace u0 := u0.below b5
  clear b5
  obtain ⟨A5, c5, rfl, _⟩ := h5.rd
  replace h5 := h5.mono (Nat.le_of_eq (size_al1 w3 (.cells #[.int .i64 rp, .int .i64 rn, .slice A0 rs.length c0, .slice B0 ru.length d0] 33 (0, 0))).symm) (Nat.le_refl _)
  go_wp2_with fail
  refine (HIm.out _ _ _ (h5.rd')).mono ?_
  rintro e w6 ⟨v6, u906, rfl, o1, u1, b6⟩
  have z6 : w5.heap.size ≤ w6.heap.size := size_after (Nat.le_refl _) b6
  replace hK := hK.after b6
  replace o0 := o0.below b6
  replace u0 := u0.below b6
  replace h5 := h5.below b6
  clear b6
  replace o1 := o1.mono (Nat.le_refl _)
  replace u1 := u1.mono (Nat.le_refl _)
  have io1 := o1.inn
  have iu1 := u1.inn
  obtain ⟨A1, c1, rfl, _⟩ := o1.rd
  obtain ⟨B1, d1, rfl, _⟩ := u1.rd
  have bx := below1 w6 (.cells #[.int .i64 rp, .int .i64 rn, .slice A1 rs.length c1, .slice B1 ru.length d1] 33 (0, 0))
  replace hK := hK.after bx
  replace o0 := o0.below bx
  replace u0 := u0.below bx
  replace h5 := h5.below bx
  replace o1 := o1.below bx
  replace u1 := u1.below bx
  have hx := al1_0 w6 (.cells #[.int .i64 rp, .int .i64 rn, .slice A1 rs.length c1, .slice B1 ru.length d1] 33 (0, 0))
  replace hK : KA w [(w6.heap.size, .cells #[.int .i64 rp, .int .i64 rn, .slice A1 rs.length c1, .slice B1 ru.length d1] 33 (0, 0)), (w3.heap.size, .cells #[.int .i64 rp, .int .i64 rn, .slice A0 rs.length c0, .slice B0 ru.length d0] 33 (0, 0))] _ := hK.more hx
  clear bx hx
  go_wp2_with (first | (refine wpList_load_all rfl 33 _ rfl w6.heap.size rfl _ _ _ (by exact (hK.box (w6.heap.size, .cells #[.int .i64 rp, .int .i64 rn, .slice A1 rs.length c1, .slice B1 ru.length d1] 33 (0, 0)) (by simp))) Try.underlying33 rfl 4 (by kernel_rfl) rfl ?_) | (refine wpList_load_all rfl 33 _ rfl w3.heap.size rfl _ _ _ (by exact (hK.box (w3.heap.size, .cells #[.int .i64 rp, .int .i64 rn, .slice A0 rs.length c0, .slice B0 ru.length d0] 33 (0, 0)) (by simp))) Try.underlying33 rfl 4 (by kernel_rfl) rfl ?_))
  refine (eqProgram_c rp rn _ _ _ _ _ _ _ _ rs ru _ (o1.rd') (u1.rd') (o0.rd') (u0.rd') (by omega) (by omega)).mono ?_
  rintro e w8 ⟨rfl, b8⟩
  have z8 : w6.heap.size + 1 ≤ w8.heap.size := size_after (Nat.le_of_eq (size_al1 w6 (.cells #[.int .i64 rp, .int .i64 rn, .slice A1 rs.length c1, .slice B1 ru.length d1] 33 (0, 0))).symm) b8
  replace hK := hK.after b8
  replace o0 := o0.below b8
  replace u0 := u0.below b8
  replace h5 := h5.below b8
  replace o1 := o1.below b8
  replace u1 := u1.below b8
  clear b8
  go_wp2_with fail
  refine (toInt64SS_c zA zc zn z _ (hm_z.keep hK.below) (by omega) tl_z.out).mono ?_
  rintro e w9 ⟨v9, rfl, h9, b9⟩
  have z9 : w8.heap.size ≤ w9.heap.size := size_after (Nat.le_refl _) b9
  replace hK := hK.after b9
  replace o0 := o0.below b9
  replace u0 := u0.below b9
  replace h5 := h5.below b9
  replace o1 := o1.below b9
  replace u1 := u1.below b9
  clear b9
  obtain ⟨A9, c9, rfl, _⟩ := h9.rd
  replace h9 := h9.mono (Nat.le_refl _) (Nat.le_refl _)
  go_wp2_with fail
  refine (eqInt64SS_c _ _ _ _ zn z _ (h5.rd') (h9.rd') (by omega) t9_z.out).mono ?_
  rintro e w10 ⟨rfl, b10⟩
  have z10 : w9.heap.size ≤ w10.heap.size := size_after (Nat.le_refl _) b10
  replace hK := hK.after b10
  replace o0 := o0.below b10
  replace u0 := u0.below b10
  replace h5 := h5.below b10
  replace o1 := o1.below b10
  replace u1 := u1.below b10
  replace h9 := h9.below b10
  clear b10
  clear h9
  go_wp2_with fail
  refine (markInt64SS_2 (1) _ zn z _ (by simp) h5 t_z (by omega)).mono ?_
  rintro e w11 ⟨rfl, hH, S11⟩
  have z11 : w10.heap.size ≤ w11.heap.size := Nat.le_trans (Nat.le_refl _) S11.size
  replace hK := hK.same S11 (by omega) (by intro b hb; simp only [List.mem_cons, List.not_mem_nil, or_false] at hb; rcases hb with rfl | rfl <;> (dsimp only; omega))
  replace o0 := o0.same io0 S11 (by omega)
  replace u0 := u0.same iu0 S11 (by omega)
  replace o1 := o1.same io1 S11 (by omega)
  replace u1 := u1.same iu1 S11 (by omega)
  clear S11
  clear hH
  clear h5
  go_wp2_with (first | (refine wpList_want_exec rfl (exec_load_all 33 _ rfl w6.heap.size rfl _ _ _ (by exact (hK.box (w6.heap.size, .cells #[.int .i64 rp, .int .i64 rn, .slice A1 rs.length c1, .slice B1 ru.length d1] 33 (0, 0)) (by simp))) Try.underlying33 rfl 4 (by kernel_rfl) rfl) ?_) | (refine wpList_want_exec rfl (exec_load_all 33 _ rfl w3.heap.size rfl _ _ _ (by exact (hK.box (w3.heap.size, .cells #[.int .i64 rp, .int .i64 rn, .slice A0 rs.length c0, .slice B0 ru.length d0] 33 (0, 0)) (by simp))) Try.underlying33 rfl 4 (by kernel_rfl) rfl) ?_))
  refine (eqProgram_c rp rn _ _ _ _ _ _ _ _ rs ru _ (o1.rd') (u1.rd') (o0.rd') (u0.rd') (by omega) (by omega)).mono ?_
  rintro e w12 ⟨rfl, b12⟩
  have z12 : w11.heap.size ≤ w12.heap.size := size_after (Nat.le_refl _) b12
  replace hK := hK.after b12
  replace o0 := o0.below b12
  replace u0 := u0.below b12
  replace o1 := o1.below b12
  replace u1 := u1.below b12
  clear b12
  go_wp2_with (refine wpList_load_all rfl 33 _ rfl w6.heap.size rfl _ _ _ (by exact (hK.box (w6.heap.size, .cells #[.int .i64 rp, .int .i64 rn, .slice A1 rs.length c1, .slice B1 ru.length d1] 33 (0, 0)) (by simp))) Try.underlying33 rfl 4 (by kernel_rfl) rfl ?_)
  have hneg13 : ¬ (1 : Int) + (rs.length : Int) * 3 + (ru.length : Int) * 2 < 0 := by omega
  refine (markProgram_2 rp rn (1) _ _ (by simp) o1 u1 io1 iu1 hrl hrl2 (by omega)).mono ?_
  rintro e w13 ⟨rfl, S13, hH, hH2⟩
  have z13 : w12.heap.size ≤ w13.heap.size := Nat.le_trans (Nat.le_refl _) S13.size
  replace hK := hK.same S13 (by omega) (by intro b hb; simp only [List.mem_cons, List.not_mem_nil, or_false] at hb; rcases hb with rfl | rfl <;> (dsimp only; omega))
  replace o0 := o0.same io0 S13 (by omega)
  replace u0 := u0.same iu0 S13 (by omega)
  clear S13
  have s1 := o1.shp
  have s2 := u1.shp
  clear u1
  have ihH2 := iu1
  clear o1
  have ihH := io1
  go_wp2_with (refine wpList_load_all rfl 33 _ rfl w6.heap.size rfl _ _ _ (by exact (hK.box (w6.heap.size, .cells #[.int .i64 rp, .int .i64 rn, .slice A1 rs.length c1, .slice B1 ru.length d1] 33 (0, 0)) (by simp))) Try.underlying33 rfl 4 (by kernel_rfl) rfl ?_)
  refine (heldProgram_1 rp rn _ s1 s2 hH hH2 hrl hrl2).mono ?_
  rintro e w14 ⟨rfl, b14⟩
  have z14 : w13.heap.size ≤ w14.heap.size := size_after (Nat.le_refl _) b14
  replace hK := hK.after b14
  replace o0 := o0.below b14
  replace u0 := u0.below b14
  replace hH2 := hH2.below b14
  replace hH := hH.below b14
  clear b14
  go_wp2_with fail
  refine (toInt64SS_c zA zc zn z _ (hm_z.keep hK.below) (by omega) tl_z.out).mono ?_
  rintro e w15 ⟨v15, rfl, h15, b15⟩
  have z15 : w14.heap.size ≤ w15.heap.size := size_after (Nat.le_refl _) b15
  replace hK := hK.after b15
  replace o0 := o0.below b15
  replace u0 := u0.below b15
  replace hH2 := hH2.below b15
  replace hH := hH.below b15
  clear b15
  obtain ⟨A15, c15, rfl, _⟩ := h15.rd
  replace h15 := h15.mono (Nat.le_refl _) (Nat.le_refl _)
  go_wp2_with fail
  refine (HIm.out _ _ _ (h15.rd')).mono ?_
  rintro e w16 ⟨v16, u916, rfl, o2, u2, b16⟩
  have z16 : w15.heap.size ≤ w16.heap.size := size_after (Nat.le_refl _) b16
  replace hK := hK.after b16
  replace o0 := o0.below b16
  replace u0 := u0.below b16
  replace hH2 := hH2.below b16
  replace hH := hH.below b16
  replace h15 := h15.below b16
  clear b16
  clear h15
  replace o2 := o2.mono (Nat.le_refl _)
  replace u2 := u2.mono (Nat.le_refl _)
  have io2 := o2.inn
  have iu2 := u2.inn
  obtain ⟨A2, c2, rfl, _⟩ := o2.rd
  obtain ⟨B2, d2, rfl, _⟩ := u2.rd
  have bx := below1 w16 (.cells #[.int .i64 rp, .int .i64 rn, .slice A2 rs.length c2, .slice B2 ru.length d2] 33 (0, 0))
  replace hK := hK.after bx
  replace o0 := o0.below bx
  replace u0 := u0.below bx
  replace hH2 := hH2.below bx
  replace hH := hH.below bx
  replace o2 := o2.below bx
  replace u2 := u2.below bx
  have hx := al1_0 w16 (.cells #[.int .i64 rp, .int .i64 rn, .slice A2 rs.length c2, .slice B2 ru.length d2] 33 (0, 0))
  replace hK : KA w [(w16.heap.size, .cells #[.int .i64 rp, .int .i64 rn, .slice A2 rs.length c2, .slice B2 ru.length d2] 33 (0, 0)), (w6.heap.size, .cells #[.int .i64 rp, .int .i64 rn, .slice A1 rs.length c1, .slice B1 ru.length d1] 33 (0, 0)), (w3.heap.size, .cells #[.int .i64 rp, .int .i64 rn, .slice A0 rs.length c0, .slice B0 ru.length d0] 33 (0, 0))] _ := hK.more hx
  clear bx hx
  go_wp2_with (first | (refine wpList_load_all rfl 33 _ rfl w16.heap.size rfl _ _ _ (by exact (hK.box (w16.heap.size, .cells #[.int .i64 rp, .int .i64 rn, .slice A2 rs.length c2, .slice B2 ru.length d2] 33 (0, 0)) (by simp))) Try.underlying33 rfl 4 (by kernel_rfl) rfl ?_) | (refine wpList_load_all rfl 33 _ rfl w3.heap.size rfl _ _ _ (by exact (hK.box (w3.heap.size, .cells #[.int .i64 rp, .int .i64 rn, .slice A0 rs.length c0, .slice B0 ru.length d0] 33 (0, 0)) (by simp))) Try.underlying33 rfl 4 (by kernel_rfl) rfl ?_))
  refine (eqProgram_c rp rn _ _ _ _ _ _ _ _ rs ru _ (o2.rd') (u2.rd') (o0.rd') (u0.rd') (by omega) (by omega)).mono ?_
  rintro e w18 ⟨rfl, b18⟩
  have z18 : w16.heap.size + 1 ≤ w18.heap.size := size_after (Nat.le_of_eq (size_al1 w16 (.cells #[.int .i64 rp, .int .i64 rn, .slice A2 rs.length c2, .slice B2 ru.length d2] 33 (0, 0))).symm) b18
  replace hK := hK.after b18
  replace o0 := o0.below b18
  replace u0 := u0.below b18
  replace hH2 := hH2.below b18
  replace hH := hH.below b18
  replace o2 := o2.below b18
  replace u2 := u2.below b18
  clear b18
  clear o2 o0 u2 u0
  go_wp2_with (refine wpList_load_all rfl 33 _ rfl w6.heap.size rfl _ _ _ (by exact (hK.box (w6.heap.size, .cells #[.int .i64 rp, .int .i64 rn, .slice A1 rs.length c1, .slice B1 ru.length d1] 33 (0, 0)) (by simp))) Try.underlying33 rfl 4 (by kernel_rfl) rfl ?_)
  refine (heldProgram_1 rp rn _ s1 s2 hH hH2 hrl hrl2).mono ?_
  rintro e w19 ⟨rfl, b19⟩
  have z19 : w18.heap.size ≤ w19.heap.size := size_after (Nat.le_refl _) b19
  replace hK := hK.after b19
  replace hH2 := hH2.below b19
  replace hH := hH.below b19
  clear b19
  go_wp2_with fail
  go_ret
  exact ⟨rfl, hK.below⟩
end Go.Proofs.Ytoaibfbamecdlaa
