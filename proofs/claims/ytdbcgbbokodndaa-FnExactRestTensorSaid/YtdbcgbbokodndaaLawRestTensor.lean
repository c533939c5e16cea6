/-
  laws.FnExactRestTensor: the walk: it returns true and writes nothing that was there. (Made by genlaw2.py.)
-/
import Derived.Test.YtdbcgbbokodndaaTen1
namespace Go.Proofs.Ytdbcgbbokodndaa
open Go.RowKit
set_option maxRecDepth 100000
theorem ka_world {w wr : World} {bs : List (Nat × Obj)} (_ : KA w bs wr) : ∃ x : World, x = wr := ⟨wr, rfl⟩
set_option maxHeartbeats 6400000 in
theorem lawRestTensor_walk (a : Int) (xsA : Option Addr) (xsc : Nat) (xs : List Int) (rp rn rm rk : Int) (rs : List Int) (code : Int) (w : World) (hm_xs : RdI w xsA xs) (hn_xs : xs.length ≤ 9223372036854775807) (hrl : rs.length ≤ 1048576)
    (hS : (xs.length ≤ 1048576 → ∀ (gxs : Nat) (w : World), RdI w (some ⟨gxs, 0, none⟩) xs → Calls Try.prog 17 #[.int .i64 a, .slice (some ⟨gxs, 0, none⟩) xs.length xs.length] w (ResT w rp rn rm rk rs code)))
    (hI : (xs.length ≤ 1048576 → ∀ (gxs : Nat) (w : World), RdI w (some ⟨gxs, 0, none⟩) xs → Calls Try.prog 19 #[.int .i64 a, .slice (some ⟨gxs, 0, none⟩) xs.length xs.length] w (ResT w rp rn rm rk rs code))) :
    Calls Try.prog 4 #[.int .i64 a, .slice xsA xs.length xsc] w fun e w' => e = .returned (.bool true) ∧ Below w.heap.size w w' := by
  have hcode : (code != code) = false := by simp
  go_enter Try.func4, Try.ntmps4
  have hK : KA w [] w := ⟨Below.refl _ _, by intro b hb; cases hb⟩
  by_cases hL_xs : (1048576 : Int) < (xs.length : Int)
  · go_wp2_with fail
    go_ret
    exact ⟨rfl, hK.below⟩
  have t_xs : xs.length ≤ 1048576 := by omega
  have HSp := Lib.hid (hS t_xs)
  have HIm := Lib.hid (hI t_xs)
  clear hS hI
  go_wp2_with fail
  refine (toInt64S_c xsA xsc xs _ (hm_xs.keep hK.below) t_xs).mono ?_
  rintro e w1 ⟨g1, rfl, hg1, h1, b1⟩
  have z1 : w.heap.size ≤ w1.heap.size := size_after (Nat.le_refl _) b1
  replace hK := hK.after b1
  clear b1
  replace hg1 := Nat.le_trans (Nat.le_refl _) hg1
  go_wp2_with fail
  refine (HSp.out _ _ (RdI.of_iar h1)).mono ?_
  rintro e w2 ⟨v2, rfl, o0, b2⟩
  have z2 : w1.heap.size ≤ w2.heap.size := size_after (Nat.le_refl _) b2
  replace hK := hK.after b2
  replace h1 := h1.after b2
  clear b2
  clear h1
  replace o0 := o0.mono (Nat.le_refl _)
  have io0 := o0.inn
  obtain ⟨A0, c0, rfl, _⟩ := o0.rd
  have bx := below1 w2 (.cells #[.int .i64 rp, .int .i64 rn, .int .i64 rm, .int .i64 rk, .slice A0 rs.length c0] 31 (0, 0))
  replace hK := hK.after bx
  replace o0 := o0.below bx
  have hx := al1_0 w2 (.cells #[.int .i64 rp, .int .i64 rn, .int .i64 rm, .int .i64 rk, .slice A0 rs.length c0] 31 (0, 0))
  replace hK : KA w [(w2.heap.size, .cells #[.int .i64 rp, .int .i64 rn, .int .i64 rm, .int .i64 rk, .slice A0 rs.length c0] 31 (0, 0))] _ := hK.more hx
  clear bx hx
  go_wp2_with fail
  refine (toInt64S_c xsA xsc xs _ (hm_xs.keep hK.below) t_xs).mono ?_
  rintro e w4 ⟨g4, rfl, hg4, h4, b4⟩
  have z4 : w2.heap.size + 1 ≤ w4.heap.size := size_after (Nat.le_of_eq (size_al1 w2 (.cells #[.int .i64 rp, .int .i64 rn, .int .i64 rm, .int .i64 rk, .slice A0 rs.length c0] 31 (0, 0))).symm) b4
  replace hK := hK.after b4
  replace o0 := o0.below b4
  clear b4
  replace hg4 := Nat.le_trans (Nat.le_of_eq (size_al1 w2 (.cells #[.int .i64 rp, .int .i64 rn, .int .i64 rm, .int .i64 rk, .slice A0 rs.length c0] 31 (0, 0))).symm) hg4
  have oh4 := OwnI.of_at h4 hg4 t_xs
  have ioh4 := oh4.inn
  clear h4
  go_wp2_with fail
  refine (HIm.out _ _ (oh4.rd')).mono ?_
  rintro e w5 ⟨v5, rfl, o1, b5⟩
  have z5 : w4.heap.size ≤ w5.heap.size := size_after (Nat.le_refl _) b5
  replace hK := hK.after b5
  replace o0 := o0.below b5
  replace oh4 := oh4.below b5
  clear b5
  replace o1 := o1.mono (Nat.le_refl _)
  have io1 := o1.inn
  obtain ⟨A1, c1, rfl, _⟩ := o1.rd
  have bx := below1 w5 (.cells #[.int .i64 rp, .int .i64 rn, .int .i64 rm, .int .i64 rk, .slice A1 rs.length c1] 31 (0, 0))
  replace hK := hK.after bx
  replace o0 := o0.below bx
  replace oh4 := oh4.below bx
  replace o1 := o1.below bx
  have hx := al1_0 w5 (.cells #[.int .i64 rp, .int .i64 rn, .int .i64 rm, .int .i64 rk, .slice A1 rs.length c1] 31 (0, 0))
  replace hK : KA w [(w5.heap.size, .cells #[.int .i64 rp, .int .i64 rn, .int .i64 rm, .int .i64 rk, .slice A1 rs.length c1] 31 (0, 0)), (w2.heap.size, .cells #[.int .i64 rp, .int .i64 rn, .int .i64 rm, .int .i64 rk, .slice A0 rs.length c0] 31 (0, 0))] _ := hK.more hx
  clear bx hx
  go_wp2_with (first | (refine wpList_load_all rfl 31 _ rfl w5.heap.size rfl _ _ _ (by exact (hK.box (w5.heap.size, .cells #[.int .i64 rp, .int .i64 rn, .int .i64 rm, .int .i64 rk, .slice A1 rs.length c1] 31 (0, 0)) (by simp))) Try.underlying31 rfl 5 (by kernel_rfl) rfl ?_) | (refine wpList_load_all rfl 31 _ rfl w2.heap.size rfl _ _ _ (by exact (hK.box (w2.heap.size, .cells #[.int .i64 rp, .int .i64 rn, .int .i64 rm, .int .i64 rk, .slice A0 rs.length c0] 31 (0, 0)) (by simp))) Try.underlying31 rfl 5 (by kernel_rfl) rfl ?_))
  refine (eqTensor_c rp rn rm rk _ _ _ _ rs _ (o1.rd') (o0.rd') (by omega)).mono ?_
  rintro e w7 ⟨rfl, b7⟩
  have z7 : w5.heap.size + 1 ≤ w7.heap.size := size_after (Nat.le_of_eq (size_al1 w5 (.cells #[.int .i64 rp, .int .i64 rn, .int .i64 rm, .int .i64 rk, .slice A1 rs.length c1] 31 (0, 0))).symm) b7
  replace hK := hK.after b7
  replace o0 := o0.below b7
  replace oh4 := oh4.below b7
  replace o1 := o1.below b7
  clear b7
  go_wp2_with fail
  refine (toInt64S_c xsA xsc xs _ (hm_xs.keep hK.below) t_xs).mono ?_
  rintro e w8 ⟨g8, rfl, hg8, h8, b8⟩
  have z8 : w7.heap.size ≤ w8.heap.size := size_after (Nat.le_refl _) b8
  replace hK := hK.after b8
  replace o0 := o0.below b8
  replace oh4 := oh4.below b8
  replace o1 := o1.below b8
  clear b8
  replace hg8 := Nat.le_trans (Nat.le_refl _) hg8
  go_wp2_with fail
  refine (eqInt64S_c _ _ _ _ xs _ (oh4.rd') (RdI.of_iar h8) (by omega)).mono ?_
  rintro e w9 ⟨rfl, b9⟩
  have z9 : w8.heap.size ≤ w9.heap.size := size_after (Nat.le_refl _) b9
  replace hK := hK.after b9
  replace o0 := o0.below b9
  replace oh4 := oh4.below b9
  replace o1 := o1.below b9
  replace h8 := h8.after b9
  clear b9
  clear h8
  go_wp2_with fail
  refine (markInt64S_2 (1) _ _ (by simp) oh4 t_xs (by omega)).mono ?_
  rintro e w10 ⟨rfl, hG, hH⟩
  have S10 := Same.of_in hG ioh4
  have z10 : w9.heap.size ≤ w10.heap.size := Nat.le_trans (Nat.le_refl _) S10.size
  replace hK := hK.same S10 (by omega) (by intro b hb; simp only [List.mem_cons, List.not_mem_nil, or_false] at hb; rcases hb with rfl | rfl <;> (dsimp only; omega))
  replace o0 := o0.same io0 S10 (by omega)
  replace o1 := o1.same io1 S10 (by omega)
  clear S10 hG
  clear hH
  clear oh4
  go_wp2_with (first | (refine wpList_want_exec rfl (exec_load_all 31 _ rfl w5.heap.size rfl _ _ _ (by exact (hK.box (w5.heap.size, .cells #[.int .i64 rp, .int .i64 rn, .int .i64 rm, .int .i64 rk, .slice A1 rs.length c1] 31 (0, 0)) (by simp))) Try.underlying31 rfl 5 (by kernel_rfl) rfl) ?_) | (refine wpList_want_exec rfl (exec_load_all 31 _ rfl w2.heap.size rfl _ _ _ (by exact (hK.box (w2.heap.size, .cells #[.int .i64 rp, .int .i64 rn, .int .i64 rm, .int .i64 rk, .slice A0 rs.length c0] 31 (0, 0)) (by simp))) Try.underlying31 rfl 5 (by kernel_rfl) rfl) ?_))
  refine (eqTensor_c rp rn rm rk _ _ _ _ rs _ (o1.rd') (o0.rd') (by omega)).mono ?_
  rintro e w11 ⟨rfl, b11⟩
  have z11 : w10.heap.size ≤ w11.heap.size := size_after (Nat.le_refl _) b11
  replace hK := hK.after b11
  replace o0 := o0.below b11
  replace o1 := o1.below b11
  clear b11
  go_wp2_with (refine wpList_load_all rfl 31 _ rfl w5.heap.size rfl _ _ _ (by exact (hK.box (w5.heap.size, .cells #[.int .i64 rp, .int .i64 rn, .int .i64 rm, .int .i64 rk, .slice A1 rs.length c1] 31 (0, 0)) (by simp))) Try.underlying31 rfl 5 (by kernel_rfl) rfl ?_)
  have hneg12 : ¬ (1 : Int) + (rs.length : Int) < 0 := by omega
  refine (markTensor_2 rp rn rm rk (1) _ _ (by simp) o1 hrl (by omega)).mono ?_
  rintro e w12 ⟨rfl, hG, hH⟩
  have S12 := Same.of_in hG io1
  have z12 : w11.heap.size ≤ w12.heap.size := Nat.le_trans (Nat.le_refl _) S12.size
  replace hK := hK.same S12 (by omega) (by intro b hb; simp only [List.mem_cons, List.not_mem_nil, or_false] at hb; rcases hb with rfl | rfl <;> (dsimp only; omega))
  replace o0 := o0.same io0 S12 (by omega)
  clear S12 hG
  have s1 := o1.shp
  clear o1
  have ihH := io1
  go_wp2_with (refine wpList_load_all rfl 31 _ rfl w5.heap.size rfl _ _ _ (by exact (hK.box (w5.heap.size, .cells #[.int .i64 rp, .int .i64 rn, .int .i64 rm, .int .i64 rk, .slice A1 rs.length c1] 31 (0, 0)) (by simp))) Try.underlying31 rfl 5 (by kernel_rfl) rfl ?_)
  refine (heldTensor_1 rp rn rm rk _ s1 hH hrl).mono ?_
  rintro e w13 ⟨rfl, b13⟩
  have z13 : w12.heap.size ≤ w13.heap.size := size_after (Nat.le_refl _) b13
  replace hK := hK.after b13
  replace o0 := o0.below b13
  replace hH := hH.below b13
  clear b13
  go_wp2_with fail
  refine (toInt64S_c xsA xsc xs _ (hm_xs.keep hK.below) t_xs).mono ?_
  rintro e w14 ⟨g14, rfl, hg14, h14, b14⟩
  have z14 : w13.heap.size ≤ w14.heap.size := size_after (Nat.le_refl _) b14
  replace hK := hK.after b14
  replace o0 := o0.below b14
  replace hH := hH.below b14
  clear b14
  replace hg14 := Nat.le_trans (Nat.le_refl _) hg14
  go_wp2_with fail
  refine (HIm.out _ _ (RdI.of_iar h14)).mono ?_
  rintro e w15 ⟨v15, rfl, o2, b15⟩
  have z15 : w14.heap.size ≤ w15.heap.size := size_after (Nat.le_refl _) b15
  replace hK := hK.after b15
  replace o0 := o0.below b15
  replace hH := hH.below b15
  replace h14 := h14.after b15
  clear b15
  clear h14
  replace o2 := o2.mono (Nat.le_refl _)
  have io2 := o2.inn
  obtain ⟨A2, c2, rfl, _⟩ := o2.rd
  have bx := below1 w15 (.cells #[.int .i64 rp, .int .i64 rn, .int .i64 rm, .int .i64 rk, .slice A2 rs.length c2] 31 (0, 0))
  replace hK := hK.after bx
  replace o0 := o0.below bx
  replace hH := hH.below bx
  replace o2 := o2.below bx
  have hx := al1_0 w15 (.cells #[.int .i64 rp, .int .i64 rn, .int .i64 rm, .int .i64 rk, .slice A2 rs.length c2] 31 (0, 0))
  replace hK : KA w [(w15.heap.size, .cells #[.int .i64 rp, .int .i64 rn, .int .i64 rm, .int .i64 rk, .slice A2 rs.length c2] 31 (0, 0)), (w5.heap.size, .cells #[.int .i64 rp, .int .i64 rn, .int .i64 rm, .int .i64 rk, .slice A1 rs.length c1] 31 (0, 0)), (w2.heap.size, .cells #[.int .i64 rp, .int .i64 rn, .int .i64 rm, .int .i64 rk, .slice A0 rs.length c0] 31 (0, 0))] _ := hK.more hx
  clear bx hx
  go_wp2_with (first | (refine wpList_load_all rfl 31 _ rfl w15.heap.size rfl _ _ _ (by exact (hK.box (w15.heap.size, .cells #[.int .i64 rp, .int .i64 rn, .int .i64 rm, .int .i64 rk, .slice A2 rs.length c2] 31 (0, 0)) (by simp))) Try.underlying31 rfl 5 (by kernel_rfl) rfl ?_) | (refine wpList_load_all rfl 31 _ rfl w2.heap.size rfl _ _ _ (by exact (hK.box (w2.heap.size, .cells #[.int .i64 rp, .int .i64 rn, .int .i64 rm, .int .i64 rk, .slice A0 rs.length c0] 31 (0, 0)) (by simp))) Try.underlying31 rfl 5 (by kernel_rfl) rfl ?_))
  refine (eqTensor_c rp rn rm rk _ _ _ _ rs _ (o2.rd') (o0.rd') (by omega)).mono ?_
  rintro e w17 ⟨rfl, b17⟩
  have z17 : w15.heap.size + 1 ≤ w17.heap.size := size_after (Nat.le_of_eq (size_al1 w15 (.cells #[.int .i64 rp, .int .i64 rn, .int .i64 rm, .int .i64 rk, .slice A2 rs.length c2] 31 (0, 0))).symm) b17
  replace hK := hK.after b17
  replace o0 := o0.below b17
  replace hH := hH.below b17
  replace o2 := o2.below b17
  clear b17
  clear o2 o0
  go_wp2_with (refine wpList_load_all rfl 31 _ rfl w5.heap.size rfl _ _ _ (by exact (hK.box (w5.heap.size, .cells #[.int .i64 rp, .int .i64 rn, .int .i64 rm, .int .i64 rk, .slice A1 rs.length c1] 31 (0, 0)) (by simp))) Try.underlying31 rfl 5 (by kernel_rfl) rfl ?_)
  refine (heldTensor_1 rp rn rm rk _ s1 hH hrl).mono ?_
  rintro e w18 ⟨rfl, b18⟩
  have z18 : w17.heap.size ≤ w18.heap.size := size_after (Nat.le_refl _) b18
  replace hK := hK.after b18
  replace hH := hH.below b18
  clear b18
  go_wp2_with fail
  go_ret
  exact ⟨rfl, hK.below⟩
end Go.Proofs.Ytdbcgbbokodndaa
