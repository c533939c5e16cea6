/-
  laws.FnExactKaratsubaMethod: the walk: it returns true and writes nothing that was there. (Made by genlaw2.py.)
-/
import Derived.Test.YtdbcgbbokodndaaLK1
import Derived.Test.YtdbcgbbokodndaaMth1
namespace Go.Proofs.Ytdbcgbbokodndaa
open Go.RowKit
set_option maxRecDepth 100000
theorem ka_world {w wr : World} {bs : List (Nat × Obj)} (_ : KA w bs wr) : ∃ x : World, x = wr := ⟨wr, rfl⟩
set_option maxHeartbeats 6400000 in
theorem lawKaratsubaMethod_walk (a : Int) (rp rn rm rk : Int) (rs : List (List Nat)) (code : Int) (w : World)  (hrb : ∀ r ∈ rs, Bytes 27 r) (hrl : rs.length ≤ 1048576)
    (hS : (∀  (w : World), Calls Try.prog 27 #[.int .i64 a] w (ResH w rp rn rm rk rs code)))
    (hI : (∀  (w : World), Calls Try.prog 28 #[.int .i64 a] w (ResH w rp rn rm rk rs code))) :
    Calls Try.prog 7 #[.int .i64 a] w fun e w' => e = .returned (.bool true) ∧ Below w.heap.size w w' := by
  have Hrb := Lib.hid hrb
  have hcode : (code != code) = false := by simp
  go_enter Try.func7, Try.ntmps7
  have HSp := Lib.hid hS
  have HIm := Lib.hid hI
  clear hS hI
  have hK : KA w [] w := ⟨Below.refl _ _, by intro b hb; cases hb⟩
  go_wp2_with fail
  refine (HSp.out _).mono ?_
  rintro e w1 ⟨v1, rfl, o0, b1⟩
  have z1 : w.heap.size ≤ w1.heap.size := size_after (Nat.le_refl _) b1
  replace hK := hK.after b1
  clear b1
  replace o0 := o0.mono (Nat.le_refl _)
  have io0 := o0.inn
  obtain ⟨A0, c0, rfl, _⟩ := o0.rd Hrb.out
  have bx := below1 w1 (.cells #[.int .i64 rp, .int .i64 rn, .int .i64 rm, .int .i64 rk, .slice A0 rs.length c0] 28 (0, 0))
  replace hK := hK.after bx
  replace o0 := o0.below bx
  have hx := al1_0 w1 (.cells #[.int .i64 rp, .int .i64 rn, .int .i64 rm, .int .i64 rk, .slice A0 rs.length c0] 28 (0, 0))
  replace hK : KA w [(w1.heap.size, .cells #[.int .i64 rp, .int .i64 rn, .int .i64 rm, .int .i64 rk, .slice A0 rs.length c0] 28 (0, 0))] _ := hK.more hx
  clear bx hx
  go_wp2_with fail
  refine (HIm.out _).mono ?_
  rintro e w3 ⟨v3, rfl, o1, b3⟩
  have z3 : w1.heap.size + 1 ≤ w3.heap.size := size_after (Nat.le_of_eq (size_al1 w1 (.cells #[.int .i64 rp, .int .i64 rn, .int .i64 rm, .int .i64 rk, .slice A0 rs.length c0] 28 (0, 0))).symm) b3
  replace hK := hK.after b3
  replace o0 := o0.below b3
  clear b3
  replace o1 := o1.mono (Nat.le_of_eq (size_al1 w1 (.cells #[.int .i64 rp, .int .i64 rn, .int .i64 rm, .int .i64 rk, .slice A0 rs.length c0] 28 (0, 0))).symm)
  have io1 := o1.inn
  obtain ⟨A1, c1, rfl, _⟩ := o1.rd Hrb.out
  have bx := below1 w3 (.cells #[.int .i64 rp, .int .i64 rn, .int .i64 rm, .int .i64 rk, .slice A1 rs.length c1] 28 (0, 0))
  replace hK := hK.after bx
  replace o0 := o0.below bx
  replace o1 := o1.below bx
  have hx := al1_0 w3 (.cells #[.int .i64 rp, .int .i64 rn, .int .i64 rm, .int .i64 rk, .slice A1 rs.length c1] 28 (0, 0))
  replace hK : KA w [(w3.heap.size, .cells #[.int .i64 rp, .int .i64 rn, .int .i64 rm, .int .i64 rk, .slice A1 rs.length c1] 28 (0, 0)), (w1.heap.size, .cells #[.int .i64 rp, .int .i64 rn, .int .i64 rm, .int .i64 rk, .slice A0 rs.length c0] 28 (0, 0))] _ := hK.more hx
  clear bx hx
  go_wp2_with (first | (refine wpList_load_all rfl 28 _ rfl w3.heap.size rfl _ _ _ (by exact (hK.box (w3.heap.size, .cells #[.int .i64 rp, .int .i64 rn, .int .i64 rm, .int .i64 rk, .slice A1 rs.length c1] 28 (0, 0)) (by simp))) Try.underlying28 rfl 5 (by kernel_rfl) rfl ?_) | (refine wpList_load_all rfl 28 _ rfl w1.heap.size rfl _ _ _ (by exact (hK.box (w1.heap.size, .cells #[.int .i64 rp, .int .i64 rn, .int .i64 rm, .int .i64 rk, .slice A0 rs.length c0] 28 (0, 0)) (by simp))) Try.underlying28 rfl 5 (by kernel_rfl) rfl ?_))
  refine (eqMethod_c rp rn rm rk _ _ _ _ rs _ (o1.rd' Hrb.out) (o0.rd' Hrb.out) (by omega)).mono ?_
  rintro e w5 ⟨rfl, b5⟩
  have z5 : w3.heap.size + 1 ≤ w5.heap.size := size_after (Nat.le_of_eq (size_al1 w3 (.cells #[.int .i64 rp, .int .i64 rn, .int .i64 rm, .int .i64 rk, .slice A1 rs.length c1] 28 (0, 0))).symm) b5
  replace hK := hK.after b5
  replace o0 := o0.below b5
  replace o1 := o1.below b5
  clear b5
  go_wp2_with (refine wpList_load_all rfl 28 _ rfl w3.heap.size rfl _ _ _ (by exact (hK.box (w3.heap.size, .cells #[.int .i64 rp, .int .i64 rn, .int .i64 rm, .int .i64 rk, .slice A1 rs.length c1] 28 (0, 0)) (by simp))) Try.underlying28 rfl 5 (by kernel_rfl) rfl ?_)
  have hneg6 : ¬ (1 : Int) + (rs.length : Int) * 27 < 0 := by omega
  refine (markMethod_2 rp rn rm rk (1) _ _ (by simp) o1 hrl (by omega)).mono ?_
  rintro e w6 ⟨rfl, hG, hH⟩
  have S6 := Same.of_in hG io1
  have z6 : w5.heap.size ≤ w6.heap.size := Nat.le_trans (Nat.le_refl _) S6.size
  replace hK := hK.grown o1 (by omega) hG (by intro b hb; simp only [List.mem_cons, List.not_mem_nil, or_false] at hb; rcases hb with rfl | rfl <;> exact ⟨_, _, rfl, by decide⟩)
  replace o0 := o0.same io0 S6 (by omega)
  clear S6 hG
  have s1 := o1.shp
  clear o1
  have ihH := io1
  go_wp2_with (refine wpList_load_all rfl 28 _ rfl w3.heap.size rfl _ _ _ (by exact (hK.box (w3.heap.size, .cells #[.int .i64 rp, .int .i64 rn, .int .i64 rm, .int .i64 rk, .slice A1 rs.length c1] 28 (0, 0)) (by simp))) Try.underlying28 rfl 5 (by kernel_rfl) rfl ?_)
  refine (heldMethod_1 rp rn rm rk _ s1 hH hrl).mono ?_
  rintro e w7 ⟨rfl, b7⟩
  have z7 : w6.heap.size ≤ w7.heap.size := size_after (Nat.le_refl _) b7
  replace hK := hK.after b7
  replace o0 := o0.below b7
  replace hH := hH.below b7
  clear b7
  go_wp2_with fail
  refine (HIm.out _).mono ?_
  rintro e w8 ⟨v8, rfl, o2, b8⟩
  have z8 : w7.heap.size ≤ w8.heap.size := size_after (Nat.le_refl _) b8
  replace hK := hK.after b8
  replace o0 := o0.below b8
  replace hH := hH.below b8
  clear b8
  replace o2 := o2.mono (Nat.le_refl _)
  have io2 := o2.inn
  obtain ⟨A2, c2, rfl, _⟩ := o2.rd Hrb.out
  have bx := below1 w8 (.cells #[.int .i64 rp, .int .i64 rn, .int .i64 rm, .int .i64 rk, .slice A2 rs.length c2] 28 (0, 0))
  replace hK := hK.after bx
  replace o0 := o0.below bx
  replace hH := hH.below bx
  replace o2 := o2.below bx
  have hx := al1_0 w8 (.cells #[.int .i64 rp, .int .i64 rn, .int .i64 rm, .int .i64 rk, .slice A2 rs.length c2] 28 (0, 0))
  replace hK : KA w [(w8.heap.size, .cells #[.int .i64 rp, .int .i64 rn, .int .i64 rm, .int .i64 rk, .slice A2 rs.length c2] 28 (0, 0)), (w3.heap.size, .cells #[.int .i64 rp, .int .i64 rn, .int .i64 rm, .int .i64 rk, .slice A1 rs.length c1] 28 (0, 0)), (w1.heap.size, .cells #[.int .i64 rp, .int .i64 rn, .int .i64 rm, .int .i64 rk, .slice A0 rs.length c0] 28 (0, 0))] _ := hK.more hx
  clear bx hx
  go_wp2_with (first | (refine wpList_load_all rfl 28 _ rfl w8.heap.size rfl _ _ _ (by exact (hK.box (w8.heap.size, .cells #[.int .i64 rp, .int .i64 rn, .int .i64 rm, .int .i64 rk, .slice A2 rs.length c2] 28 (0, 0)) (by simp))) Try.underlying28 rfl 5 (by kernel_rfl) rfl ?_) | (refine wpList_load_all rfl 28 _ rfl w1.heap.size rfl _ _ _ (by exact (hK.box (w1.heap.size, .cells #[.int .i64 rp, .int .i64 rn, .int .i64 rm, .int .i64 rk, .slice A0 rs.length c0] 28 (0, 0)) (by simp))) Try.underlying28 rfl 5 (by kernel_rfl) rfl ?_))
  refine (eqMethod_c rp rn rm rk _ _ _ _ rs _ (o2.rd' Hrb.out) (o0.rd' Hrb.out) (by omega)).mono ?_
  rintro e w10 ⟨rfl, b10⟩
  have z10 : w8.heap.size + 1 ≤ w10.heap.size := size_after (Nat.le_of_eq (size_al1 w8 (.cells #[.int .i64 rp, .int .i64 rn, .int .i64 rm, .int .i64 rk, .slice A2 rs.length c2] 28 (0, 0))).symm) b10
  replace hK := hK.after b10
  replace o0 := o0.below b10
  replace hH := hH.below b10
  replace o2 := o2.below b10
  clear b10
  clear o2 o0
  go_wp2_with (refine wpList_load_all rfl 28 _ rfl w3.heap.size rfl _ _ _ (by exact (hK.box (w3.heap.size, .cells #[.int .i64 rp, .int .i64 rn, .int .i64 rm, .int .i64 rk, .slice A1 rs.length c1] 28 (0, 0)) (by simp))) Try.underlying28 rfl 5 (by kernel_rfl) rfl ?_)
  refine (heldMethod_1 rp rn rm rk _ s1 hH hrl).mono ?_
  rintro e w11 ⟨rfl, b11⟩
  have z11 : w10.heap.size ≤ w11.heap.size := size_after (Nat.le_refl _) b11
  replace hK := hK.after b11
  replace hH := hH.below b11
  clear b11
  go_wp2_with fail
  go_ret
  exact ⟨rfl, hK.below⟩
end Go.Proofs.Ytdbcgbbokodndaa
