/-
  laws.FnExactStandardScheme: the walk, out of the answers of both sides: it returns true and writes nothing that was there.
-/
import Derived.Test.YtgjcfgieecamdaaMark
namespace Go.Proofs.Ytgjcfgieecamdaa
open Go.RowKit
set_option maxRecDepth 100000
set_option maxHeartbeats 1600000 in
theorem lawStandard_walk (P N M K p n m k code : Int) (qs : List (List Nat)) (w : World) (hq : ∀ q ∈ qs, Bytes 27 q) (hlen : qs.length ≤ 1048576)
    (hS : ∀ w, Calls Try.prog 11 #[.int .i64 P, .int .i64 N, .int .i64 M, .int .i64 K] w (ResS w p n m k qs code))
    (hI : ∀ w, Calls Try.prog 12 #[.int .i64 P, .int .i64 N, .int .i64 M, .int .i64 K] w (ResS w p n m k qs code)) :
    Calls Try.prog 4 #[.int .i64 P, .int .i64 N, .int .i64 M, .int .i64 K] w fun e w' => e = .returned (.bool true) ∧ Below w.heap.size w w' := by
  have HS := Lib.hid hS
  have HI := Lib.hid hI
  have Hq := Lib.hid hq
  have hcode : (code != code) = false := by simp
  clear hS hI hq
  go_enter Try.func4, Try.ntmps4
  go_wp2_with fail
  refine (HS.out _).mono ?_
  rintro e w1 ⟨v0, rfl, o0, hB⟩
  obtain ⟨A0, c0, rfl, _⟩ := o0.rd Hq.out
  go_wp2_with fail
  refine (HI.out _).mono ?_
  rintro e w2 ⟨v1, rfl, o1, b2⟩
  obtain ⟨A1, c1, rfl, _⟩ := o1.rd Hq.out
  have n0 := Own.away (al1_0 w1 _) o1 (Nat.le_refl _)
  have n01 := Own.ne (o0.below (below1 w1 _)) o1 (Nat.le_refl _)
  have ll : w.heap.size ≤ w1.heap.size := hB.size
  have ll2 : w.heap.size ≤ (w1.alloc (.cells #[.int .i64 p, .int .i64 n, .int .i64 m, .int .i64 k, .slice A0 qs.length c0] 29 (0, 0))).heap.size := by rw [size_al1]; omega
  have h0 := At.after (al1_0 w1 _) b2
  replace o0 := (o0.below (below1 w1 _)).below b2
  replace hB := below_after (below_after hB (below1 w1 _)) b2
  go_wp2_with (first | (refine wpList_load_all rfl 29 _ rfl w2.heap.size rfl _ _ _ (by exact (New.alloc w2 _).at_) Try.underlying29 rfl 5 (by kernel_rfl) rfl ?_) | (refine wpList_load_all rfl 29 _ rfl w1.heap.size rfl _ _ _ (by exact h0.after (below1 w2 _)) Try.underlying29 rfl 5 (by kernel_rfl) rfl ?_))
  refine (eqScheme_c p n m k _ _ _ _ qs _ ((o1.below (below1 w2 _)).rd' Hq.out) ((o0.below (below1 w2 _)).rd' Hq.out) (by omega)).mono ?_
  rintro e w3 ⟨rfl, b3⟩
  have h1 := At.after (New.alloc w2 _).at_ b3
  have n1 := o1.away_new
  replace h0 := (h0.after (below1 w2 _)).after b3
  replace o0 := (o0.below (below1 w2 _)).below b3
  replace o1 := (o1.below (below1 w2 _)).below b3
  replace hB := below_after (below_after hB (below1 w2 _)) b3
  go_wp2_with (refine wpList_load_all rfl 29 _ rfl w2.heap.size rfl _ _ _ h1 Try.underlying29 rfl 5 (by kernel_rfl) rfl ?_)
  refine (markScheme_1 p n m k _ o1 hlen).mono ?_
  rintro e w4 ⟨rfl, hG, hH⟩
  replace hB := below_grown hB hG o1 ll2
  replace h0 := h0.grown hG n0
  replace h1 := h1.grown hG n1
  replace o0 := o0.grown hG n01
  have s1 := o1.shp
  clear o1 hG n0 n1 n01 ll ll2 b2 b3
  have hneg : ¬ (1 : Int) + (qs.length : Int) * 27 < 0 := by omega
  go_wp2_with (refine wpList_load_all rfl 29 _ rfl w2.heap.size rfl _ _ _ h1 Try.underlying29 rfl 5 (by kernel_rfl) rfl ?_)
  refine (heldScheme_1 p n m k _ s1 hH hlen).mono ?_
  rintro e w5 ⟨rfl, b5⟩
  replace h0 := h0.after b5
  replace h1 := h1.after b5
  replace o0 := o0.below b5
  replace hH := hH.below b5
  replace hB := below_after hB b5
  clear b5
  go_wp2_with fail
  refine (HI.out _).mono ?_
  rintro e w6 ⟨v2, rfl, o2, b6⟩
  obtain ⟨A2, c2, rfl, _⟩ := o2.rd Hq.out
  replace h0 := (h0.after b6).after (below1 w6 (.cells #[.int .i64 p, .int .i64 n, .int .i64 m, .int .i64 k, .slice A2 qs.length c2] 29 (0, 0)))
  replace h1 := (h1.after b6).after (below1 w6 (.cells #[.int .i64 p, .int .i64 n, .int .i64 m, .int .i64 k, .slice A2 qs.length c2] 29 (0, 0)))
  replace o0 := (o0.below b6).below (below1 w6 (.cells #[.int .i64 p, .int .i64 n, .int .i64 m, .int .i64 k, .slice A2 qs.length c2] 29 (0, 0)))
  replace o2 := o2.below (below1 w6 (.cells #[.int .i64 p, .int .i64 n, .int .i64 m, .int .i64 k, .slice A2 qs.length c2] 29 (0, 0)))
  replace hH := (hH.below b6).below (below1 w6 (.cells #[.int .i64 p, .int .i64 n, .int .i64 m, .int .i64 k, .slice A2 qs.length c2] 29 (0, 0)))
  replace hB := below_after (below_after hB b6) (below1 w6 (.cells #[.int .i64 p, .int .i64 n, .int .i64 m, .int .i64 k, .slice A2 qs.length c2] 29 (0, 0)))
  clear b6
  go_wp2_with (first | (refine wpList_load_all rfl 29 _ rfl w6.heap.size rfl _ _ _ (by exact (New.alloc w6 _).at_) Try.underlying29 rfl 5 (by kernel_rfl) rfl ?_) | (refine wpList_load_all rfl 29 _ rfl w1.heap.size rfl _ _ _ (by exact h0) Try.underlying29 rfl 5 (by kernel_rfl) rfl ?_))
  refine (eqScheme_c p n m k _ _ _ _ qs _ (o2.rd' Hq.out) (o0.rd' Hq.out) (by omega)).mono ?_
  rintro e w7 ⟨rfl, b7⟩
  replace h1 := h1.after b7
  replace hH := hH.below b7
  replace hB := below_after hB b7
  clear b7 o0 o2 h0
  go_wp2_with (refine wpList_load_all rfl 29 _ rfl w2.heap.size rfl _ _ _ h1 Try.underlying29 rfl 5 (by kernel_rfl) rfl ?_)
  refine (heldScheme_1 p n m k _ s1 hH hlen).mono ?_
  rintro e w8 ⟨rfl, b8⟩
  replace hB := below_after hB b8
  go_wp2_with fail
  go_ret
  exact ⟨rfl, hB⟩
end Go.Proofs.Ytgjcfgieecamdaa
