/-
  laws.FnExactIsScheme: the walk: it returns true and writes nothing that was there.
-/
import Derived.Test.YtgjcfgieecamdaaImplIs
import Derived.Deep.RegionWith
namespace Go.Proofs.Ytgjcfgieecamdaa
open Go.RowKit
set_option maxRecDepth 100000
set_option maxHeartbeats 1600000 in
theorem lawIsScheme_walk (p n m k : Int) (A : Option Addr) (c : Nat) (qs : List (List Nat)) (w : World) (hr : Rd w A qs) (hn : qs.length ≤ 9223372036854775807) :
    Calls Try.prog 3 #[.agg #[.int .i64 p, .int .i64 n, .int .i64 m, .int .i64 k, .slice A qs.length c]] w fun e w' => e = .returned (.bool true) ∧ Below w.heap.size w w' := by
  by_cases hbig : (1048576 : Int) < (qs.length : Int)
  · have HS := Lib.hid (fun w => szScheme_c p n m k A qs.length c 1048576 w (by omega) hn (by omega))
    simp only [if_pos hbig] at HS
    go_enter Try.func3, Try.ntmps3
    go_wp2_with fail
    refine (HS.out _).mono ?_
    rintro e w1 ⟨rfl, b1⟩
    have hB := below_after (below1 _ _) b1
    go_wp2_with fail
    go_ret
    exact ⟨rfl, hB⟩
  · have hlen : qs.length ≤ 1048576 := by omega
    have HS := Lib.hid (fun w => szScheme_c p n m k A qs.length c 1048576 w (by omega) hn (by omega))
    simp only [if_neg hbig] at HS
    have h0' : ¬ (1048576 : Int) - (qs.length : Int) < 0 := by omega
    clear hbig
    go_enter Try.func3, Try.ntmps3
    go_wp2_with fail
    refine (HS.out _).mono ?_
    rintro e w1 ⟨rfl, b1⟩
    have hB := below_after (below1 _ _) b1
    have h0 := At.after (al1_0 _ _) b1
    clear b1 HS
    go_wp2_with (refine wpList_load_all rfl 24 _ rfl w.heap.size rfl _ _ _ h0 Try.underlying24 rfl 5 (by kernel_rfl) rfl ?_)
    refine (toScheme_c p n m k A c qs _ (hr.keep hB) hlen).mono ?_
    rintro e w2 ⟨g2, rfl, hg2, hA2, b2⟩
    replace hB := below_after hB b2
    replace h0 := h0.after b2
    clear b2
    go_wp2_with fail
    refine (specIsScheme_c p n m k _ _ qs _ (Rd.of_at hA2 hr.good) hlen).mono ?_
    rintro e w3 ⟨rfl, b3⟩
    replace hB := below_after hB b3
    replace h0 := h0.after b3
    clear b3 hA2 hg2
    go_wp2_with (refine wpList_load_all rfl 24 _ rfl w.heap.size rfl _ _ _ h0 Try.underlying24 rfl 5 (by kernel_rfl) rfl ?_)
    refine (toScheme_c p n m k A c qs _ (hr.keep hB) hlen).mono ?_
    rintro e w4 ⟨g4, rfl, hg4, hA4, b4⟩
    replace hB := below_after hB b4
    replace h0 := h0.after b4
    clear b4 hg4
    go_wp2_with fail
    refine (implIsScheme_c p n m k _ _ qs _ ((Rd.of_at hA4 hr.good).keep (below1 _ _)) hlen).mono ?_
    rintro e w5 ⟨rfl, b5⟩
    have hA5 := At.after (New.alloc w4 _).at_ b5
    replace hA4 := At.after ((New.alloc w4 _).old hA4) b5
    replace h0 := At.after ((New.alloc w4 _).old h0) b5
    replace hB := below_after (below_after hB (below1 _ _)) b5
    clear b5
    have hbb : (schemeB p n m k qs != schemeB p n m k qs) = false := by simp
    go_wp2_with fail
    have x0 : w5.cell? ⟨w4.heap.size, 0, none⟩ = some (.int .i64 p) := hA5.at_ 0
    have x1 : w5.cell? ⟨w4.heap.size, 1, none⟩ = some (.int .i64 n) := hA5.at_ 1
    have x2 : w5.cell? ⟨w4.heap.size, 2, none⟩ = some (.int .i64 m) := hA5.at_ 2
    have x3 : w5.cell? ⟨w4.heap.size, 3, none⟩ = some (.int .i64 k) := hA5.at_ 3
    have x4 : w5.cell? ⟨w4.heap.size, 4, none⟩ = some (.slice (some ⟨g4, 0, none⟩) qs.length qs.length) := hA5.at_ 4
    have y0 : w5.cell? ⟨w.heap.size, 0, none⟩ = some (.int .i64 p) := h0.at_ 0
    have y1 : w5.cell? ⟨w.heap.size, 1, none⟩ = some (.int .i64 n) := h0.at_ 1
    have y2 : w5.cell? ⟨w.heap.size, 2, none⟩ = some (.int .i64 m) := h0.at_ 2
    have y3 : w5.cell? ⟨w.heap.size, 3, none⟩ = some (.int .i64 k) := h0.at_ 3
    have y4 : w5.cell? ⟨w.heap.size, 4, none⟩ = some (.slice A qs.length c) := h0.at_ 4
    go_region_with (first | (go_at_call 8; refine (toScheme_c p n m k A c qs _ (hr.keep hB.drew) hlen).mono ?_; rintro e w6 ⟨g6, rfl, hg6, hA6, b6⟩; have z0 : w6.cell? ⟨w4.heap.size, 0, none⟩ = some (.int .i64 p) := (At.after (hA5.drewN 1) b6).at_ 0; have z1 : w6.cell? ⟨w4.heap.size, 1, none⟩ = some (.int .i64 n) := (At.after (hA5.drewN 1) b6).at_ 1; have z2 : w6.cell? ⟨w4.heap.size, 2, none⟩ = some (.int .i64 m) := (At.after (hA5.drewN 1) b6).at_ 2; have z3 : w6.cell? ⟨w4.heap.size, 3, none⟩ = some (.int .i64 k) := (At.after (hA5.drewN 1) b6).at_ 3; have z4 : w6.cell? ⟨w4.heap.size, 4, none⟩ = some (.slice (some ⟨g4, 0, none⟩) qs.length qs.length) := (At.after (hA5.drewN 1) b6).at_ 4; have hA7 := At.after (hA4.drewN 1) b6; have hB7 := below_after hB.drew b6) | (go_at_call 10; refine (eqScheme_c p n m k _ _ _ _ qs _ (Rd.of_at hA7 hr.good) (Rd.of_at hA6 hr.good) (by omega)).mono ?_; rintro e w8 ⟨rfl, b8⟩; have hB8 := below_after hB7 b8))
    all_goals
      go_wp2_with fail
      go_ret
      exact ⟨rfl, hB8⟩
end Go.Proofs.Ytgjcfgieecamdaa
