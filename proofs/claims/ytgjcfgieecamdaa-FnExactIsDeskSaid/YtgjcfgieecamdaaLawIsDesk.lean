/-
  laws.FnExactIsDesk: the walk: it returns true and writes nothing that was there. (Made by mkdkl.py.)
-/
import Derived.Test.YtgjcfgieecamdaaDk1
import Derived.Deep.RegionWith
namespace Go.Proofs.Ytgjcfgieecamdaa
open Go.RowKit
set_option maxRecDepth 100000
set_option maxHeartbeats 3200000 in
theorem lawIsDesk (xp xn xm xk : Int) (xA : Option Addr) (xc : Nat) (xq : List (List Nat)) (yp yn ym yk : Int) (yA : Option Addr) (yc : Nat) (yq : List (List Nat)) (w : World) (hrx : Rd w xA xq) (hnx : xq.length ≤ 9223372036854775807) (hry : Rd w yA yq) (hny : yq.length ≤ 9223372036854775807) :
    Calls Try.prog 5 #[.agg #[.int .i64 xp, .int .i64 xn, .int .i64 xm, .int .i64 xk, .slice xA xq.length xc, .int .i64 yp, .int .i64 yn, .int .i64 ym, .int .i64 yk, .slice yA yq.length yc]] w fun e w' => e = .returned (.bool true) ∧ Below w.heap.size w w' := by
  by_cases hbig : 1048576 < xq.length + yq.length
  · have hz : szD xq.length yq.length = -1 := by
      unfold szD
      by_cases h : 1048576 < xq.length
      · rw [if_pos h]
      · rw [if_neg h, if_pos hbig]
    have HS := Lib.hid (fun w => szDesk_c xp xn xm xk xA xc xq yp yn ym yk yA yc yq w hnx hny)
    simp only [hz] at HS
    go_enter Try.func5, Try.ntmps5
    go_wp2_with fail
    refine (HS.out _).mono ?_
    rintro e w1 ⟨rfl, b1⟩
    have hB := below_after (below1 _ _) b1
    go_wp2_with fail
    go_ret
    exact ⟨rfl, hB⟩
  · have hlx : xq.length ≤ 1048576 := by omega
    have hly : yq.length ≤ 1048576 := by omega
    have hz : szD xq.length yq.length = 1048576 - (xq.length : Int) - (yq.length : Int) := by unfold szD; rw [if_neg (by omega), if_neg (by omega)]
    have HS := Lib.hid (fun w => szDesk_c xp xn xm xk xA xc xq yp yn ym yk yA yc yq w hnx hny)
    simp only [hz] at HS
    have h0' : ¬ (1048576 : Int) - (xq.length : Int) - (yq.length : Int) < 0 := by omega
    clear hbig hz
    go_enter Try.func5, Try.ntmps5
    go_wp2_with fail
    refine (HS.out _).mono ?_
    rintro e w1 ⟨rfl, b1⟩
    have hB := below_after (below1 _ _) b1
    have h0 := At.after (al1_0 _ _) b1
    clear b1 HS
    go_wp2_with (refine wpList_load_all rfl 38 _ rfl w.heap.size rfl _ _ _ h0 Try.underlying38 rfl 10 (by kernel_rfl) rfl ?_)
    refine (toDesk_c xp xn xm xk xA xc xq yp yn ym yk yA yc yq _ (hrx.keep hB) hlx (hry.keep hB) hly).mono ?_
    rintro e w2 ⟨B2, C2, rfl, hX2, hY2, b2⟩
    replace hB := below_after hB b2
    replace h0 := h0.after b2
    clear b2
    go_wp2_with fail
    refine (specIsDesk_c xp xn xm xk _ _ xq yp yn ym yk _ _ yq _ hX2 hlx hY2 hly).mono ?_
    rintro e w3 ⟨rfl, b3⟩
    replace hB := below_after hB b3
    replace h0 := h0.after b3
    clear b3 hX2 hY2
    go_wp2_with (refine wpList_load_all rfl 38 _ rfl w.heap.size rfl _ _ _ h0 Try.underlying38 rfl 10 (by kernel_rfl) rfl ?_)
    refine (toDesk_c xp xn xm xk xA xc xq yp yn ym yk yA yc yq _ (hrx.keep hB) hlx (hry.keep hB) hly).mono ?_
    rintro e w4 ⟨B4, C4, rfl, hX4, hY4, b4⟩
    replace hB := below_after hB b4
    replace h0 := h0.after b4
    clear b4
    go_wp2_with fail
    refine (implIsDesk_c xp xn xm xk _ _ xq yp yn ym yk _ _ yq _ (hX4.keep (below1 _ _)) hlx (hY4.keep (below1 _ _)) hly).mono ?_
    rintro e w5 ⟨rfl, b5⟩
    have hA5 : At w5 w4.heap.size (.cells #[.int .i64 xp, .int .i64 xn, .int .i64 xm, .int .i64 xk, .slice B4 xq.length xq.length, .int .i64 yp, .int .i64 yn, .int .i64 ym, .int .i64 yk, .slice C4 yq.length yq.length] 42 (0, 0)) := At.after (New.alloc w4 _).at_ b5
    have hX5 := (hX4.keep (below1 _ _)).keep b5
    have hY5 := (hY4.keep (below1 _ _)).keep b5
    replace h0 := At.after ((New.alloc w4 _).old h0) b5
    replace hB := below_after (below_after hB (below1 _ _)) b5
    clear b5 hX4 hY4
    have hbb : (deskB xp xn xm xk xq yp yn ym yk yq != deskB xp xn xm xk xq yp yn ym yk yq) = false := by simp
    go_wp2_with fail
    have x0 : w5.cell? ⟨w4.heap.size, 0, none⟩ = some (.int .i64 xp) := hA5.at_ 0
    have x1 : w5.cell? ⟨w4.heap.size, 1, none⟩ = some (.int .i64 xn) := hA5.at_ 1
    have x2 : w5.cell? ⟨w4.heap.size, 2, none⟩ = some (.int .i64 xm) := hA5.at_ 2
    have x3 : w5.cell? ⟨w4.heap.size, 3, none⟩ = some (.int .i64 xk) := hA5.at_ 3
    have x4 : w5.cell? ⟨w4.heap.size, 4, none⟩ = some (.slice B4 xq.length xq.length) := hA5.at_ 4
    have x5 : w5.cell? ⟨w4.heap.size, 5, none⟩ = some (.int .i64 yp) := hA5.at_ 5
    have x6 : w5.cell? ⟨w4.heap.size, 6, none⟩ = some (.int .i64 yn) := hA5.at_ 6
    have x7 : w5.cell? ⟨w4.heap.size, 7, none⟩ = some (.int .i64 ym) := hA5.at_ 7
    have x8 : w5.cell? ⟨w4.heap.size, 8, none⟩ = some (.int .i64 yk) := hA5.at_ 8
    have x9 : w5.cell? ⟨w4.heap.size, 9, none⟩ = some (.slice C4 yq.length yq.length) := hA5.at_ 9
    have y0 : w5.cell? ⟨w.heap.size, 0, none⟩ = some (.int .i64 xp) := h0.at_ 0
    have y1 : w5.cell? ⟨w.heap.size, 1, none⟩ = some (.int .i64 xn) := h0.at_ 1
    have y2 : w5.cell? ⟨w.heap.size, 2, none⟩ = some (.int .i64 xm) := h0.at_ 2
    have y3 : w5.cell? ⟨w.heap.size, 3, none⟩ = some (.int .i64 xk) := h0.at_ 3
    have y4 : w5.cell? ⟨w.heap.size, 4, none⟩ = some (.slice xA xq.length xc) := h0.at_ 4
    have y5 : w5.cell? ⟨w.heap.size, 5, none⟩ = some (.int .i64 yp) := h0.at_ 5
    have y6 : w5.cell? ⟨w.heap.size, 6, none⟩ = some (.int .i64 yn) := h0.at_ 6
    have y7 : w5.cell? ⟨w.heap.size, 7, none⟩ = some (.int .i64 ym) := h0.at_ 7
    have y8 : w5.cell? ⟨w.heap.size, 8, none⟩ = some (.int .i64 yk) := h0.at_ 8
    have y9 : w5.cell? ⟨w.heap.size, 9, none⟩ = some (.slice yA yq.length yc) := h0.at_ 9
    go_region_with (first | (go_at_call 17; refine (toDesk_c xp xn xm xk xA xc xq yp yn ym yk yA yc yq _ (hrx.keep hB.drew) hlx (hry.keep hB.drew) hly).mono ?_; rintro e w6 ⟨B6, C6, rfl, hX6, hY6, b6⟩; have z0 : w6.cell? ⟨w4.heap.size, 0, none⟩ = some (.int .i64 xp) := (At.after (hA5.drewN 1) b6).at_ 0; have z1 : w6.cell? ⟨w4.heap.size, 1, none⟩ = some (.int .i64 xn) := (At.after (hA5.drewN 1) b6).at_ 1; have z2 : w6.cell? ⟨w4.heap.size, 2, none⟩ = some (.int .i64 xm) := (At.after (hA5.drewN 1) b6).at_ 2; have z3 : w6.cell? ⟨w4.heap.size, 3, none⟩ = some (.int .i64 xk) := (At.after (hA5.drewN 1) b6).at_ 3; have z4 : w6.cell? ⟨w4.heap.size, 4, none⟩ = some (.slice B4 xq.length xq.length) := (At.after (hA5.drewN 1) b6).at_ 4; have z5 : w6.cell? ⟨w4.heap.size, 5, none⟩ = some (.int .i64 yp) := (At.after (hA5.drewN 1) b6).at_ 5; have z6 : w6.cell? ⟨w4.heap.size, 6, none⟩ = some (.int .i64 yn) := (At.after (hA5.drewN 1) b6).at_ 6; have z7 : w6.cell? ⟨w4.heap.size, 7, none⟩ = some (.int .i64 ym) := (At.after (hA5.drewN 1) b6).at_ 7; have z8 : w6.cell? ⟨w4.heap.size, 8, none⟩ = some (.int .i64 yk) := (At.after (hA5.drewN 1) b6).at_ 8; have z9 : w6.cell? ⟨w4.heap.size, 9, none⟩ = some (.slice C4 yq.length yq.length) := (At.after (hA5.drewN 1) b6).at_ 9; have hX7 := (hX5.drewN 1).keep b6; have hY7 := (hY5.drewN 1).keep b6; have hB7 := below_after hB.drew b6) | (go_at_call 19; refine (eqDesk_c xp xn xm xk _ _ xq yp yn ym yk _ _ yq _ _ _ _ _ hX7 hlx hY7 hly hX6 hY6).mono ?_; rintro e w8 ⟨rfl, b8⟩; have hB8 := below_after hB7 b8))
    all_goals
      go_wp2_with fail
      go_ret
      exact ⟨rfl, hB8⟩
end Go.Proofs.Ytgjcfgieecamdaa
