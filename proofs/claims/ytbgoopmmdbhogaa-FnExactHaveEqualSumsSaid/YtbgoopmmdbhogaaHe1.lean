/-
  spec.l03Like: whether two schemes have the same prime and the same sizes. (Made by mkhe1.py.)
-/
import Derived.Test.YtbgoopmmdbhogaaImplIs
import Derived.Test.YtbgoopmmdbhogaaLK1
namespace Go.Proofs.Ytbgoopmmdbhogaa
open Go.RowKit
set_option maxRecDepth 100000
def likeCode (xp xn xm xk : Int) (xq : List (List Nat)) (yp yn ym yk : Int) (yq : List (List Nat)) : Int := if schemeB xp xn xm xk xq && schemeB yp yn ym yk yq then (if xp = yp ∧ xn = yn ∧ xm = ym ∧ xk = yk then 0 else 2) else 1
set_option maxHeartbeats 20000000 in
theorem l03Like_c (xp xn xm xk : Int) (xA : Option Addr) (xc : Nat) (xq : List (List Nat)) (yp yn ym yk : Int) (yA : Option Addr) (yc : Nat) (yq : List (List Nat)) (w : World) (hrx : Rd w xA xq) (hlx : xq.length ≤ 1048576) (hry : Rd w yA yq) (hly : yq.length ≤ 1048576) :
    Calls Try.prog 52 #[.agg #[.int .i64 xp, .int .i64 xn, .int .i64 xm, .int .i64 xk, .slice xA xq.length xc], .agg #[.int .i64 yp, .int .i64 yn, .int .i64 ym, .int .i64 yk, .slice yA yq.length yc]] w fun e w' => e = .returned (.int .i64 (likeCode xp xn xm xk xq yp yn ym yk yq)) ∧ Below w.heap.size w w' := by
  have HX := Lib.hid (fun w hr => l01Is_c xp xn xm xk xA xc xq w hr hlx)
  have HY := Lib.hid (fun w hr => l01Is_c yp yn ym yk yA yc yq w hr hly)
  cases hx : schemeB xp xn xm xk xq with
  | false =>
    have Hx := Lib.hid hx
    have Hc : Hid (likeCode xp xn xm xk xq yp yn ym yk yq = 1) := Lib.hid (by unfold likeCode; rw [if_neg (by simp [hx])])
    clear hx
    go_enter Try.func52, Try.ntmps52
    go_wp2_with (first | (refine wpList_abs2 ?_; intro W hsz hB h0 h1) | (refine wpList_load_all rfl 28 _ rfl w.heap.size rfl _ _ _ h0 Try.underlying28 rfl 5 (by kernel_rfl) rfl ?_))
    refine (HX.out _ (hrx.keep hB)).mono ?_
    rintro e w1 ⟨rfl, b1⟩
    rw [Hx.out]
    replace h0 := h0.after b1
    replace h1 := h1.after b1
    replace hB := below_after hB b1
    clear b1
    go_wp2_with fail
    go_ret
    exact ⟨by rw [Hc.out]; rfl, hB⟩
  | true =>
    have Hx := Lib.hid hx
    cases hy : schemeB yp yn ym yk yq with
    | false =>
      have Hy := Lib.hid hy
      have Hc : Hid (likeCode xp xn xm xk xq yp yn ym yk yq = 1) := Lib.hid (by unfold likeCode; rw [if_neg (by simp [hx, hy])])
      clear hx hy
      go_enter Try.func52, Try.ntmps52
      go_wp2_with (first | (refine wpList_abs2 ?_; intro W hsz hB h0 h1) | (refine wpList_load_all rfl 28 _ rfl w.heap.size rfl _ _ _ h0 Try.underlying28 rfl 5 (by kernel_rfl) rfl ?_))
      refine (HX.out _ (hrx.keep hB)).mono ?_
      rintro e w1 ⟨rfl, b1⟩
      rw [Hx.out]
      replace h0 := h0.after b1
      replace h1 := h1.after b1
      replace hB := below_after hB b1
      clear b1
      go_wp2_with (refine wpList_want_exec rfl (exec_load_all 28 _ rfl (w.heap.size + 1) rfl _ _ _ h1 Try.underlying28 rfl 5 (by kernel_rfl) rfl) ?_)
      refine (HY.out _ (hry.keep hB)).mono ?_
      rintro e w2 ⟨rfl, b1⟩
      rw [Hy.out]
      replace h0 := h0.after b1
      replace h1 := h1.after b1
      replace hB := below_after hB b1
      clear b1
      go_wp2_with fail
      go_ret
      exact ⟨by rw [Hc.out]; rfl, hB⟩
    | true =>
      have Hy := Lib.hid hy
      by_cases ep : xp = yp
      · subst ep
        by_cases en : xn = yn
        · subst en
          by_cases em : xm = ym
          · subst em
            by_cases ek : xk = yk
            · subst ek
              have Hc : Hid (likeCode xp xn xm xk xq xp xn xm xk yq = 0) := Lib.hid (by unfold likeCode; rw [if_pos (by rw [hx, hy]; rfl), if_pos ⟨rfl, rfl, rfl, rfl⟩])
              clear hx hy
              go_enter Try.func52, Try.ntmps52
              go_wp2_with (first | (refine wpList_abs2 ?_; intro W hsz hB h0 h1) | (refine wpList_load_all rfl 28 _ rfl w.heap.size rfl _ _ _ h0 Try.underlying28 rfl 5 (by kernel_rfl) rfl ?_))
              refine (HX.out _ (hrx.keep hB)).mono ?_
              rintro e w1 ⟨rfl, b1⟩
              rw [Hx.out]
              replace h0 := h0.after b1
              replace h1 := h1.after b1
              replace hB := below_after hB b1
              clear b1
              go_wp2_with (refine wpList_want_exec rfl (exec_load_all 28 _ rfl (w.heap.size + 1) rfl _ _ _ h1 Try.underlying28 rfl 5 (by kernel_rfl) rfl) ?_)
              refine (HY.out _ (hry.keep hB)).mono ?_
              rintro e w2 ⟨rfl, b1⟩
              rw [Hy.out]
              replace h0 := h0.after b1
              replace h1 := h1.after b1
              replace hB := below_after hB b1
              clear b1
              have x0 : w2.cell? ⟨w.heap.size, 0, none⟩ = some (.int .i64 xp) := h0.at_ 0
              have y0 : w2.cell? ⟨w.heap.size + 1, 0, none⟩ = some (.int .i64 xp) := h1.at_ 0
              have x1 : w2.cell? ⟨w.heap.size, 1, none⟩ = some (.int .i64 xn) := h0.at_ 1
              have y1 : w2.cell? ⟨w.heap.size + 1, 1, none⟩ = some (.int .i64 xn) := h1.at_ 1
              have x2 : w2.cell? ⟨w.heap.size, 2, none⟩ = some (.int .i64 xm) := h0.at_ 2
              have y2 : w2.cell? ⟨w.heap.size + 1, 2, none⟩ = some (.int .i64 xm) := h1.at_ 2
              have x3 : w2.cell? ⟨w.heap.size, 3, none⟩ = some (.int .i64 xk) := h0.at_ 3
              have y3 : w2.cell? ⟨w.heap.size + 1, 3, none⟩ = some (.int .i64 xk) := h1.at_ 3
              go_wp2_with fail
              go_ret
              exact ⟨by rw [Hc.out]; rfl, hB⟩
            · have fk : (xk != yk) = true := by simp [ek]
              have gk : (xk == yk) = false := by simp [ek]
              have Hc : Hid (likeCode xp xn xm xk xq xp xn xm yk yq = 2) := Lib.hid (by unfold likeCode; rw [if_pos (by rw [hx, hy]; rfl), if_neg (fun h => ek h.2.2.2)])
              clear hx hy
              go_enter Try.func52, Try.ntmps52
              go_wp2_with (first | (refine wpList_abs2 ?_; intro W hsz hB h0 h1) | (refine wpList_load_all rfl 28 _ rfl w.heap.size rfl _ _ _ h0 Try.underlying28 rfl 5 (by kernel_rfl) rfl ?_))
              refine (HX.out _ (hrx.keep hB)).mono ?_
              rintro e w1 ⟨rfl, b1⟩
              rw [Hx.out]
              replace h0 := h0.after b1
              replace h1 := h1.after b1
              replace hB := below_after hB b1
              clear b1
              go_wp2_with (refine wpList_want_exec rfl (exec_load_all 28 _ rfl (w.heap.size + 1) rfl _ _ _ h1 Try.underlying28 rfl 5 (by kernel_rfl) rfl) ?_)
              refine (HY.out _ (hry.keep hB)).mono ?_
              rintro e w2 ⟨rfl, b1⟩
              rw [Hy.out]
              replace h0 := h0.after b1
              replace h1 := h1.after b1
              replace hB := below_after hB b1
              clear b1
              have x0 : w2.cell? ⟨w.heap.size, 0, none⟩ = some (.int .i64 xp) := h0.at_ 0
              have y0 : w2.cell? ⟨w.heap.size + 1, 0, none⟩ = some (.int .i64 xp) := h1.at_ 0
              have x1 : w2.cell? ⟨w.heap.size, 1, none⟩ = some (.int .i64 xn) := h0.at_ 1
              have y1 : w2.cell? ⟨w.heap.size + 1, 1, none⟩ = some (.int .i64 xn) := h1.at_ 1
              have x2 : w2.cell? ⟨w.heap.size, 2, none⟩ = some (.int .i64 xm) := h0.at_ 2
              have y2 : w2.cell? ⟨w.heap.size + 1, 2, none⟩ = some (.int .i64 xm) := h1.at_ 2
              have x3 : w2.cell? ⟨w.heap.size, 3, none⟩ = some (.int .i64 xk) := h0.at_ 3
              have y3 : w2.cell? ⟨w.heap.size + 1, 3, none⟩ = some (.int .i64 yk) := h1.at_ 3
              go_wp2_with fail
              go_ret
              exact ⟨by rw [Hc.out]; rfl, hB⟩
          · have fm : (xm != ym) = true := by simp [em]
            have gm : (xm == ym) = false := by simp [em]
            have Hc : Hid (likeCode xp xn xm xk xq xp xn ym yk yq = 2) := Lib.hid (by unfold likeCode; rw [if_pos (by rw [hx, hy]; rfl), if_neg (fun h => em h.2.2.1)])
            clear hx hy
            go_enter Try.func52, Try.ntmps52
            go_wp2_with (first | (refine wpList_abs2 ?_; intro W hsz hB h0 h1) | (refine wpList_load_all rfl 28 _ rfl w.heap.size rfl _ _ _ h0 Try.underlying28 rfl 5 (by kernel_rfl) rfl ?_))
            refine (HX.out _ (hrx.keep hB)).mono ?_
            rintro e w1 ⟨rfl, b1⟩
            rw [Hx.out]
            replace h0 := h0.after b1
            replace h1 := h1.after b1
            replace hB := below_after hB b1
            clear b1
            go_wp2_with (refine wpList_want_exec rfl (exec_load_all 28 _ rfl (w.heap.size + 1) rfl _ _ _ h1 Try.underlying28 rfl 5 (by kernel_rfl) rfl) ?_)
            refine (HY.out _ (hry.keep hB)).mono ?_
            rintro e w2 ⟨rfl, b1⟩
            rw [Hy.out]
            replace h0 := h0.after b1
            replace h1 := h1.after b1
            replace hB := below_after hB b1
            clear b1
            have x0 : w2.cell? ⟨w.heap.size, 0, none⟩ = some (.int .i64 xp) := h0.at_ 0
            have y0 : w2.cell? ⟨w.heap.size + 1, 0, none⟩ = some (.int .i64 xp) := h1.at_ 0
            have x1 : w2.cell? ⟨w.heap.size, 1, none⟩ = some (.int .i64 xn) := h0.at_ 1
            have y1 : w2.cell? ⟨w.heap.size + 1, 1, none⟩ = some (.int .i64 xn) := h1.at_ 1
            have x2 : w2.cell? ⟨w.heap.size, 2, none⟩ = some (.int .i64 xm) := h0.at_ 2
            have y2 : w2.cell? ⟨w.heap.size + 1, 2, none⟩ = some (.int .i64 ym) := h1.at_ 2
            have x3 : w2.cell? ⟨w.heap.size, 3, none⟩ = some (.int .i64 xk) := h0.at_ 3
            have y3 : w2.cell? ⟨w.heap.size + 1, 3, none⟩ = some (.int .i64 yk) := h1.at_ 3
            go_wp2_with fail
            go_ret
            exact ⟨by rw [Hc.out]; rfl, hB⟩
        · have fn : (xn != yn) = true := by simp [en]
          have gn : (xn == yn) = false := by simp [en]
          have Hc : Hid (likeCode xp xn xm xk xq xp yn ym yk yq = 2) := Lib.hid (by unfold likeCode; rw [if_pos (by rw [hx, hy]; rfl), if_neg (fun h => en h.2.1)])
          clear hx hy
          go_enter Try.func52, Try.ntmps52
          go_wp2_with (first | (refine wpList_abs2 ?_; intro W hsz hB h0 h1) | (refine wpList_load_all rfl 28 _ rfl w.heap.size rfl _ _ _ h0 Try.underlying28 rfl 5 (by kernel_rfl) rfl ?_))
          refine (HX.out _ (hrx.keep hB)).mono ?_
          rintro e w1 ⟨rfl, b1⟩
          rw [Hx.out]
          replace h0 := h0.after b1
          replace h1 := h1.after b1
          replace hB := below_after hB b1
          clear b1
          go_wp2_with (refine wpList_want_exec rfl (exec_load_all 28 _ rfl (w.heap.size + 1) rfl _ _ _ h1 Try.underlying28 rfl 5 (by kernel_rfl) rfl) ?_)
          refine (HY.out _ (hry.keep hB)).mono ?_
          rintro e w2 ⟨rfl, b1⟩
          rw [Hy.out]
          replace h0 := h0.after b1
          replace h1 := h1.after b1
          replace hB := below_after hB b1
          clear b1
          have x0 : w2.cell? ⟨w.heap.size, 0, none⟩ = some (.int .i64 xp) := h0.at_ 0
          have y0 : w2.cell? ⟨w.heap.size + 1, 0, none⟩ = some (.int .i64 xp) := h1.at_ 0
          have x1 : w2.cell? ⟨w.heap.size, 1, none⟩ = some (.int .i64 xn) := h0.at_ 1
          have y1 : w2.cell? ⟨w.heap.size + 1, 1, none⟩ = some (.int .i64 yn) := h1.at_ 1
          have x2 : w2.cell? ⟨w.heap.size, 2, none⟩ = some (.int .i64 xm) := h0.at_ 2
          have y2 : w2.cell? ⟨w.heap.size + 1, 2, none⟩ = some (.int .i64 ym) := h1.at_ 2
          have x3 : w2.cell? ⟨w.heap.size, 3, none⟩ = some (.int .i64 xk) := h0.at_ 3
          have y3 : w2.cell? ⟨w.heap.size + 1, 3, none⟩ = some (.int .i64 yk) := h1.at_ 3
          go_wp2_with fail
          go_ret
          exact ⟨by rw [Hc.out]; rfl, hB⟩
      · have fp : (xp != yp) = true := by simp [ep]
        have gp : (xp == yp) = false := by simp [ep]
        have Hc : Hid (likeCode xp xn xm xk xq yp yn ym yk yq = 2) := Lib.hid (by unfold likeCode; rw [if_pos (by rw [hx, hy]; rfl), if_neg (fun h => ep h.1)])
        clear hx hy
        go_enter Try.func52, Try.ntmps52
        go_wp2_with (first | (refine wpList_abs2 ?_; intro W hsz hB h0 h1) | (refine wpList_load_all rfl 28 _ rfl w.heap.size rfl _ _ _ h0 Try.underlying28 rfl 5 (by kernel_rfl) rfl ?_))
        refine (HX.out _ (hrx.keep hB)).mono ?_
        rintro e w1 ⟨rfl, b1⟩
        rw [Hx.out]
        replace h0 := h0.after b1
        replace h1 := h1.after b1
        replace hB := below_after hB b1
        clear b1
        go_wp2_with (refine wpList_want_exec rfl (exec_load_all 28 _ rfl (w.heap.size + 1) rfl _ _ _ h1 Try.underlying28 rfl 5 (by kernel_rfl) rfl) ?_)
        refine (HY.out _ (hry.keep hB)).mono ?_
        rintro e w2 ⟨rfl, b1⟩
        rw [Hy.out]
        replace h0 := h0.after b1
        replace h1 := h1.after b1
        replace hB := below_after hB b1
        clear b1
        have x0 : w2.cell? ⟨w.heap.size, 0, none⟩ = some (.int .i64 xp) := h0.at_ 0
        have y0 : w2.cell? ⟨w.heap.size + 1, 0, none⟩ = some (.int .i64 yp) := h1.at_ 0
        have x1 : w2.cell? ⟨w.heap.size, 1, none⟩ = some (.int .i64 xn) := h0.at_ 1
        have y1 : w2.cell? ⟨w.heap.size + 1, 1, none⟩ = some (.int .i64 yn) := h1.at_ 1
        have x2 : w2.cell? ⟨w.heap.size, 2, none⟩ = some (.int .i64 xm) := h0.at_ 2
        have y2 : w2.cell? ⟨w.heap.size + 1, 2, none⟩ = some (.int .i64 ym) := h1.at_ 2
        have x3 : w2.cell? ⟨w.heap.size, 3, none⟩ = some (.int .i64 xk) := h0.at_ 3
        have y3 : w2.cell? ⟨w.heap.size + 1, 3, none⟩ = some (.int .i64 yk) := h1.at_ 3
        go_wp2_with fail
        go_ret
        exact ⟨by rw [Hc.out]; rfl, hB⟩
end Go.Proofs.Ytbgoopmmdbhogaa
