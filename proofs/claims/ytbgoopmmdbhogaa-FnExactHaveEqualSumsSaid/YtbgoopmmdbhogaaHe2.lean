/-
  impl.checkAlike: whether two schemes have the same prime and the same sizes. (Made by mkhe2.py.)
-/
import Derived.Test.YtbgoopmmdbhogaaHe2a
import Derived.Test.YtbgoopmmdbhogaaLK1
import Derived.Deep.RegionWith
namespace Go.Proofs.Ytbgoopmmdbhogaa
open Go.RowKit
set_option maxRecDepth 100000
theorem exec_neq_sizes {o : Oper} {a : Act} {w : World} (x y : Operand) (t' : TypeId) (ho : o.op = .binOp .neq 51 x y t') (n m k n' m' k' : Int) (hx : a.eval x = .agg #[.int .i64 n, .int .i64 m, .int .i64 k]) (hy : a.eval y = .agg #[.int .i64 n', .int .i64 m', .int .i64 k']) (b : Bool) (hb : (!(n == n' && (m == m' && k == k'))) = b) :
    (execOp a.eval o).run Try.prog w = .ok (.value (.bool b)) w := by
  have hm : Try.prog.eqGuardType Try.prog.depth 51 = false := by kernel_rfl
  unfold execOp
  subst hb
  simp [ho, hx, hy, Sem.run_bind, run_eqGuard_agg w .neq _ x y _ _ hm, run_neq_struct, run_eq_sizes]
set_option maxHeartbeats 20000000 in
theorem checkAlike_c (xp xn xm xk : Int) (xA : Option Addr) (xc : Nat) (xq : List (List Nat)) (yp yn ym yk : Int) (yA : Option Addr) (yc : Nat) (yq : List (List Nat)) (w : World) (hrx : Rd w xA xq) (hlx : xq.length ≤ 1048576) (hry : Rd w yA yq) (hly : yq.length ≤ 1048576) :
    Calls Try.prog 55 #[.agg #[.int .i64 xp, .int .i64 xn, .int .i64 xm, .int .i64 xk, .slice xA xq.length xc], .agg #[.int .i64 yp, .int .i64 yn, .int .i64 ym, .int .i64 yk, .slice yA yq.length yc]] w fun e w' => e = .returned (.int .i64 (likeCode xp xn xm xk xq yp yn ym yk yq)) ∧ Below w.heap.size w w' := by
  have HX := Lib.hid (fun w hr => implIsScheme_c xp xn xm xk xA xc xq w hr hlx)
  have HY := Lib.hid (fun w hr => implIsScheme_c yp yn ym yk yA yc yq w hr hly)
  cases hx : schemeB xp xn xm xk xq with
  | false =>
    have Hx := Lib.hid hx
    have Hc : Hid (likeCode xp xn xm xk xq yp yn ym yk yq = 1) := Lib.hid (by unfold likeCode; rw [if_neg (by simp [hx])])
    clear hx
    go_enter Try.func55, Try.ntmps55
    go_wp2_with (first | (refine wpList_abs2 ?_; intro W hsz hB h0 h1) | (refine wpList_load_all rfl 28 _ rfl w.heap.size rfl _ _ _ h0 Try.underlying28 rfl 5 (by kernel_rfl) rfl ?_))
    refine (HX.out _ (hrx.keep hB)).mono ?_
    rintro e w1 ⟨rfl, b1⟩
    rw [Hx.out]
    replace h0 := h0.after b1
    replace h1 := h1.after b1
    replace hB := below_after hB b1
    clear b1
    go_wp2_with fail
    go_ret
    exact ⟨by rw [Hc.out]; rfl, hB⟩
  | true =>
    have Hx := Lib.hid hx
    cases hy : schemeB yp yn ym yk yq with
    | false =>
      have Hy := Lib.hid hy
      have Hc : Hid (likeCode xp xn xm xk xq yp yn ym yk yq = 1) := Lib.hid (by unfold likeCode; rw [if_neg (by simp [hx, hy])])
      clear hx hy
      go_enter Try.func55, Try.ntmps55
      go_wp2_with (first | (refine wpList_abs2 ?_; intro W hsz hB h0 h1) | (refine wpList_load_all rfl 28 _ rfl w.heap.size rfl _ _ _ h0 Try.underlying28 rfl 5 (by kernel_rfl) rfl ?_))
      refine (HX.out _ (hrx.keep hB)).mono ?_
      rintro e w1 ⟨rfl, b1⟩
      rw [Hx.out]
      replace h0 := h0.after b1
      replace h1 := h1.after b1
      replace hB := below_after hB b1
      clear b1
      go_wp2_with (refine wpList_want_exec rfl (exec_load_all 28 _ rfl (w.heap.size + 1) rfl _ _ _ h1 Try.underlying28 rfl 5 (by kernel_rfl) rfl) ?_)
      refine (HY.out _ (hry.keep hB)).mono ?_
      rintro e w2 ⟨rfl, b1⟩
      rw [Hy.out]
      replace h0 := h0.after b1
      replace h1 := h1.after b1
      replace hB := below_after hB b1
      clear b1
      go_wp2_with fail
      go_ret
      exact ⟨by rw [Hc.out]; rfl, hB⟩
    | true =>
      have Hy := Lib.hid hy
      by_cases ep : xp = yp
      · subst ep
        by_cases en : xn = yn
        · subst en
          by_cases em : xm = ym
          · subst em
            by_cases ek : xk = yk
            · subst ek
              have Hc : Hid (likeCode xp xn xm xk xq xp xn xm xk yq = 0) := Lib.hid (by unfold likeCode; rw [if_pos (by rw [hx, hy]; rfl), if_pos ⟨rfl, rfl, rfl, rfl⟩])
              clear hx hy
              go_enter Try.func55, Try.ntmps55
              go_wp2_with (first | (refine wpList_abs2 ?_; intro W hsz hB h0 h1) | (refine wpList_load_all rfl 28 _ rfl w.heap.size rfl _ _ _ h0 Try.underlying28 rfl 5 (by kernel_rfl) rfl ?_))
              refine (HX.out _ (hrx.keep hB)).mono ?_
              rintro e w1 ⟨rfl, b1⟩
              rw [Hx.out]
              replace h0 := h0.after b1
              replace h1 := h1.after b1
              replace hB := below_after hB b1
              clear b1
              go_wp2_with (refine wpList_want_exec rfl (exec_load_all 28 _ rfl (w.heap.size + 1) rfl _ _ _ h1 Try.underlying28 rfl 5 (by kernel_rfl) rfl) ?_)
              refine (HY.out _ (hry.keep hB)).mono ?_
              rintro e w2 ⟨rfl, b1⟩
              rw [Hy.out]
              replace h0 := h0.after b1
              replace h1 := h1.after b1
              replace hB := below_after hB b1
              clear b1
              have x0 : w2.cell? ⟨w.heap.size, 0, none⟩ = some (.int .i64 xp) := h0.at_ 0
              have y0 : w2.cell? ⟨w.heap.size + 1, 0, none⟩ = some (.int .i64 xp) := h1.at_ 0
              have x1 : w2.cell? ⟨w.heap.size, 1, none⟩ = some (.int .i64 xn) := h0.at_ 1
              have y1 : w2.cell? ⟨w.heap.size + 1, 1, none⟩ = some (.int .i64 xn) := h1.at_ 1
              have x2 : w2.cell? ⟨w.heap.size, 2, none⟩ = some (.int .i64 xm) := h0.at_ 2
              have y2 : w2.cell? ⟨w.heap.size + 1, 2, none⟩ = some (.int .i64 xm) := h1.at_ 2
              have x3 : w2.cell? ⟨w.heap.size, 3, none⟩ = some (.int .i64 xk) := h0.at_ 3
              have y3 : w2.cell? ⟨w.heap.size + 1, 3, none⟩ = some (.int .i64 xk) := h1.at_ 3
              have x4 : w2.cell? ⟨w.heap.size, 4, none⟩ = some (.slice xA xq.length xc) := h0.at_ 4
              have y4 : w2.cell? ⟨w.heap.size + 1, 4, none⟩ = some (.slice yA yq.length yc) := h1.at_ 4
              go_upto_region 3 with (fail)
              refine wp_region_held (S := fun w' => At w' w.heap.size (.cells #[.int .i64 xp, .int .i64 xn, .int .i64 xm, .int .i64 xk, .slice xA xq.length xc] 28 (0, 0)) ∧ At w' (w.heap.size + 1) (.cells #[.int .i64 xp, .int .i64 xn, .int .i64 xm, .int .i64 xk, .slice yA yq.length yc] 28 (0, 0))) (by kernel_rfl) ?_
              change wpAnyH _ _ _ _ _ _ _ _ (World.drew _)
              generalize hwdl : World.drew _ = wdl
              replace hB : Below w.heap.size w wdl := by rw [← hwdl]; exact hB.drew
              replace h0 : At wdl w.heap.size (.cells #[.int .i64 xp, .int .i64 xn, .int .i64 xm, .int .i64 xk, .slice xA xq.length xc] 28 (0, 0)) := by rw [← hwdl]; exact h0
              replace h1 : At wdl (w.heap.size + 1) (.cells #[.int .i64 xp, .int .i64 xn, .int .i64 xm, .int .i64 xk, .slice yA yq.length yc] 28 (0, 0)) := by rw [← hwdl]; exact h1
              clear hwdl
              refine held_yield 0 (some 13) (.pointer (some ⟨w.heap.size, 0, none⟩)) rfl (by kernel_rfl) (by kernel_rfl) (by kernel_rfl) (fun _ _ _ h => h) rfl rfl ⟨h0, h1⟩ (fun w' h' => exec_fieldAddr 28 _ 0 rfl _ (by kernel_rfl)) ?_
              go_frame
              refine held_yield 1 (some 14) (.int .i64 xp) rfl (by kernel_rfl) (by kernel_rfl) (by kernel_rfl) (fun _ _ _ h => h) rfl rfl ⟨h0, h1⟩ (fun w' h' => exec_load_one 2 _ rfl w.heap.size 0 rfl _ _ Try.underlying2 rfl (h'.1.at_ 0)) ?_
              go_frame
              refine held_yield 2 (some 15) (.pointer (some ⟨w.heap.size + 1, 0, none⟩)) rfl (by kernel_rfl) (by kernel_rfl) (by kernel_rfl) (fun _ _ _ h => h) rfl rfl ⟨h0, h1⟩ (fun w' h' => exec_fieldAddr 28 _ 0 rfl _ (by kernel_rfl)) ?_
              go_frame
              refine held_yield 3 (some 16) (.int .i64 xp) rfl (by kernel_rfl) (by kernel_rfl) (by kernel_rfl) (fun _ _ _ h => h) rfl rfl ⟨h0, h1⟩ (fun w' h' => exec_load_one 2 _ rfl (w.heap.size + 1) 0 rfl _ _ Try.underlying2 rfl (h'.2.at_ 0)) ?_
              go_frame
              refine held_yield 4 (some 17) (.bool false) rfl (by kernel_rfl) (by kernel_rfl) (by kernel_rfl) (fun _ _ _ h => h) rfl rfl ⟨h0, h1⟩ (fun w' h' => exec_neq _ _ _ _ rfl xp xp rfl rfl false (by simp)) ?_
              go_frame
              refine held_yield 5 (some 18) (.bool false) rfl (by kernel_rfl) (by kernel_rfl) (by kernel_rfl) (fun _ _ _ h => h) rfl rfl ⟨h0, h1⟩ (fun w' h' => exec_move _ rfl (.bool false) rfl) ?_
              go_frame
              refine held_yield_g 6 (some 19) (.agg #[.int .i64 xp, .int .i64 xn, .int .i64 xm, .int .i64 xk, .slice xA xq.length xc]) rfl (by kernel_rfl) (by kernel_rfl) (by kernel_rfl) (fun _ _ _ h => h) rfl rfl ⟨h0, h1⟩ (fun w' h' => exec_load_all 28 _ rfl w.heap.size rfl _ _ _ h'.1 Try.underlying28 rfl 5 (by kernel_rfl) rfl) ?_
              go_frame
              refine held_yield_g 8 (some 21) (.agg #[.int .i64 xp, .int .i64 xn, .int .i64 xm, .int .i64 xk, .slice yA yq.length yc]) rfl (by kernel_rfl) (by kernel_rfl) (by kernel_rfl) (fun _ _ _ h => h) rfl rfl ⟨h0, h1⟩ (fun w' h' => exec_load_all 28 _ rfl (w.heap.size + 1) rfl _ _ _ h'.2 Try.underlying28 rfl 5 (by kernel_rfl) rfl) ?_
              go_frame
              refine held_oper_g 7 (by kernel_rfl) rfl rfl (fun K' hK' => ?_)
              refine wp_call1 (some 20) rfl 27 _ _ rfl (fun args w => by kernel_rfl) _ rfl _ (sizesOf_c xp xn xm xk (.slice xA xq.length xc) _) (fun e wnl1 h => ?_)
              obtain ⟨rfl, bl2⟩ := h
              replace hB := below_after hB bl2
              replace h0 := h0.after bl2
              replace h1 := h1.after bl2
              clear bl2
              refine ⟨_, rfl, hK' _ _ ⟨h0, h1⟩ ?_⟩
              clear hK' K'
              go_frame
              refine held_oper_g 9 (by kernel_rfl) rfl rfl (fun K' hK' => ?_)
              refine wp_call1 (some 22) rfl 27 _ _ rfl (fun args w => by kernel_rfl) _ rfl _ (sizesOf_c xp xn xm xk (.slice yA yq.length yc) _) (fun e wnl3 h => ?_)
              obtain ⟨rfl, bl4⟩ := h
              replace hB := below_after hB bl4
              replace h0 := h0.after bl4
              replace h1 := h1.after bl4
              clear bl4
              refine ⟨_, rfl, hK' _ _ ⟨h0, h1⟩ ?_⟩
              clear hK' K'
              go_frame
              refine held_yield_g 10 (some 23) (.bool false) rfl (by kernel_rfl) (by kernel_rfl) (by kernel_rfl) (fun _ _ _ h => h) rfl rfl ⟨h0, h1⟩ (fun w' h' => exec_neq_sizes _ _ _ rfl xn xm xk xn xm xk rfl rfl false (by simp)) ?_
              go_frame
              refine held_yield 11 (some 24) (.bool false) rfl (by kernel_rfl) (by kernel_rfl) (by kernel_rfl) (fun _ _ _ h => h) rfl rfl ⟨h0, h1⟩ (fun w' h' => exec_pick _ _ _ rfl false rfl (.bool false) rfl) ?_
              go_frame
              refine wpAnyH_done (by kernel_rfl) ?_ _
              go_wp2_with fail
              go_ret
              exact ⟨by rw [Hc.out]; rfl, hB⟩
            · have fk : (xk != yk) = true := by simp [ek]
              have gk : (xk == yk) = false := by simp [ek]
              have Hc : Hid (likeCode xp xn xm xk xq xp xn xm yk yq = 2) := Lib.hid (by unfold likeCode; rw [if_pos (by rw [hx, hy]; rfl), if_neg (fun h => ek h.2.2.2)])
              clear hx hy
              go_enter Try.func55, Try.ntmps55
              go_wp2_with (first | (refine wpList_abs2 ?_; intro W hsz hB h0 h1) | (refine wpList_load_all rfl 28 _ rfl w.heap.size rfl _ _ _ h0 Try.underlying28 rfl 5 (by kernel_rfl) rfl ?_))
              refine (HX.out _ (hrx.keep hB)).mono ?_
              rintro e w1 ⟨rfl, b1⟩
              rw [Hx.out]
              replace h0 := h0.after b1
              replace h1 := h1.after b1
              replace hB := below_after hB b1
              clear b1
              go_wp2_with (refine wpList_want_exec rfl (exec_load_all 28 _ rfl (w.heap.size + 1) rfl _ _ _ h1 Try.underlying28 rfl 5 (by kernel_rfl) rfl) ?_)
              refine (HY.out _ (hry.keep hB)).mono ?_
              rintro e w2 ⟨rfl, b1⟩
              rw [Hy.out]
              replace h0 := h0.after b1
              replace h1 := h1.after b1
              replace hB := below_after hB b1
              clear b1
              have x0 : w2.cell? ⟨w.heap.size, 0, none⟩ = some (.int .i64 xp) := h0.at_ 0
              have y0 : w2.cell? ⟨w.heap.size + 1, 0, none⟩ = some (.int .i64 xp) := h1.at_ 0
              have x1 : w2.cell? ⟨w.heap.size, 1, none⟩ = some (.int .i64 xn) := h0.at_ 1
              have y1 : w2.cell? ⟨w.heap.size + 1, 1, none⟩ = some (.int .i64 xn) := h1.at_ 1
              have x2 : w2.cell? ⟨w.heap.size, 2, none⟩ = some (.int .i64 xm) := h0.at_ 2
              have y2 : w2.cell? ⟨w.heap.size + 1, 2, none⟩ = some (.int .i64 xm) := h1.at_ 2
              have x3 : w2.cell? ⟨w.heap.size, 3, none⟩ = some (.int .i64 xk) := h0.at_ 3
              have y3 : w2.cell? ⟨w.heap.size + 1, 3, none⟩ = some (.int .i64 yk) := h1.at_ 3
              have x4 : w2.cell? ⟨w.heap.size, 4, none⟩ = some (.slice xA xq.length xc) := h0.at_ 4
              have y4 : w2.cell? ⟨w.heap.size + 1, 4, none⟩ = some (.slice yA yq.length yc) := h1.at_ 4
              go_upto_region 3 with (fail)
              refine wp_region_held (S := fun w' => At w' w.heap.size (.cells #[.int .i64 xp, .int .i64 xn, .int .i64 xm, .int .i64 xk, .slice xA xq.length xc] 28 (0, 0)) ∧ At w' (w.heap.size + 1) (.cells #[.int .i64 xp, .int .i64 xn, .int .i64 xm, .int .i64 yk, .slice yA yq.length yc] 28 (0, 0))) (by kernel_rfl) ?_
              change wpAnyH _ _ _ _ _ _ _ _ (World.drew _)
              generalize hwdl : World.drew _ = wdl
              replace hB : Below w.heap.size w wdl := by rw [← hwdl]; exact hB.drew
              replace h0 : At wdl w.heap.size (.cells #[.int .i64 xp, .int .i64 xn, .int .i64 xm, .int .i64 xk, .slice xA xq.length xc] 28 (0, 0)) := by rw [← hwdl]; exact h0
              replace h1 : At wdl (w.heap.size + 1) (.cells #[.int .i64 xp, .int .i64 xn, .int .i64 xm, .int .i64 yk, .slice yA yq.length yc] 28 (0, 0)) := by rw [← hwdl]; exact h1
              clear hwdl
              refine held_yield 0 (some 13) (.pointer (some ⟨w.heap.size, 0, none⟩)) rfl (by kernel_rfl) (by kernel_rfl) (by kernel_rfl) (fun _ _ _ h => h) rfl rfl ⟨h0, h1⟩ (fun w' h' => exec_fieldAddr 28 _ 0 rfl _ (by kernel_rfl)) ?_
              go_frame
              refine held_yield 1 (some 14) (.int .i64 xp) rfl (by kernel_rfl) (by kernel_rfl) (by kernel_rfl) (fun _ _ _ h => h) rfl rfl ⟨h0, h1⟩ (fun w' h' => exec_load_one 2 _ rfl w.heap.size 0 rfl _ _ Try.underlying2 rfl (h'.1.at_ 0)) ?_
              go_frame
              refine held_yield 2 (some 15) (.pointer (some ⟨w.heap.size + 1, 0, none⟩)) rfl (by kernel_rfl) (by kernel_rfl) (by kernel_rfl) (fun _ _ _ h => h) rfl rfl ⟨h0, h1⟩ (fun w' h' => exec_fieldAddr 28 _ 0 rfl _ (by kernel_rfl)) ?_
              go_frame
              refine held_yield 3 (some 16) (.int .i64 xp) rfl (by kernel_rfl) (by kernel_rfl) (by kernel_rfl) (fun _ _ _ h => h) rfl rfl ⟨h0, h1⟩ (fun w' h' => exec_load_one 2 _ rfl (w.heap.size + 1) 0 rfl _ _ Try.underlying2 rfl (h'.2.at_ 0)) ?_
              go_frame
              refine held_yield 4 (some 17) (.bool false) rfl (by kernel_rfl) (by kernel_rfl) (by kernel_rfl) (fun _ _ _ h => h) rfl rfl ⟨h0, h1⟩ (fun w' h' => exec_neq _ _ _ _ rfl xp xp rfl rfl false (by simp)) ?_
              go_frame
              refine held_yield 5 (some 18) (.bool false) rfl (by kernel_rfl) (by kernel_rfl) (by kernel_rfl) (fun _ _ _ h => h) rfl rfl ⟨h0, h1⟩ (fun w' h' => exec_move _ rfl (.bool false) rfl) ?_
              go_frame
              refine held_yield_g 6 (some 19) (.agg #[.int .i64 xp, .int .i64 xn, .int .i64 xm, .int .i64 xk, .slice xA xq.length xc]) rfl (by kernel_rfl) (by kernel_rfl) (by kernel_rfl) (fun _ _ _ h => h) rfl rfl ⟨h0, h1⟩ (fun w' h' => exec_load_all 28 _ rfl w.heap.size rfl _ _ _ h'.1 Try.underlying28 rfl 5 (by kernel_rfl) rfl) ?_
              go_frame
              refine held_yield_g 8 (some 21) (.agg #[.int .i64 xp, .int .i64 xn, .int .i64 xm, .int .i64 yk, .slice yA yq.length yc]) rfl (by kernel_rfl) (by kernel_rfl) (by kernel_rfl) (fun _ _ _ h => h) rfl rfl ⟨h0, h1⟩ (fun w' h' => exec_load_all 28 _ rfl (w.heap.size + 1) rfl _ _ _ h'.2 Try.underlying28 rfl 5 (by kernel_rfl) rfl) ?_
              go_frame
              refine held_oper_g 7 (by kernel_rfl) rfl rfl (fun K' hK' => ?_)
              refine wp_call1 (some 20) rfl 27 _ _ rfl (fun args w => by kernel_rfl) _ rfl _ (sizesOf_c xp xn xm xk (.slice xA xq.length xc) _) (fun e wnl1 h => ?_)
              obtain ⟨rfl, bl2⟩ := h
              replace hB := below_after hB bl2
              replace h0 := h0.after bl2
              replace h1 := h1.after bl2
              clear bl2
              refine ⟨_, rfl, hK' _ _ ⟨h0, h1⟩ ?_⟩
              clear hK' K'
              go_frame
              refine held_oper_g 9 (by kernel_rfl) rfl rfl (fun K' hK' => ?_)
              refine wp_call1 (some 22) rfl 27 _ _ rfl (fun args w => by kernel_rfl) _ rfl _ (sizesOf_c xp xn xm yk (.slice yA yq.length yc) _) (fun e wnl3 h => ?_)
              obtain ⟨rfl, bl4⟩ := h
              replace hB := below_after hB bl4
              replace h0 := h0.after bl4
              replace h1 := h1.after bl4
              clear bl4
              refine ⟨_, rfl, hK' _ _ ⟨h0, h1⟩ ?_⟩
              clear hK' K'
              go_frame
              refine held_yield_g 10 (some 23) (.bool true) rfl (by kernel_rfl) (by kernel_rfl) (by kernel_rfl) (fun _ _ _ h => h) rfl rfl ⟨h0, h1⟩ (fun w' h' => exec_neq_sizes _ _ _ rfl xn xm xk xn xm yk rfl rfl true (by simp [gk])) ?_
              go_frame
              refine held_yield 11 (some 24) (.bool true) rfl (by kernel_rfl) (by kernel_rfl) (by kernel_rfl) (fun _ _ _ h => h) rfl rfl ⟨h0, h1⟩ (fun w' h' => exec_pick _ _ _ rfl false rfl (.bool true) rfl) ?_
              go_frame
              refine wpAnyH_done (by kernel_rfl) ?_ _
              go_wp2_with fail
              go_ret
              exact ⟨by rw [Hc.out]; rfl, hB⟩
          · have fm : (xm != ym) = true := by simp [em]
            have gm : (xm == ym) = false := by simp [em]
            have Hc : Hid (likeCode xp xn xm xk xq xp xn ym yk yq = 2) := Lib.hid (by unfold likeCode; rw [if_pos (by rw [hx, hy]; rfl), if_neg (fun h => em h.2.2.1)])
            clear hx hy
            go_enter Try.func55, Try.ntmps55
            go_wp2_with (first | (refine wpList_abs2 ?_; intro W hsz hB h0 h1) | (refine wpList_load_all rfl 28 _ rfl w.heap.size rfl _ _ _ h0 Try.underlying28 rfl 5 (by kernel_rfl) rfl ?_))
            refine (HX.out _ (hrx.keep hB)).mono ?_
            rintro e w1 ⟨rfl, b1⟩
            rw [Hx.out]
            replace h0 := h0.after b1
            replace h1 := h1.after b1
            replace hB := below_after hB b1
            clear b1
            go_wp2_with (refine wpList_want_exec rfl (exec_load_all 28 _ rfl (w.heap.size + 1) rfl _ _ _ h1 Try.underlying28 rfl 5 (by kernel_rfl) rfl) ?_)
            refine (HY.out _ (hry.keep hB)).mono ?_
            rintro e w2 ⟨rfl, b1⟩
            rw [Hy.out]
            replace h0 := h0.after b1
            replace h1 := h1.after b1
            replace hB := below_after hB b1
            clear b1
            have x0 : w2.cell? ⟨w.heap.size, 0, none⟩ = some (.int .i64 xp) := h0.at_ 0
            have y0 : w2.cell? ⟨w.heap.size + 1, 0, none⟩ = some (.int .i64 xp) := h1.at_ 0
            have x1 : w2.cell? ⟨w.heap.size, 1, none⟩ = some (.int .i64 xn) := h0.at_ 1
            have y1 : w2.cell? ⟨w.heap.size + 1, 1, none⟩ = some (.int .i64 xn) := h1.at_ 1
            have x2 : w2.cell? ⟨w.heap.size, 2, none⟩ = some (.int .i64 xm) := h0.at_ 2
            have y2 : w2.cell? ⟨w.heap.size + 1, 2, none⟩ = some (.int .i64 ym) := h1.at_ 2
            have x3 : w2.cell? ⟨w.heap.size, 3, none⟩ = some (.int .i64 xk) := h0.at_ 3
            have y3 : w2.cell? ⟨w.heap.size + 1, 3, none⟩ = some (.int .i64 yk) := h1.at_ 3
            have x4 : w2.cell? ⟨w.heap.size, 4, none⟩ = some (.slice xA xq.length xc) := h0.at_ 4
            have y4 : w2.cell? ⟨w.heap.size + 1, 4, none⟩ = some (.slice yA yq.length yc) := h1.at_ 4
            go_upto_region 3 with (fail)
            refine wp_region_held (S := fun w' => At w' w.heap.size (.cells #[.int .i64 xp, .int .i64 xn, .int .i64 xm, .int .i64 xk, .slice xA xq.length xc] 28 (0, 0)) ∧ At w' (w.heap.size + 1) (.cells #[.int .i64 xp, .int .i64 xn, .int .i64 ym, .int .i64 yk, .slice yA yq.length yc] 28 (0, 0))) (by kernel_rfl) ?_
            change wpAnyH _ _ _ _ _ _ _ _ (World.drew _)
            generalize hwdl : World.drew _ = wdl
            replace hB : Below w.heap.size w wdl := by rw [← hwdl]; exact hB.drew
            replace h0 : At wdl w.heap.size (.cells #[.int .i64 xp, .int .i64 xn, .int .i64 xm, .int .i64 xk, .slice xA xq.length xc] 28 (0, 0)) := by rw [← hwdl]; exact h0
            replace h1 : At wdl (w.heap.size + 1) (.cells #[.int .i64 xp, .int .i64 xn, .int .i64 ym, .int .i64 yk, .slice yA yq.length yc] 28 (0, 0)) := by rw [← hwdl]; exact h1
            clear hwdl
            refine held_yield 0 (some 13) (.pointer (some ⟨w.heap.size, 0, none⟩)) rfl (by kernel_rfl) (by kernel_rfl) (by kernel_rfl) (fun _ _ _ h => h) rfl rfl ⟨h0, h1⟩ (fun w' h' => exec_fieldAddr 28 _ 0 rfl _ (by kernel_rfl)) ?_
            go_frame
            refine held_yield 1 (some 14) (.int .i64 xp) rfl (by kernel_rfl) (by kernel_rfl) (by kernel_rfl) (fun _ _ _ h => h) rfl rfl ⟨h0, h1⟩ (fun w' h' => exec_load_one 2 _ rfl w.heap.size 0 rfl _ _ Try.underlying2 rfl (h'.1.at_ 0)) ?_
            go_frame
            refine held_yield 2 (some 15) (.pointer (some ⟨w.heap.size + 1, 0, none⟩)) rfl (by kernel_rfl) (by kernel_rfl) (by kernel_rfl) (fun _ _ _ h => h) rfl rfl ⟨h0, h1⟩ (fun w' h' => exec_fieldAddr 28 _ 0 rfl _ (by kernel_rfl)) ?_
            go_frame
            refine held_yield 3 (some 16) (.int .i64 xp) rfl (by kernel_rfl) (by kernel_rfl) (by kernel_rfl) (fun _ _ _ h => h) rfl rfl ⟨h0, h1⟩ (fun w' h' => exec_load_one 2 _ rfl (w.heap.size + 1) 0 rfl _ _ Try.underlying2 rfl (h'.2.at_ 0)) ?_
            go_frame
            refine held_yield 4 (some 17) (.bool false) rfl (by kernel_rfl) (by kernel_rfl) (by kernel_rfl) (fun _ _ _ h => h) rfl rfl ⟨h0, h1⟩ (fun w' h' => exec_neq _ _ _ _ rfl xp xp rfl rfl false (by simp)) ?_
            go_frame
            refine held_yield 5 (some 18) (.bool false) rfl (by kernel_rfl) (by kernel_rfl) (by kernel_rfl) (fun _ _ _ h => h) rfl rfl ⟨h0, h1⟩ (fun w' h' => exec_move _ rfl (.bool false) rfl) ?_
            go_frame
            refine held_yield_g 6 (some 19) (.agg #[.int .i64 xp, .int .i64 xn, .int .i64 xm, .int .i64 xk, .slice xA xq.length xc]) rfl (by kernel_rfl) (by kernel_rfl) (by kernel_rfl) (fun _ _ _ h => h) rfl rfl ⟨h0, h1⟩ (fun w' h' => exec_load_all 28 _ rfl w.heap.size rfl _ _ _ h'.1 Try.underlying28 rfl 5 (by kernel_rfl) rfl) ?_
            go_frame
            refine held_yield_g 8 (some 21) (.agg #[.int .i64 xp, .int .i64 xn, .int .i64 ym, .int .i64 yk, .slice yA yq.length yc]) rfl (by kernel_rfl) (by kernel_rfl) (by kernel_rfl) (fun _ _ _ h => h) rfl rfl ⟨h0, h1⟩ (fun w' h' => exec_load_all 28 _ rfl (w.heap.size + 1) rfl _ _ _ h'.2 Try.underlying28 rfl 5 (by kernel_rfl) rfl) ?_
            go_frame
            refine held_oper_g 7 (by kernel_rfl) rfl rfl (fun K' hK' => ?_)
            refine wp_call1 (some 20) rfl 27 _ _ rfl (fun args w => by kernel_rfl) _ rfl _ (sizesOf_c xp xn xm xk (.slice xA xq.length xc) _) (fun e wnl1 h => ?_)
            obtain ⟨rfl, bl2⟩ := h
            replace hB := below_after hB bl2
            replace h0 := h0.after bl2
            replace h1 := h1.after bl2
            clear bl2
            refine ⟨_, rfl, hK' _ _ ⟨h0, h1⟩ ?_⟩
            clear hK' K'
            go_frame
            refine held_oper_g 9 (by kernel_rfl) rfl rfl (fun K' hK' => ?_)
            refine wp_call1 (some 22) rfl 27 _ _ rfl (fun args w => by kernel_rfl) _ rfl _ (sizesOf_c xp xn ym yk (.slice yA yq.length yc) _) (fun e wnl3 h => ?_)
            obtain ⟨rfl, bl4⟩ := h
            replace hB := below_after hB bl4
            replace h0 := h0.after bl4
            replace h1 := h1.after bl4
            clear bl4
            refine ⟨_, rfl, hK' _ _ ⟨h0, h1⟩ ?_⟩
            clear hK' K'
            go_frame
            refine held_yield_g 10 (some 23) (.bool true) rfl (by kernel_rfl) (by kernel_rfl) (by kernel_rfl) (fun _ _ _ h => h) rfl rfl ⟨h0, h1⟩ (fun w' h' => exec_neq_sizes _ _ _ rfl xn xm xk xn ym yk rfl rfl true (by simp [gm])) ?_
            go_frame
            refine held_yield 11 (some 24) (.bool true) rfl (by kernel_rfl) (by kernel_rfl) (by kernel_rfl) (fun _ _ _ h => h) rfl rfl ⟨h0, h1⟩ (fun w' h' => exec_pick _ _ _ rfl false rfl (.bool true) rfl) ?_
            go_frame
            refine wpAnyH_done (by kernel_rfl) ?_ _
            go_wp2_with fail
            go_ret
            exact ⟨by rw [Hc.out]; rfl, hB⟩
        · have fn : (xn != yn) = true := by simp [en]
          have gn : (xn == yn) = false := by simp [en]
          have Hc : Hid (likeCode xp xn xm xk xq xp yn ym yk yq = 2) := Lib.hid (by unfold likeCode; rw [if_pos (by rw [hx, hy]; rfl), if_neg (fun h => en h.2.1)])
          clear hx hy
          go_enter Try.func55, Try.ntmps55
          go_wp2_with (first | (refine wpList_abs2 ?_; intro W hsz hB h0 h1) | (refine wpList_load_all rfl 28 _ rfl w.heap.size rfl _ _ _ h0 Try.underlying28 rfl 5 (by kernel_rfl) rfl ?_))
          refine (HX.out _ (hrx.keep hB)).mono ?_
          rintro e w1 ⟨rfl, b1⟩
          rw [Hx.out]
          replace h0 := h0.after b1
          replace h1 := h1.after b1
          replace hB := below_after hB b1
          clear b1
          go_wp2_with (refine wpList_want_exec rfl (exec_load_all 28 _ rfl (w.heap.size + 1) rfl _ _ _ h1 Try.underlying28 rfl 5 (by kernel_rfl) rfl) ?_)
          refine (HY.out _ (hry.keep hB)).mono ?_
          rintro e w2 ⟨rfl, b1⟩
          rw [Hy.out]
          replace h0 := h0.after b1
          replace h1 := h1.after b1
          replace hB := below_after hB b1
          clear b1
          have x0 : w2.cell? ⟨w.heap.size, 0, none⟩ = some (.int .i64 xp) := h0.at_ 0
          have y0 : w2.cell? ⟨w.heap.size + 1, 0, none⟩ = some (.int .i64 xp) := h1.at_ 0
          have x1 : w2.cell? ⟨w.heap.size, 1, none⟩ = some (.int .i64 xn) := h0.at_ 1
          have y1 : w2.cell? ⟨w.heap.size + 1, 1, none⟩ = some (.int .i64 yn) := h1.at_ 1
          have x2 : w2.cell? ⟨w.heap.size, 2, none⟩ = some (.int .i64 xm) := h0.at_ 2
          have y2 : w2.cell? ⟨w.heap.size + 1, 2, none⟩ = some (.int .i64 ym) := h1.at_ 2
          have x3 : w2.cell? ⟨w.heap.size, 3, none⟩ = some (.int .i64 xk) := h0.at_ 3
          have y3 : w2.cell? ⟨w.heap.size + 1, 3, none⟩ = some (.int .i64 yk) := h1.at_ 3
          have x4 : w2.cell? ⟨w.heap.size, 4, none⟩ = some (.slice xA xq.length xc) := h0.at_ 4
          have y4 : w2.cell? ⟨w.heap.size + 1, 4, none⟩ = some (.slice yA yq.length yc) := h1.at_ 4
          go_upto_region 3 with (fail)
          refine wp_region_held (S := fun w' => At w' w.heap.size (.cells #[.int .i64 xp, .int .i64 xn, .int .i64 xm, .int .i64 xk, .slice xA xq.length xc] 28 (0, 0)) ∧ At w' (w.heap.size + 1) (.cells #[.int .i64 xp, .int .i64 yn, .int .i64 ym, .int .i64 yk, .slice yA yq.length yc] 28 (0, 0))) (by kernel_rfl) ?_
          change wpAnyH _ _ _ _ _ _ _ _ (World.drew _)
          generalize hwdl : World.drew _ = wdl
          replace hB : Below w.heap.size w wdl := by rw [← hwdl]; exact hB.drew
          replace h0 : At wdl w.heap.size (.cells #[.int .i64 xp, .int .i64 xn, .int .i64 xm, .int .i64 xk, .slice xA xq.length xc] 28 (0, 0)) := by rw [← hwdl]; exact h0
          replace h1 : At wdl (w.heap.size + 1) (.cells #[.int .i64 xp, .int .i64 yn, .int .i64 ym, .int .i64 yk, .slice yA yq.length yc] 28 (0, 0)) := by rw [← hwdl]; exact h1
          clear hwdl
          refine held_yield 0 (some 13) (.pointer (some ⟨w.heap.size, 0, none⟩)) rfl (by kernel_rfl) (by kernel_rfl) (by kernel_rfl) (fun _ _ _ h => h) rfl rfl ⟨h0, h1⟩ (fun w' h' => exec_fieldAddr 28 _ 0 rfl _ (by kernel_rfl)) ?_
          go_frame
          refine held_yield 1 (some 14) (.int .i64 xp) rfl (by kernel_rfl) (by kernel_rfl) (by kernel_rfl) (fun _ _ _ h => h) rfl rfl ⟨h0, h1⟩ (fun w' h' => exec_load_one 2 _ rfl w.heap.size 0 rfl _ _ Try.underlying2 rfl (h'.1.at_ 0)) ?_
          go_frame
          refine held_yield 2 (some 15) (.pointer (some ⟨w.heap.size + 1, 0, none⟩)) rfl (by kernel_rfl) (by kernel_rfl) (by kernel_rfl) (fun _ _ _ h => h) rfl rfl ⟨h0, h1⟩ (fun w' h' => exec_fieldAddr 28 _ 0 rfl _ (by kernel_rfl)) ?_
          go_frame
          refine held_yield 3 (some 16) (.int .i64 xp) rfl (by kernel_rfl) (by kernel_rfl) (by kernel_rfl) (fun _ _ _ h => h) rfl rfl ⟨h0, h1⟩ (fun w' h' => exec_load_one 2 _ rfl (w.heap.size + 1) 0 rfl _ _ Try.underlying2 rfl (h'.2.at_ 0)) ?_
          go_frame
          refine held_yield 4 (some 17) (.bool false) rfl (by kernel_rfl) (by kernel_rfl) (by kernel_rfl) (fun _ _ _ h => h) rfl rfl ⟨h0, h1⟩ (fun w' h' => exec_neq _ _ _ _ rfl xp xp rfl rfl false (by simp)) ?_
          go_frame
          refine held_yield 5 (some 18) (.bool false) rfl (by kernel_rfl) (by kernel_rfl) (by kernel_rfl) (fun _ _ _ h => h) rfl rfl ⟨h0, h1⟩ (fun w' h' => exec_move _ rfl (.bool false) rfl) ?_
          go_frame
          refine held_yield_g 6 (some 19) (.agg #[.int .i64 xp, .int .i64 xn, .int .i64 xm, .int .i64 xk, .slice xA xq.length xc]) rfl (by kernel_rfl) (by kernel_rfl) (by kernel_rfl) (fun _ _ _ h => h) rfl rfl ⟨h0, h1⟩ (fun w' h' => exec_load_all 28 _ rfl w.heap.size rfl _ _ _ h'.1 Try.underlying28 rfl 5 (by kernel_rfl) rfl) ?_
          go_frame
          refine held_yield_g 8 (some 21) (.agg #[.int .i64 xp, .int .i64 yn, .int .i64 ym, .int .i64 yk, .slice yA yq.length yc]) rfl (by kernel_rfl) (by kernel_rfl) (by kernel_rfl) (fun _ _ _ h => h) rfl rfl ⟨h0, h1⟩ (fun w' h' => exec_load_all 28 _ rfl (w.heap.size + 1) rfl _ _ _ h'.2 Try.underlying28 rfl 5 (by kernel_rfl) rfl) ?_
          go_frame
          refine held_oper_g 7 (by kernel_rfl) rfl rfl (fun K' hK' => ?_)
          refine wp_call1 (some 20) rfl 27 _ _ rfl (fun args w => by kernel_rfl) _ rfl _ (sizesOf_c xp xn xm xk (.slice xA xq.length xc) _) (fun e wnl1 h => ?_)
          obtain ⟨rfl, bl2⟩ := h
          replace hB := below_after hB bl2
          replace h0 := h0.after bl2
          replace h1 := h1.after bl2
          clear bl2
          refine ⟨_, rfl, hK' _ _ ⟨h0, h1⟩ ?_⟩
          clear hK' K'
          go_frame
          refine held_oper_g 9 (by kernel_rfl) rfl rfl (fun K' hK' => ?_)
          refine wp_call1 (some 22) rfl 27 _ _ rfl (fun args w => by kernel_rfl) _ rfl _ (sizesOf_c xp yn ym yk (.slice yA yq.length yc) _) (fun e wnl3 h => ?_)
          obtain ⟨rfl, bl4⟩ := h
          replace hB := below_after hB bl4
          replace h0 := h0.after bl4
          replace h1 := h1.after bl4
          clear bl4
          refine ⟨_, rfl, hK' _ _ ⟨h0, h1⟩ ?_⟩
          clear hK' K'
          go_frame
          refine held_yield_g 10 (some 23) (.bool true) rfl (by kernel_rfl) (by kernel_rfl) (by kernel_rfl) (fun _ _ _ h => h) rfl rfl ⟨h0, h1⟩ (fun w' h' => exec_neq_sizes _ _ _ rfl xn xm xk yn ym yk rfl rfl true (by simp [gn])) ?_
          go_frame
          refine held_yield 11 (some 24) (.bool true) rfl (by kernel_rfl) (by kernel_rfl) (by kernel_rfl) (fun _ _ _ h => h) rfl rfl ⟨h0, h1⟩ (fun w' h' => exec_pick _ _ _ rfl false rfl (.bool true) rfl) ?_
          go_frame
          refine wpAnyH_done (by kernel_rfl) ?_ _
          go_wp2_with fail
          go_ret
          exact ⟨by rw [Hc.out]; rfl, hB⟩
      · have fp : (xp != yp) = true := by simp [ep]
        have gp : (xp == yp) = false := by simp [ep]
        have Hc : Hid (likeCode xp xn xm xk xq yp yn ym yk yq = 2) := Lib.hid (by unfold likeCode; rw [if_pos (by rw [hx, hy]; rfl), if_neg (fun h => ep h.1)])
        clear hx hy
        go_enter Try.func55, Try.ntmps55
        go_wp2_with (first | (refine wpList_abs2 ?_; intro W hsz hB h0 h1) | (refine wpList_load_all rfl 28 _ rfl w.heap.size rfl _ _ _ h0 Try.underlying28 rfl 5 (by kernel_rfl) rfl ?_))
        refine (HX.out _ (hrx.keep hB)).mono ?_
        rintro e w1 ⟨rfl, b1⟩
        rw [Hx.out]
        replace h0 := h0.after b1
        replace h1 := h1.after b1
        replace hB := below_after hB b1
        clear b1
        go_wp2_with (refine wpList_want_exec rfl (exec_load_all 28 _ rfl (w.heap.size + 1) rfl _ _ _ h1 Try.underlying28 rfl 5 (by kernel_rfl) rfl) ?_)
        refine (HY.out _ (hry.keep hB)).mono ?_
        rintro e w2 ⟨rfl, b1⟩
        rw [Hy.out]
        replace h0 := h0.after b1
        replace h1 := h1.after b1
        replace hB := below_after hB b1
        clear b1
        have x0 : w2.cell? ⟨w.heap.size, 0, none⟩ = some (.int .i64 xp) := h0.at_ 0
        have y0 : w2.cell? ⟨w.heap.size + 1, 0, none⟩ = some (.int .i64 yp) := h1.at_ 0
        have x1 : w2.cell? ⟨w.heap.size, 1, none⟩ = some (.int .i64 xn) := h0.at_ 1
        have y1 : w2.cell? ⟨w.heap.size + 1, 1, none⟩ = some (.int .i64 yn) := h1.at_ 1
        have x2 : w2.cell? ⟨w.heap.size, 2, none⟩ = some (.int .i64 xm) := h0.at_ 2
        have y2 : w2.cell? ⟨w.heap.size + 1, 2, none⟩ = some (.int .i64 ym) := h1.at_ 2
        have x3 : w2.cell? ⟨w.heap.size, 3, none⟩ = some (.int .i64 xk) := h0.at_ 3
        have y3 : w2.cell? ⟨w.heap.size + 1, 3, none⟩ = some (.int .i64 yk) := h1.at_ 3
        have x4 : w2.cell? ⟨w.heap.size, 4, none⟩ = some (.slice xA xq.length xc) := h0.at_ 4
        have y4 : w2.cell? ⟨w.heap.size + 1, 4, none⟩ = some (.slice yA yq.length yc) := h1.at_ 4
        go_upto_region 3 with (fail)
        refine wp_region_held (S := fun w' => At w' w.heap.size (.cells #[.int .i64 xp, .int .i64 xn, .int .i64 xm, .int .i64 xk, .slice xA xq.length xc] 28 (0, 0)) ∧ At w' (w.heap.size + 1) (.cells #[.int .i64 yp, .int .i64 yn, .int .i64 ym, .int .i64 yk, .slice yA yq.length yc] 28 (0, 0))) (by kernel_rfl) ?_
        change wpAnyH _ _ _ _ _ _ _ _ (World.drew _)
        generalize hwdl : World.drew _ = wdl
        replace hB : Below w.heap.size w wdl := by rw [← hwdl]; exact hB.drew
        replace h0 : At wdl w.heap.size (.cells #[.int .i64 xp, .int .i64 xn, .int .i64 xm, .int .i64 xk, .slice xA xq.length xc] 28 (0, 0)) := by rw [← hwdl]; exact h0
        replace h1 : At wdl (w.heap.size + 1) (.cells #[.int .i64 yp, .int .i64 yn, .int .i64 ym, .int .i64 yk, .slice yA yq.length yc] 28 (0, 0)) := by rw [← hwdl]; exact h1
        clear hwdl
        refine held_yield 0 (some 13) (.pointer (some ⟨w.heap.size, 0, none⟩)) rfl (by kernel_rfl) (by kernel_rfl) (by kernel_rfl) (fun _ _ _ h => h) rfl rfl ⟨h0, h1⟩ (fun w' h' => exec_fieldAddr 28 _ 0 rfl _ (by kernel_rfl)) ?_
        go_frame
        refine held_yield 1 (some 14) (.int .i64 xp) rfl (by kernel_rfl) (by kernel_rfl) (by kernel_rfl) (fun _ _ _ h => h) rfl rfl ⟨h0, h1⟩ (fun w' h' => exec_load_one 2 _ rfl w.heap.size 0 rfl _ _ Try.underlying2 rfl (h'.1.at_ 0)) ?_
        go_frame
        refine held_yield 2 (some 15) (.pointer (some ⟨w.heap.size + 1, 0, none⟩)) rfl (by kernel_rfl) (by kernel_rfl) (by kernel_rfl) (fun _ _ _ h => h) rfl rfl ⟨h0, h1⟩ (fun w' h' => exec_fieldAddr 28 _ 0 rfl _ (by kernel_rfl)) ?_
        go_frame
        refine held_yield 3 (some 16) (.int .i64 yp) rfl (by kernel_rfl) (by kernel_rfl) (by kernel_rfl) (fun _ _ _ h => h) rfl rfl ⟨h0, h1⟩ (fun w' h' => exec_load_one 2 _ rfl (w.heap.size + 1) 0 rfl _ _ Try.underlying2 rfl (h'.2.at_ 0)) ?_
        go_frame
        refine held_yield 4 (some 17) (.bool true) rfl (by kernel_rfl) (by kernel_rfl) (by kernel_rfl) (fun _ _ _ h => h) rfl rfl ⟨h0, h1⟩ (fun w' h' => exec_neq _ _ _ _ rfl xp yp rfl rfl true fp) ?_
        go_frame
        refine held_yield 5 (some 18) (.bool true) rfl (by kernel_rfl) (by kernel_rfl) (by kernel_rfl) (fun _ _ _ h => h) rfl rfl ⟨h0, h1⟩ (fun w' h' => exec_move _ rfl (.bool true) rfl) ?_
        go_frame
        refine held_skip_g 6 (some 19) rfl (by kernel_rfl) (by kernel_rfl) (by kernel_rfl) (fun _ _ _ h => h) rfl rfl ⟨h0, h1⟩ ?_
        go_frame
        refine held_skip_g 8 (some 21) rfl (by kernel_rfl) (by kernel_rfl) (by kernel_rfl) (fun _ _ _ h => h) rfl rfl ⟨h0, h1⟩ ?_
        go_frame
        refine held_pass_g 7 (some 20) (by kernel_rfl) rfl rfl rfl ⟨h0, h1⟩ ?_
        go_frame
        refine held_pass_g 9 (some 22) (by kernel_rfl) rfl rfl rfl ⟨h0, h1⟩ ?_
        go_frame
        refine held_skip_g 10 (some 23) rfl (by kernel_rfl) (by kernel_rfl) (by kernel_rfl) (fun _ _ _ h => h) rfl rfl ⟨h0, h1⟩ ?_
        go_frame
        refine held_yield 11 (some 24) (.bool true) rfl (by kernel_rfl) (by kernel_rfl) (by kernel_rfl) (fun _ _ _ h => h) rfl rfl ⟨h0, h1⟩ (fun w' h' => exec_pick _ _ _ rfl true rfl (.bool true) rfl) ?_
        go_frame
        refine wpAnyH_done (by kernel_rfl) ?_ _
        go_wp2_with fail
        go_ret
        exact ⟨by rw [Hc.out]; rfl, hB⟩
end Go.Proofs.Ytbgoopmmdbhogaa
