/-
  CompareExponents of both sides. (Made by mkcs3.py.)
-/
import Derived.Test.YtphccbilldfdpaaCs2
namespace Go.Proofs.Ytphccbilldfdpaa
open Go.RowKit
set_option maxRecDepth 100000
attribute [local irreducible] wpList
theorem exec_neqs_sizes {o : Oper} {a : Act} {w : World} (x y : Operand) (t' : TypeId) (ho : o.op = .binOp .neq 60 x y t') (n m k n' m' k' : Int) (hx : a.eval x = .agg #[.int .i64 n, .int .i64 m, .int .i64 k]) (hy : a.eval y = .agg #[.int .i64 n', .int .i64 m', .int .i64 k']) (b : Bool) (hb : (!(n == n' && (m == m' && k == k'))) = b) :
    (execOp a.eval o).run Try.prog w = .ok (.value (.bool b)) w := by
  have hm : Try.prog.eqGuardType Try.prog.depth 60 = false := by kernel_rfl
  unfold execOp
  subst hb
  simp [ho, hx, hy, Sem.run_bind, run_eqGuard_agg w .neq _ x y _ _ hm, run_neq_struct, run_eqs_sizes]
def ceB (xn xm xk yn ym yk : Int) (xq yq : List (List Nat)) : Bool := sqB xn xm xk && (xn == yn && (xm == ym && xk == yk)) && decide (0 < xq.length) && decide (0 < yq.length)
def cmpI (a b : Int) : Int := if a < b then -1 else if b < a then 1 else 0
def ceCode (xp xn xm xk : Int) (xq : List (List Nat)) (yp yn ym yk : Int) (yq : List (List Nat)) : Int :=
  if schemeB xp xn xm xk xq = true ∧ schemeB yp yn ym yk yq = true then (if ceB xn xm xk yn ym yk xq yq = true then 0 else 2) else 1
def ceR (xp xn xm xk : Int) (xq : List (List Nat)) (yp yn ym yk : Int) (yq : List (List Nat)) : Int := if ceCode xp xn xm xk xq yp yn ym yk yq = 0 then cmpI xq.length yq.length else 0
theorem sq_one {p n m k : Int} {qs : List (List Nat)} : sqCode p n m k qs true = 1 ↔ schemeB p n m k qs = false := by
  unfold sqCode
  cases hs : schemeB p n m k qs
  · simp
  · simp
    cases hq : sqB n m k <;> simp
theorem sq_scheme {p n m k : Int} {qs : List (List Nat)} (h : sqCode p n m k qs true ≠ 1) : schemeB p n m k qs = true := by
  cases hs : schemeB p n m k qs
  · exact absurd (sq_one.2 hs) h
  · rfl
theorem sq_two {p n m k : Int} {qs : List (List Nat)} (hs : schemeB p n m k qs = true) (h : sqCode p n m k qs true ≠ 0) : sqB n m k = false := by
  cases hq : sqB n m k
  · rfl
  · unfold sqCode at h; rw [if_pos hs, hq] at h; simp at h
theorem ce_sq {xn xm xk yn ym yk : Int} {xq yq : List (List Nat)} (h : sqB yn ym yk = false) : ceB xn xm xk yn ym yk xq yq = false := by
  cases hc : ceB xn xm xk yn ym yk xq yq
  · rfl
  · simp only [ceB, Bool.and_eq_true, beq_iff_eq] at hc
    obtain ⟨⟨⟨h1, rfl, rfl, rfl⟩, _⟩, _⟩ := hc
    rw [h] at h1
    cases h1
theorem ce_yes {xp xn xm xk yp yn ym yk : Int} {xq yq : List (List Nat)} (hx : sqCode xp xn xm xk xq true = 0) (hy : sqCode yp yn ym yk yq true = 0) (he : (xn != yn) = false) (hl : 0 < xq.length) (hm : 0 < yq.length) : ceB xn xm xk yn ym yk xq yq = true := by
  obtain ⟨_, a1, _, e1, e2, _⟩ := sq_facts hx
  obtain ⟨_, _, _, f1, f2, _⟩ := sq_facts hy
  have he2 : xn = yn := by simpa using he
  simp only [ceB, sqB, Bool.and_eq_true, beq_iff_eq, decide_eq_true_eq]
  exact ⟨⟨⟨⟨a1, e1, e2⟩, he2, by rw [e1, f1, he2], by rw [e2, f2, he2]⟩, hl⟩, hm⟩
theorem isNaN_c (a : Int) (w : World) : Calls Try.prog 50 #[.int .i64 a] w fun e w' => e = .returned (.bool false) ∧ w = w' := by
  have h : (a != a) = false := by simp
  go_enter Try.func50, Try.ntmps50
  go_wp2_with fail
  go_ret
  exact ⟨rfl, rfl⟩
theorem compare_c (a b : Int) (w : World) : Calls Try.prog 37 #[.int .i64 a, .int .i64 b] w fun e w' => e = .returned (.int .i64 (cmpI a b)) ∧ w = w' := by
  have key : ∀ r : Int, cmpI a b = r → Hid (cmpI a b = r) := fun r h => Lib.hid h
  by_cases h1 : a < b
  · have Hr := key (-1) (by simp [cmpI, h1])
    have d1 : decide (a < b) = true := by simp [h1]
    clear key
    go_enter Try.func37, Try.ntmps37
    go_wp2_with fail
    refine (isNaN_c a _).mono ?_
    rintro e w1 ⟨rfl, rfl⟩
    go_wp2_with fail
    refine (isNaN_c b _).mono ?_
    rintro e w1 ⟨rfl, rfl⟩
    go_wp2_with fail
    go_ret
    exact ⟨by rw [Hr.out]; rfl, rfl⟩
  · have d1 : decide (a < b) = false := by simp; omega
    by_cases h2 : b < a
    · have Hr := key 1 (by simp [cmpI, h1, h2])
      have d2 : decide (b < a) = true := by simp [h2]
      clear key
      go_enter Try.func37, Try.ntmps37
      go_wp2_with fail
      refine (isNaN_c a _).mono ?_
      rintro e w1 ⟨rfl, rfl⟩
      go_wp2_with fail
      refine (isNaN_c b _).mono ?_
      rintro e w1 ⟨rfl, rfl⟩
      go_wp2_with fail
      go_ret
      exact ⟨by rw [Hr.out]; rfl, rfl⟩
    · have Hr := key 0 (by simp [cmpI, h1, h2])
      have d2 : decide (b < a) = false := by simp; omega
      clear key
      go_enter Try.func37, Try.ntmps37
      go_wp2_with fail
      refine (isNaN_c a _).mono ?_
      rintro e w1 ⟨rfl, rfl⟩
      go_wp2_with fail
      refine (isNaN_c b _).mono ?_
      rintro e w1 ⟨rfl, rfl⟩
      go_wp2_with fail
      go_ret
      exact ⟨by rw [Hr.out]; rfl, rfl⟩
set_option maxHeartbeats 4000000 in
theorem implCe_a (xp xn xm xk : Int) (xA : Option Addr) (xc : Nat) (xq : List (List Nat)) (yp yn ym yk : Int) (yA : Option Addr) (yc : Nat) (yq : List (List Nat)) (w : World) (hX : Rd w xA xq) (hlx : xq.length ≤ 1048576) (_hY : Rd w yA yq) (hly : yq.length ≤ 1048576) (hx : schemeB xp xn xm xk xq = false) :
    Calls Try.prog 17 #[.agg #[.int .i64 xp, .int .i64 xn, .int .i64 xm, .int .i64 xk, .slice xA xq.length xc], .agg #[.int .i64 yp, .int .i64 yn, .int .i64 ym, .int .i64 yk, .slice yA yq.length yc]] w (fun e w' => e = .returned (.tuple #[.int .i64 (ceR xp xn xm xk xq yp yn ym yk yq), .int .i64 (ceCode xp xn xm xk xq yp yn ym yk yq)]) ∧ Below w.heap.size w w') := by
  have hB := Below.refl w.heap.size w
  have HIx := Lib.hid (fun w hr => implIsScheme_c xp xn xm xk xA xc xq w hr hlx)
  have HIy := Lib.hid (fun w hr => implIsScheme_c yp yn ym yk yA yc yq w hr hly)
  have Hx : Hid (schemeB xp xn xm xk xq = false) := Lib.hid hx
  have Hc : Hid (ceCode xp xn xm xk xq yp yn ym yk yq = 1) := Lib.hid (by unfold ceCode; rw [hx]; rfl)
  have Hr : Hid (ceR xp xn xm xk xq yp yn ym yk yq = 0) := Lib.hid (by unfold ceR; rw [Hc.out]; rfl)
  clear hx
  go_enter Try.func17, Try.ntmps17
  go_upto_region 0 with (fail)
  refine wp_region_lit ?_
  refine ls_op rfl (fun K' hK' => ?_)
  have lz1 := hB.size
  refine wp_new (some 2) rfl (exec_box 30 _ rfl (#[.int .i64 xp, .int .i64 xn, .int .i64 xm, .int .i64 xk, .slice xA xq.length xc]) rfl) (fun Wz2 nnz3 => ?_)
  have bz4 := nnz3.below (Below.refl _ _) (Nat.le_refl _)
  replace hB := below_after hB bz4
  have hz5 : At Wz2 w.heap.size (.cells #[.int .i64 xp, .int .i64 xn, .int .i64 xm, .int .i64 xk, .slice xA xq.length xc] 30 (0, 0)) := nnz3.at_
  refine hK' _ _ ?_
  clear hK' K' nnz3 bz4
  go_frame
  refine ls_op rfl (fun K' hK' => ?_)
  have lz6 := hB.size
  have lz7 := hz5.lt
  refine wp_new (some 3) rfl (exec_box 30 _ rfl (#[.int .i64 yp, .int .i64 yn, .int .i64 ym, .int .i64 yk, .slice yA yq.length yc]) rfl) (fun Wz8 nnz9 => ?_)
  have bz10 := nnz9.below (Below.refl _ _) (Nat.le_refl _)
  replace hB := below_after hB bz10
  replace hz5 := hz5.after bz10
  have hz11 : At Wz8 Wz2.heap.size (.cells #[.int .i64 yp, .int .i64 yn, .int .i64 ym, .int .i64 yk, .slice yA yq.length yc] 30 (0, 0)) := nnz9.at_
  refine hK' _ _ ?_
  clear hK' K' nnz9 bz10
  go_frame
  refine ls_ex (some 4) (.int .i64 0) rfl rfl (exec_assign _ rfl (.int .i64 0) rfl) ?_
  go_frame
  refine ls_ex (some 5) (.int .i64 0) rfl rfl (exec_assign _ rfl (.int .i64 0) rfl) ?_
  go_frame
  refine wpList_nil ?_
  go_upto_region 1 with (fail)
  refine wp_region_lit ?_
  refine ls_ex (some 6) (.agg #[.int .i64 xp, .int .i64 xn, .int .i64 xm, .int .i64 xk, .slice xA xq.length xc]) rfl rfl (exec_load_all 30 _ rfl w.heap.size rfl _ _ _ hz5 Try.underlying30 rfl 5 (by kernel_rfl) rfl) ?_
  go_frame
  refine ls_op rfl (fun K' hK' => ?_)
  have lz14 := hB.size
  have lz15 := hz5.lt
  have lz16 := hz11.lt
  refine wp_call1 (some 7) rfl 34 _ _ rfl (fun args w => by kernel_rfl) _ rfl _ (HIx.out _ (hX.keep hB)) (fun e Wz12 h => ?_)
  obtain ⟨rfl, bz13⟩ := h
  replace hB := below_after hB bz13
  replace hz5 := hz5.after bz13
  replace hz11 := hz11.after bz13
  rw [Hx.out]
  clear bz13
  refine ⟨_, rfl, ?_⟩
  refine hK' _ _ ?_
  clear hK' K'
  go_frame
  refine ls_ex (some 8) (.bool true) rfl rfl (exec_not _ _ rfl false rfl) ?_
  go_frame
  refine ls_ex (some 9) (.bool true) rfl rfl (exec_move _ rfl (.bool true) rfl) ?_
  go_frame
  refine ls_skip_g (some 10) rfl rfl ?_
  go_frame
  refine ls_skip_g (some 11) rfl rfl ?_
  go_frame
  refine ls_skip_g (some 12) rfl rfl ?_
  go_frame
  refine ls_ex (some 13) (.bool true) rfl rfl (exec_pick _ _ _ rfl true rfl (.bool true) rfl) ?_
  go_frame
  refine wpList_nil ?_
  go_upto_region 2 with (fail)
  refine wp_region_lit ?_
  refine ls_ex (some 4) (.int .i64 0) rfl rfl (exec_assign _ rfl (.int .i64 0) rfl) ?_
  go_frame
  refine ls_ex (some 5) (.int .i64 1) rfl rfl (exec_assign _ rfl (.int .i64 1) rfl) ?_
  go_frame
  refine wpList_nil ?_
  go_wp2_with fail
  go_ret2
  exact ⟨by rw [Hr.out, Hc.out]; rfl, hB⟩
set_option maxHeartbeats 4000000 in
theorem implCe_b (xp xn xm xk : Int) (xA : Option Addr) (xc : Nat) (xq : List (List Nat)) (yp yn ym yk : Int) (yA : Option Addr) (yc : Nat) (yq : List (List Nat)) (w : World) (hX : Rd w xA xq) (hlx : xq.length ≤ 1048576) (hY : Rd w yA yq) (hly : yq.length ≤ 1048576) (hx : schemeB xp xn xm xk xq = true) (hy : schemeB yp yn ym yk yq = false) :
    Calls Try.prog 17 #[.agg #[.int .i64 xp, .int .i64 xn, .int .i64 xm, .int .i64 xk, .slice xA xq.length xc], .agg #[.int .i64 yp, .int .i64 yn, .int .i64 ym, .int .i64 yk, .slice yA yq.length yc]] w (fun e w' => e = .returned (.tuple #[.int .i64 (ceR xp xn xm xk xq yp yn ym yk yq), .int .i64 (ceCode xp xn xm xk xq yp yn ym yk yq)]) ∧ Below w.heap.size w w') := by
  have hB := Below.refl w.heap.size w
  have HIx := Lib.hid (fun w hr => implIsScheme_c xp xn xm xk xA xc xq w hr hlx)
  have HIy := Lib.hid (fun w hr => implIsScheme_c yp yn ym yk yA yc yq w hr hly)
  have Hx : Hid (schemeB xp xn xm xk xq = true) := Lib.hid hx
  have Hy : Hid (schemeB yp yn ym yk yq = false) := Lib.hid hy
  have Hc : Hid (ceCode xp xn xm xk xq yp yn ym yk yq = 1) := Lib.hid (by unfold ceCode; rw [hx, hy]; rfl)
  have Hr : Hid (ceR xp xn xm xk xq yp yn ym yk yq = 0) := Lib.hid (by unfold ceR; rw [Hc.out]; rfl)
  clear hx hy
  go_enter Try.func17, Try.ntmps17
  go_upto_region 0 with (fail)
  refine wp_region_lit ?_
  refine ls_op rfl (fun K' hK' => ?_)
  have lz1 := hB.size
  refine wp_new (some 2) rfl (exec_box 30 _ rfl (#[.int .i64 xp, .int .i64 xn, .int .i64 xm, .int .i64 xk, .slice xA xq.length xc]) rfl) (fun Wz2 nnz3 => ?_)
  have bz4 := nnz3.below (Below.refl _ _) (Nat.le_refl _)
  replace hB := below_after hB bz4
  have hz5 : At Wz2 w.heap.size (.cells #[.int .i64 xp, .int .i64 xn, .int .i64 xm, .int .i64 xk, .slice xA xq.length xc] 30 (0, 0)) := nnz3.at_
  refine hK' _ _ ?_
  clear hK' K' nnz3 bz4
  go_frame
  refine ls_op rfl (fun K' hK' => ?_)
  have lz6 := hB.size
  have lz7 := hz5.lt
  refine wp_new (some 3) rfl (exec_box 30 _ rfl (#[.int .i64 yp, .int .i64 yn, .int .i64 ym, .int .i64 yk, .slice yA yq.length yc]) rfl) (fun Wz8 nnz9 => ?_)
  have bz10 := nnz9.below (Below.refl _ _) (Nat.le_refl _)
  replace hB := below_after hB bz10
  replace hz5 := hz5.after bz10
  have hz11 : At Wz8 Wz2.heap.size (.cells #[.int .i64 yp, .int .i64 yn, .int .i64 ym, .int .i64 yk, .slice yA yq.length yc] 30 (0, 0)) := nnz9.at_
  refine hK' _ _ ?_
  clear hK' K' nnz9 bz10
  go_frame
  refine ls_ex (some 4) (.int .i64 0) rfl rfl (exec_assign _ rfl (.int .i64 0) rfl) ?_
  go_frame
  refine ls_ex (some 5) (.int .i64 0) rfl rfl (exec_assign _ rfl (.int .i64 0) rfl) ?_
  go_frame
  refine wpList_nil ?_
  go_upto_region 1 with (fail)
  refine wp_region_lit ?_
  refine ls_ex (some 6) (.agg #[.int .i64 xp, .int .i64 xn, .int .i64 xm, .int .i64 xk, .slice xA xq.length xc]) rfl rfl (exec_load_all 30 _ rfl w.heap.size rfl _ _ _ hz5 Try.underlying30 rfl 5 (by kernel_rfl) rfl) ?_
  go_frame
  refine ls_op rfl (fun K' hK' => ?_)
  have lz14 := hB.size
  have lz15 := hz5.lt
  have lz16 := hz11.lt
  refine wp_call1 (some 7) rfl 34 _ _ rfl (fun args w => by kernel_rfl) _ rfl _ (HIx.out _ (hX.keep hB)) (fun e Wz12 h => ?_)
  obtain ⟨rfl, bz13⟩ := h
  replace hB := below_after hB bz13
  replace hz5 := hz5.after bz13
  replace hz11 := hz11.after bz13
  rw [Hx.out]
  clear bz13
  refine ⟨_, rfl, ?_⟩
  refine hK' _ _ ?_
  clear hK' K'
  go_frame
  refine ls_ex (some 8) (.bool false) rfl rfl (exec_not _ _ rfl true rfl) ?_
  go_frame
  refine ls_ex (some 9) (.bool false) rfl rfl (exec_move _ rfl (.bool false) rfl) ?_
  go_frame
  refine ls_ex_g (some 10) (.agg #[.int .i64 yp, .int .i64 yn, .int .i64 ym, .int .i64 yk, .slice yA yq.length yc]) rfl rfl (exec_load_all 30 _ rfl Wz2.heap.size rfl _ _ _ hz11 Try.underlying30 rfl 5 (by kernel_rfl) rfl) ?_
  go_frame
  refine ls_op_g rfl (fun K' hK' => ?_)
  have lz19 := hB.size
  have lz20 := hz5.lt
  have lz21 := hz11.lt
  refine wp_call1 (some 11) rfl 34 _ _ rfl (fun args w => by kernel_rfl) _ rfl _ (HIy.out _ (hY.keep hB)) (fun e Wz17 h => ?_)
  obtain ⟨rfl, bz18⟩ := h
  replace hB := below_after hB bz18
  replace hz5 := hz5.after bz18
  replace hz11 := hz11.after bz18
  rw [Hy.out]
  clear bz18
  refine ⟨_, rfl, ?_⟩
  refine hK' _ _ ?_
  clear hK' K'
  go_frame
  refine ls_ex_g (some 12) (.bool true) rfl rfl (exec_not _ _ rfl false rfl) ?_
  go_frame
  refine ls_ex (some 13) (.bool true) rfl rfl (exec_pick _ _ _ rfl false rfl (.bool true) rfl) ?_
  go_frame
  refine wpList_nil ?_
  go_upto_region 2 with (fail)
  refine wp_region_lit ?_
  refine ls_ex (some 4) (.int .i64 0) rfl rfl (exec_assign _ rfl (.int .i64 0) rfl) ?_
  go_frame
  refine ls_ex (some 5) (.int .i64 1) rfl rfl (exec_assign _ rfl (.int .i64 1) rfl) ?_
  go_frame
  refine wpList_nil ?_
  go_wp2_with fail
  go_ret2
  exact ⟨by rw [Hr.out, Hc.out]; rfl, hB⟩
set_option maxHeartbeats 4000000 in
theorem implCe_c (xp xn xm xk : Int) (xA : Option Addr) (xc : Nat) (xq : List (List Nat)) (yp yn ym yk : Int) (yA : Option Addr) (yc : Nat) (yq : List (List Nat)) (w : World) (hX : Rd w xA xq) (hlx : xq.length ≤ 1048576) (hY : Rd w yA yq) (hly : yq.length ≤ 1048576) (hx : schemeB xp xn xm xk xq = true) (hy : schemeB yp yn ym yk yq = true) (hq : sqB xn xm xk = false) :
    Calls Try.prog 17 #[.agg #[.int .i64 xp, .int .i64 xn, .int .i64 xm, .int .i64 xk, .slice xA xq.length xc], .agg #[.int .i64 yp, .int .i64 yn, .int .i64 ym, .int .i64 yk, .slice yA yq.length yc]] w (fun e w' => e = .returned (.tuple #[.int .i64 (ceR xp xn xm xk xq yp yn ym yk yq), .int .i64 (ceCode xp xn xm xk xq yp yn ym yk yq)]) ∧ Below w.heap.size w w') := by
  have hB := Below.refl w.heap.size w
  have HIx := Lib.hid (fun w hr => implIsScheme_c xp xn xm xk xA xc xq w hr hlx)
  have HIy := Lib.hid (fun w hr => implIsScheme_c yp yn ym yk yA yc yq w hr hly)
  have Hx : Hid (schemeB xp xn xm xk xq = true) := Lib.hid hx
  have Hy : Hid (schemeB yp yn ym yk yq = true) := Lib.hid hy
  have Hq := Lib.hid hq
  have Hc : Hid (ceCode xp xn xm xk xq yp yn ym yk yq = 2) := Lib.hid (by unfold ceCode; rw [if_pos ⟨hx, hy⟩, show ceB xn xm xk yn ym yk xq yq = false by unfold ceB; rw [hq]; rfl]; rfl)
  have Hr : Hid (ceR xp xn xm xk xq yp yn ym yk yq = 0) := Lib.hid (by unfold ceR; rw [Hc.out]; rfl)
  clear hx hy hq
  go_enter Try.func17, Try.ntmps17
  go_upto_region 0 with (fail)
  refine wp_region_lit ?_
  refine ls_op rfl (fun K' hK' => ?_)
  have lz1 := hB.size
  refine wp_new (some 2) rfl (exec_box 30 _ rfl (#[.int .i64 xp, .int .i64 xn, .int .i64 xm, .int .i64 xk, .slice xA xq.length xc]) rfl) (fun Wz2 nnz3 => ?_)
  have bz4 := nnz3.below (Below.refl _ _) (Nat.le_refl _)
  replace hB := below_after hB bz4
  have hz5 : At Wz2 w.heap.size (.cells #[.int .i64 xp, .int .i64 xn, .int .i64 xm, .int .i64 xk, .slice xA xq.length xc] 30 (0, 0)) := nnz3.at_
  refine hK' _ _ ?_
  clear hK' K' nnz3 bz4
  go_frame
  refine ls_op rfl (fun K' hK' => ?_)
  have lz6 := hB.size
  have lz7 := hz5.lt
  refine wp_new (some 3) rfl (exec_box 30 _ rfl (#[.int .i64 yp, .int .i64 yn, .int .i64 ym, .int .i64 yk, .slice yA yq.length yc]) rfl) (fun Wz8 nnz9 => ?_)
  have bz10 := nnz9.below (Below.refl _ _) (Nat.le_refl _)
  replace hB := below_after hB bz10
  replace hz5 := hz5.after bz10
  have hz11 : At Wz8 Wz2.heap.size (.cells #[.int .i64 yp, .int .i64 yn, .int .i64 ym, .int .i64 yk, .slice yA yq.length yc] 30 (0, 0)) := nnz9.at_
  refine hK' _ _ ?_
  clear hK' K' nnz9 bz10
  go_frame
  refine ls_ex (some 4) (.int .i64 0) rfl rfl (exec_assign _ rfl (.int .i64 0) rfl) ?_
  go_frame
  refine ls_ex (some 5) (.int .i64 0) rfl rfl (exec_assign _ rfl (.int .i64 0) rfl) ?_
  go_frame
  refine wpList_nil ?_
  go_upto_region 1 with (fail)
  refine wp_region_lit ?_
  refine ls_ex (some 6) (.agg #[.int .i64 xp, .int .i64 xn, .int .i64 xm, .int .i64 xk, .slice xA xq.length xc]) rfl rfl (exec_load_all 30 _ rfl w.heap.size rfl _ _ _ hz5 Try.underlying30 rfl 5 (by kernel_rfl) rfl) ?_
  go_frame
  refine ls_op rfl (fun K' hK' => ?_)
  have lz14 := hB.size
  have lz15 := hz5.lt
  have lz16 := hz11.lt
  refine wp_call1 (some 7) rfl 34 _ _ rfl (fun args w => by kernel_rfl) _ rfl _ (HIx.out _ (hX.keep hB)) (fun e Wz12 h => ?_)
  obtain ⟨rfl, bz13⟩ := h
  replace hB := below_after hB bz13
  replace hz5 := hz5.after bz13
  replace hz11 := hz11.after bz13
  rw [Hx.out]
  clear bz13
  refine ⟨_, rfl, ?_⟩
  refine hK' _ _ ?_
  clear hK' K'
  go_frame
  refine ls_ex (some 8) (.bool false) rfl rfl (exec_not _ _ rfl true rfl) ?_
  go_frame
  refine ls_ex (some 9) (.bool false) rfl rfl (exec_move _ rfl (.bool false) rfl) ?_
  go_frame
  refine ls_ex_g (some 10) (.agg #[.int .i64 yp, .int .i64 yn, .int .i64 ym, .int .i64 yk, .slice yA yq.length yc]) rfl rfl (exec_load_all 30 _ rfl Wz2.heap.size rfl _ _ _ hz11 Try.underlying30 rfl 5 (by kernel_rfl) rfl) ?_
  go_frame
  refine ls_op_g rfl (fun K' hK' => ?_)
  have lz19 := hB.size
  have lz20 := hz5.lt
  have lz21 := hz11.lt
  refine wp_call1 (some 11) rfl 34 _ _ rfl (fun args w => by kernel_rfl) _ rfl _ (HIy.out _ (hY.keep hB)) (fun e Wz17 h => ?_)
  obtain ⟨rfl, bz18⟩ := h
  replace hB := below_after hB bz18
  replace hz5 := hz5.after bz18
  replace hz11 := hz11.after bz18
  rw [Hy.out]
  clear bz18
  refine ⟨_, rfl, ?_⟩
  refine hK' _ _ ?_
  clear hK' K'
  go_frame
  refine ls_ex_g (some 12) (.bool false) rfl rfl (exec_not _ _ rfl true rfl) ?_
  go_frame
  refine ls_ex (some 13) (.bool false) rfl rfl (exec_pick _ _ _ rfl false rfl (.bool false) rfl) ?_
  go_frame
  refine wpList_nil ?_
  go_upto_region 3 with (fail)
  refine wp_region_y (zs := []) (S := fun w' => Below w.heap.size w w' ∧ At w' w.heap.size (.cells #[.int .i64 xp, .int .i64 xn, .int .i64 xm, .int .i64 xk, .slice xA xq.length xc] 30 (0, 0))) (S2 := fun w' => True) (by kernel_rfl) ?_
  change wpAnyY _ _ _ _ _ _ _ _ _ _ (World.drew _)
  generalize hwdz22 : World.drew _ = wdz22
  replace hB : Below w.heap.size w wdz22 := by rw [← hwdz22]; exact hB.drew
  replace hz5 : At wdz22 w.heap.size (.cells #[.int .i64 xp, .int .i64 xn, .int .i64 xm, .int .i64 xk, .slice xA xq.length xc] 30 (0, 0)) := by rw [← hwdz22]; exact hz5
  replace hz11 : At wdz22 Wz2.heap.size (.cells #[.int .i64 yp, .int .i64 yn, .int .i64 ym, .int .i64 yk, .slice yA yq.length yc] 30 (0, 0)) := by rw [← hwdz22]; exact hz11
  clear hwdz22
  refine y_yield 0 (some 14) (.agg #[.int .i64 xp, .int .i64 xn, .int .i64 xm, .int .i64 xk, .slice xA xq.length xc]) rfl (by kernel_rfl) (by kernel_rfl) (by kernel_rfl) (fun _ _ _ h => h) rfl rfl ⟨hB, hz5⟩ (fun w' h' => exec_load_all 30 _ rfl w.heap.size rfl _ _ _ h'.2 Try.underlying30 rfl 5 (by kernel_rfl) rfl) ?_
  go_frame
  refine y_oper 1 (by kernel_rfl) rfl rfl (fun K' hK' => ?_)
  have lz25 := hB.size
  have lz26 := hz5.lt
  have lz27 := hz11.lt
  refine wp_call1 (some 15) rfl 35 _ _ rfl (fun args w => by kernel_rfl) _ rfl _ (canRepeat_c xp xn xm xk xA xq.length xc _) (fun e Wz23 h => ?_)
  obtain ⟨rfl, bz24⟩ := h
  replace hB := below_after hB bz24
  replace hz5 := hz5.after bz24
  replace hz11 := hz11.after bz24
  rw [Hq.out]
  clear bz24
  refine ⟨_, rfl, ?_⟩
  refine hK' _ _ ⟨hB, hz5⟩ (fun _ => trivial) ?_
  clear hK' K'
  go_frame
  refine y_yield 2 (some 16) (.bool true) rfl (by kernel_rfl) (by kernel_rfl) (by kernel_rfl) (fun _ _ _ h => h) rfl rfl ⟨hB, hz5⟩ (fun w' h' => exec_not _ _ rfl false rfl) ?_
  go_frame
  refine y_yield 3 (some 17) (.bool true) rfl (by kernel_rfl) (by kernel_rfl) (by kernel_rfl) (fun _ _ _ h => h) rfl rfl ⟨hB, hz5⟩ (fun w' h' => exec_move _ rfl (.bool true) rfl) ?_
  go_frame
  refine y_skip 4 (some 18) rfl (by kernel_rfl) (by kernel_rfl) (by kernel_rfl) (fun _ _ _ h => h) rfl rfl ⟨hB, hz5⟩ ?_
  go_frame
  refine y_skip 6 (some 20) rfl (by kernel_rfl) (by kernel_rfl) (by kernel_rfl) (fun _ _ _ h => h) rfl rfl ⟨hB, hz5⟩ ?_
  go_frame
  refine y_pass 5 (some 19) (by kernel_rfl) rfl rfl rfl ⟨hB, hz5⟩ ?_
  go_frame
  refine y_pass 7 (some 21) (by kernel_rfl) rfl rfl rfl ⟨hB, hz5⟩ ?_
  go_frame
  refine y_skip 8 (some 22) rfl (by kernel_rfl) (by kernel_rfl) (by kernel_rfl) (fun _ _ _ h => h) rfl rfl ⟨hB, hz5⟩ ?_
  go_frame
  refine y_yield 9 (some 23) (.bool true) rfl (by kernel_rfl) (by kernel_rfl) (by kernel_rfl) (fun _ _ _ h => h) rfl rfl ⟨hB, hz5⟩ (fun w' h' => exec_pick _ _ _ rfl true rfl (.bool true) rfl) ?_
  go_frame
  refine y_yield 10 (some 24) (.bool true) rfl (by kernel_rfl) (by kernel_rfl) (by kernel_rfl) (fun _ _ _ h => h) rfl rfl ⟨hB, hz5⟩ (fun w' h' => exec_move _ rfl (.bool true) rfl) ?_
  go_frame
  refine y_skip 11 (some 25) rfl (by kernel_rfl) (by kernel_rfl) (by kernel_rfl) (fun _ _ _ h => h) rfl rfl ⟨hB, hz5⟩ ?_
  go_frame
  refine y_skip 12 (some 26) rfl (by kernel_rfl) (by kernel_rfl) (by kernel_rfl) (fun _ _ _ h => h) rfl rfl ⟨hB, hz5⟩ ?_
  go_frame
  refine y_skip 13 (some 27) rfl (by kernel_rfl) (by kernel_rfl) (by kernel_rfl) (fun _ _ _ h => h) rfl rfl ⟨hB, hz5⟩ ?_
  go_frame
  refine y_skip 14 (some 28) rfl (by kernel_rfl) (by kernel_rfl) (by kernel_rfl) (fun _ _ _ h => h) rfl rfl ⟨hB, hz5⟩ ?_
  go_frame
  refine y_yield 15 (some 29) (.bool true) rfl (by kernel_rfl) (by kernel_rfl) (by kernel_rfl) (fun _ _ _ h => h) rfl rfl ⟨hB, hz5⟩ (fun w' h' => exec_pick _ _ _ rfl true rfl (.bool true) rfl) ?_
  go_frame
  refine y_yield 16 (some 30) (.bool true) rfl (by kernel_rfl) (by kernel_rfl) (by kernel_rfl) (fun _ _ _ h => h) rfl rfl ⟨hB, hz5⟩ (fun w' h' => exec_move _ rfl (.bool true) rfl) ?_
  go_frame
  refine y_skip 17 (some 31) rfl (by kernel_rfl) (by kernel_rfl) (by kernel_rfl) (fun _ _ _ h => h) rfl rfl ⟨hB, hz5⟩ ?_
  go_frame
  refine y_skip 18 (some 32) rfl (by kernel_rfl) (by kernel_rfl) (by kernel_rfl) (fun _ _ _ h => h) rfl rfl ⟨hB, hz5⟩ ?_
  go_frame
  refine y_skip 19 (some 33) rfl (by kernel_rfl) (by kernel_rfl) (by kernel_rfl) (fun _ _ _ h => h) rfl rfl ⟨hB, hz5⟩ ?_
  go_frame
  refine y_skip 20 (some 34) rfl (by kernel_rfl) (by kernel_rfl) (by kernel_rfl) (fun _ _ _ h => h) rfl rfl ⟨hB, hz5⟩ ?_
  go_frame
  refine y_yield 21 (some 35) (.bool true) rfl (by kernel_rfl) (by kernel_rfl) (by kernel_rfl) (fun _ _ _ h => h) rfl rfl ⟨hB, hz5⟩ (fun w' h' => exec_pick _ _ _ rfl true rfl (.bool true) rfl) ?_
  go_frame
  refine y_done (by kernel_rfl) ?_ _
  go_upto_region 4 with (fail)
  refine wp_region_lit ?_
  refine ls_ex (some 4) (.int .i64 0) rfl rfl (exec_assign _ rfl (.int .i64 0) rfl) ?_
  go_frame
  refine ls_ex (some 5) (.int .i64 2) rfl rfl (exec_assign _ rfl (.int .i64 2) rfl) ?_
  go_frame
  refine wpList_nil ?_
  go_wp2_with fail
  go_ret2
  exact ⟨by rw [Hr.out, Hc.out]; rfl, hB⟩
set_option maxHeartbeats 4000000 in
theorem implCe_d (xp xn xm xk : Int) (xA : Option Addr) (xc : Nat) (xq : List (List Nat)) (yp yn ym yk : Int) (yA : Option Addr) (yc : Nat) (yq : List (List Nat)) (w : World) (hX : Rd w xA xq) (hlx : xq.length ≤ 1048576) (hY : Rd w yA yq) (hly : yq.length ≤ 1048576) (hx : schemeB xp xn xm xk xq = true) (hy : schemeB yp yn ym yk yq = true) (hq : sqB xn xm xk = true) (he : (xn == yn && (xm == ym && xk == yk)) = false) :
    Calls Try.prog 17 #[.agg #[.int .i64 xp, .int .i64 xn, .int .i64 xm, .int .i64 xk, .slice xA xq.length xc], .agg #[.int .i64 yp, .int .i64 yn, .int .i64 ym, .int .i64 yk, .slice yA yq.length yc]] w (fun e w' => e = .returned (.tuple #[.int .i64 (ceR xp xn xm xk xq yp yn ym yk yq), .int .i64 (ceCode xp xn xm xk xq yp yn ym yk yq)]) ∧ Below w.heap.size w w') := by
  have hB := Below.refl w.heap.size w
  have HIx := Lib.hid (fun w hr => implIsScheme_c xp xn xm xk xA xc xq w hr hlx)
  have HIy := Lib.hid (fun w hr => implIsScheme_c yp yn ym yk yA yc yq w hr hly)
  have Hx : Hid (schemeB xp xn xm xk xq = true) := Lib.hid hx
  have Hy : Hid (schemeB yp yn ym yk yq = true) := Lib.hid hy
  have Hq := Lib.hid hq
  have He : Hid ((!(xn == yn && (xm == ym && xk == yk))) = true) := Lib.hid (by rw [he]; rfl)
  have Hc : Hid (ceCode xp xn xm xk xq yp yn ym yk yq = 2) := Lib.hid (by unfold ceCode; rw [if_pos ⟨hx, hy⟩, show ceB xn xm xk yn ym yk xq yq = false by unfold ceB; rw [hq, he]; rfl]; rfl)
  have Hr : Hid (ceR xp xn xm xk xq yp yn ym yk yq = 0) := Lib.hid (by unfold ceR; rw [Hc.out]; rfl)
  clear hx hy hq he
  go_enter Try.func17, Try.ntmps17
  go_upto_region 0 with (fail)
  refine wp_region_lit ?_
  refine ls_op rfl (fun K' hK' => ?_)
  have lz1 := hB.size
  refine wp_new (some 2) rfl (exec_box 30 _ rfl (#[.int .i64 xp, .int .i64 xn, .int .i64 xm, .int .i64 xk, .slice xA xq.length xc]) rfl) (fun Wz2 nnz3 => ?_)
  have bz4 := nnz3.below (Below.refl _ _) (Nat.le_refl _)
  replace hB := below_after hB bz4
  have hz5 : At Wz2 w.heap.size (.cells #[.int .i64 xp, .int .i64 xn, .int .i64 xm, .int .i64 xk, .slice xA xq.length xc] 30 (0, 0)) := nnz3.at_
  refine hK' _ _ ?_
  clear hK' K' nnz3 bz4
  go_frame
  refine ls_op rfl (fun K' hK' => ?_)
  have lz6 := hB.size
  have lz7 := hz5.lt
  refine wp_new (some 3) rfl (exec_box 30 _ rfl (#[.int .i64 yp, .int .i64 yn, .int .i64 ym, .int .i64 yk, .slice yA yq.length yc]) rfl) (fun Wz8 nnz9 => ?_)
  have bz10 := nnz9.below (Below.refl _ _) (Nat.le_refl _)
  replace hB := below_after hB bz10
  replace hz5 := hz5.after bz10
  have hz11 : At Wz8 Wz2.heap.size (.cells #[.int .i64 yp, .int .i64 yn, .int .i64 ym, .int .i64 yk, .slice yA yq.length yc] 30 (0, 0)) := nnz9.at_
  refine hK' _ _ ?_
  clear hK' K' nnz9 bz10
  go_frame
  refine ls_ex (some 4) (.int .i64 0) rfl rfl (exec_assign _ rfl (.int .i64 0) rfl) ?_
  go_frame
  refine ls_ex (some 5) (.int .i64 0) rfl rfl (exec_assign _ rfl (.int .i64 0) rfl) ?_
  go_frame
  refine wpList_nil ?_
  go_upto_region 1 with (fail)
  refine wp_region_lit ?_
  refine ls_ex (some 6) (.agg #[.int .i64 xp, .int .i64 xn, .int .i64 xm, .int .i64 xk, .slice xA xq.length xc]) rfl rfl (exec_load_all 30 _ rfl w.heap.size rfl _ _ _ hz5 Try.underlying30 rfl 5 (by kernel_rfl) rfl) ?_
  go_frame
  refine ls_op rfl (fun K' hK' => ?_)
  have lz14 := hB.size
  have lz15 := hz5.lt
  have lz16 := hz11.lt
  refine wp_call1 (some 7) rfl 34 _ _ rfl (fun args w => by kernel_rfl) _ rfl _ (HIx.out _ (hX.keep hB)) (fun e Wz12 h => ?_)
  obtain ⟨rfl, bz13⟩ := h
  replace hB := below_after hB bz13
  replace hz5 := hz5.after bz13
  replace hz11 := hz11.after bz13
  rw [Hx.out]
  clear bz13
  refine ⟨_, rfl, ?_⟩
  refine hK' _ _ ?_
  clear hK' K'
  go_frame
  refine ls_ex (some 8) (.bool false) rfl rfl (exec_not _ _ rfl true rfl) ?_
  go_frame
  refine ls_ex (some 9) (.bool false) rfl rfl (exec_move _ rfl (.bool false) rfl) ?_
  go_frame
  refine ls_ex_g (some 10) (.agg #[.int .i64 yp, .int .i64 yn, .int .i64 ym, .int .i64 yk, .slice yA yq.length yc]) rfl rfl (exec_load_all 30 _ rfl Wz2.heap.size rfl _ _ _ hz11 Try.underlying30 rfl 5 (by kernel_rfl) rfl) ?_
  go_frame
  refine ls_op_g rfl (fun K' hK' => ?_)
  have lz19 := hB.size
  have lz20 := hz5.lt
  have lz21 := hz11.lt
  refine wp_call1 (some 11) rfl 34 _ _ rfl (fun args w => by kernel_rfl) _ rfl _ (HIy.out _ (hY.keep hB)) (fun e Wz17 h => ?_)
  obtain ⟨rfl, bz18⟩ := h
  replace hB := below_after hB bz18
  replace hz5 := hz5.after bz18
  replace hz11 := hz11.after bz18
  rw [Hy.out]
  clear bz18
  refine ⟨_, rfl, ?_⟩
  refine hK' _ _ ?_
  clear hK' K'
  go_frame
  refine ls_ex_g (some 12) (.bool false) rfl rfl (exec_not _ _ rfl true rfl) ?_
  go_frame
  refine ls_ex (some 13) (.bool false) rfl rfl (exec_pick _ _ _ rfl false rfl (.bool false) rfl) ?_
  go_frame
  refine wpList_nil ?_
  go_upto_region 3 with (fail)
  refine wp_region_y (zs := []) (S := fun w' => Below w.heap.size w w' ∧ At w' w.heap.size (.cells #[.int .i64 xp, .int .i64 xn, .int .i64 xm, .int .i64 xk, .slice xA xq.length xc] 30 (0, 0)) ∧ At w' Wz2.heap.size (.cells #[.int .i64 yp, .int .i64 yn, .int .i64 ym, .int .i64 yk, .slice yA yq.length yc] 30 (0, 0))) (S2 := fun w' => True) (by kernel_rfl) ?_
  change wpAnyY _ _ _ _ _ _ _ _ _ _ (World.drew _)
  generalize hwdz22 : World.drew _ = wdz22
  replace hB : Below w.heap.size w wdz22 := by rw [← hwdz22]; exact hB.drew
  replace hz5 : At wdz22 w.heap.size (.cells #[.int .i64 xp, .int .i64 xn, .int .i64 xm, .int .i64 xk, .slice xA xq.length xc] 30 (0, 0)) := by rw [← hwdz22]; exact hz5
  replace hz11 : At wdz22 Wz2.heap.size (.cells #[.int .i64 yp, .int .i64 yn, .int .i64 ym, .int .i64 yk, .slice yA yq.length yc] 30 (0, 0)) := by rw [← hwdz22]; exact hz11
  clear hwdz22
  refine y_yield 0 (some 14) (.agg #[.int .i64 xp, .int .i64 xn, .int .i64 xm, .int .i64 xk, .slice xA xq.length xc]) rfl (by kernel_rfl) (by kernel_rfl) (by kernel_rfl) (fun _ _ _ h => h) rfl rfl ⟨hB, hz5, hz11⟩ (fun w' h' => exec_load_all 30 _ rfl w.heap.size rfl _ _ _ h'.2.1 Try.underlying30 rfl 5 (by kernel_rfl) rfl) ?_
  go_frame
  refine y_oper 1 (by kernel_rfl) rfl rfl (fun K' hK' => ?_)
  have lz25 := hB.size
  have lz26 := hz5.lt
  have lz27 := hz11.lt
  refine wp_call1 (some 15) rfl 35 _ _ rfl (fun args w => by kernel_rfl) _ rfl _ (canRepeat_c xp xn xm xk xA xq.length xc _) (fun e Wz23 h => ?_)
  obtain ⟨rfl, bz24⟩ := h
  replace hB := below_after hB bz24
  replace hz5 := hz5.after bz24
  replace hz11 := hz11.after bz24
  rw [Hq.out]
  clear bz24
  refine ⟨_, rfl, ?_⟩
  refine hK' _ _ ⟨hB, hz5, hz11⟩ (fun _ => trivial) ?_
  clear hK' K'
  go_frame
  refine y_yield 2 (some 16) (.bool false) rfl (by kernel_rfl) (by kernel_rfl) (by kernel_rfl) (fun _ _ _ h => h) rfl rfl ⟨hB, hz5, hz11⟩ (fun w' h' => exec_not _ _ rfl true rfl) ?_
  go_frame
  refine y_yield 3 (some 17) (.bool false) rfl (by kernel_rfl) (by kernel_rfl) (by kernel_rfl) (fun _ _ _ h => h) rfl rfl ⟨hB, hz5, hz11⟩ (fun w' h' => exec_move _ rfl (.bool false) rfl) ?_
  go_frame
  refine y_yield 4 (some 18) (.agg #[.int .i64 xp, .int .i64 xn, .int .i64 xm, .int .i64 xk, .slice xA xq.length xc]) rfl (by kernel_rfl) (by kernel_rfl) (by kernel_rfl) (fun _ _ _ h => h) rfl rfl ⟨hB, hz5, hz11⟩ (fun w' h' => exec_load_all 30 _ rfl w.heap.size rfl _ _ _ h'.2.1 Try.underlying30 rfl 5 (by kernel_rfl) rfl) ?_
  go_frame
  refine y_yield 6 (some 20) (.agg #[.int .i64 yp, .int .i64 yn, .int .i64 ym, .int .i64 yk, .slice yA yq.length yc]) rfl (by kernel_rfl) (by kernel_rfl) (by kernel_rfl) (fun _ _ _ h => h) rfl rfl ⟨hB, hz5, hz11⟩ (fun w' h' => exec_load_all 30 _ rfl Wz2.heap.size rfl _ _ _ h'.2.2 Try.underlying30 rfl 5 (by kernel_rfl) rfl) ?_
  go_frame
  refine y_oper 5 (by kernel_rfl) rfl rfl (fun K' hK' => ?_)
  have lz30 := hB.size
  have lz31 := hz5.lt
  have lz32 := hz11.lt
  refine wp_call1 (some 19) rfl 36 _ _ rfl (fun args w => by kernel_rfl) _ rfl _ (sizesOf_c xp xn xm xk (.slice xA xq.length xc) _) (fun e Wz28 h => ?_)
  obtain ⟨rfl, bz29⟩ := h
  replace hB := below_after hB bz29
  replace hz5 := hz5.after bz29
  replace hz11 := hz11.after bz29
  clear bz29
  refine ⟨_, rfl, ?_⟩
  refine hK' _ _ ⟨hB, hz5, hz11⟩ (fun _ => trivial) ?_
  clear hK' K'
  go_frame
  refine y_oper 7 (by kernel_rfl) rfl rfl (fun K' hK' => ?_)
  have lz35 := hB.size
  have lz36 := hz5.lt
  have lz37 := hz11.lt
  refine wp_call1 (some 21) rfl 36 _ _ rfl (fun args w => by kernel_rfl) _ rfl _ (sizesOf_c yp yn ym yk (.slice yA yq.length yc) _) (fun e Wz33 h => ?_)
  obtain ⟨rfl, bz34⟩ := h
  replace hB := below_after hB bz34
  replace hz5 := hz5.after bz34
  replace hz11 := hz11.after bz34
  clear bz34
  refine ⟨_, rfl, ?_⟩
  refine hK' _ _ ⟨hB, hz5, hz11⟩ (fun _ => trivial) ?_
  clear hK' K'
  go_frame
  refine y_yield 8 (some 22) (.bool true) rfl (by kernel_rfl) (by kernel_rfl) (by kernel_rfl) (fun _ _ _ h => h) rfl rfl ⟨hB, hz5, hz11⟩ (fun w' h' => exec_neqs_sizes _ _ _ rfl xn xm xk yn ym yk rfl rfl true He.out) ?_
  go_frame
  refine y_yield 9 (some 23) (.bool true) rfl (by kernel_rfl) (by kernel_rfl) (by kernel_rfl) (fun _ _ _ h => h) rfl rfl ⟨hB, hz5, hz11⟩ (fun w' h' => exec_pick _ _ _ rfl false rfl (.bool true) rfl) ?_
  go_frame
  refine y_yield 10 (some 24) (.bool true) rfl (by kernel_rfl) (by kernel_rfl) (by kernel_rfl) (fun _ _ _ h => h) rfl rfl ⟨hB, hz5, hz11⟩ (fun w' h' => exec_move _ rfl (.bool true) rfl) ?_
  go_frame
  refine y_skip 11 (some 25) rfl (by kernel_rfl) (by kernel_rfl) (by kernel_rfl) (fun _ _ _ h => h) rfl rfl ⟨hB, hz5, hz11⟩ ?_
  go_frame
  refine y_skip 12 (some 26) rfl (by kernel_rfl) (by kernel_rfl) (by kernel_rfl) (fun _ _ _ h => h) rfl rfl ⟨hB, hz5, hz11⟩ ?_
  go_frame
  refine y_skip 13 (some 27) rfl (by kernel_rfl) (by kernel_rfl) (by kernel_rfl) (fun _ _ _ h => h) rfl rfl ⟨hB, hz5, hz11⟩ ?_
  go_frame
  refine y_skip 14 (some 28) rfl (by kernel_rfl) (by kernel_rfl) (by kernel_rfl) (fun _ _ _ h => h) rfl rfl ⟨hB, hz5, hz11⟩ ?_
  go_frame
  refine y_yield 15 (some 29) (.bool true) rfl (by kernel_rfl) (by kernel_rfl) (by kernel_rfl) (fun _ _ _ h => h) rfl rfl ⟨hB, hz5, hz11⟩ (fun w' h' => exec_pick _ _ _ rfl true rfl (.bool true) rfl) ?_
  go_frame
  refine y_yield 16 (some 30) (.bool true) rfl (by kernel_rfl) (by kernel_rfl) (by kernel_rfl) (fun _ _ _ h => h) rfl rfl ⟨hB, hz5, hz11⟩ (fun w' h' => exec_move _ rfl (.bool true) rfl) ?_
  go_frame
  refine y_skip 17 (some 31) rfl (by kernel_rfl) (by kernel_rfl) (by kernel_rfl) (fun _ _ _ h => h) rfl rfl ⟨hB, hz5, hz11⟩ ?_
  go_frame
  refine y_skip 18 (some 32) rfl (by kernel_rfl) (by kernel_rfl) (by kernel_rfl) (fun _ _ _ h => h) rfl rfl ⟨hB, hz5, hz11⟩ ?_
  go_frame
  refine y_skip 19 (some 33) rfl (by kernel_rfl) (by kernel_rfl) (by kernel_rfl) (fun _ _ _ h => h) rfl rfl ⟨hB, hz5, hz11⟩ ?_
  go_frame
  refine y_skip 20 (some 34) rfl (by kernel_rfl) (by kernel_rfl) (by kernel_rfl) (fun _ _ _ h => h) rfl rfl ⟨hB, hz5, hz11⟩ ?_
  go_frame
  refine y_yield 21 (some 35) (.bool true) rfl (by kernel_rfl) (by kernel_rfl) (by kernel_rfl) (fun _ _ _ h => h) rfl rfl ⟨hB, hz5, hz11⟩ (fun w' h' => exec_pick _ _ _ rfl true rfl (.bool true) rfl) ?_
  go_frame
  refine y_done (by kernel_rfl) ?_ _
  go_upto_region 4 with (fail)
  refine wp_region_lit ?_
  refine ls_ex (some 4) (.int .i64 0) rfl rfl (exec_assign _ rfl (.int .i64 0) rfl) ?_
  go_frame
  refine ls_ex (some 5) (.int .i64 2) rfl rfl (exec_assign _ rfl (.int .i64 2) rfl) ?_
  go_frame
  refine wpList_nil ?_
  go_wp2_with fail
  go_ret2
  exact ⟨by rw [Hr.out, Hc.out]; rfl, hB⟩
set_option maxHeartbeats 4000000 in
theorem implCe_e (xp xn xm xk : Int) (xA : Option Addr) (xc : Nat) (xq : List (List Nat)) (yp yn ym yk : Int) (yA : Option Addr) (yc : Nat) (yq : List (List Nat)) (w : World) (hX : Rd w xA xq) (hlx : xq.length ≤ 1048576) (hY : Rd w yA yq) (hly : yq.length ≤ 1048576) (hx : schemeB xp xn xm xk xq = true) (hy : schemeB yp yn ym yk yq = true) (hq : sqB xn xm xk = true) (he : (xn == yn && (xm == ym && xk == yk)) = true) (hl : xq.length ≤ 0) :
    Calls Try.prog 17 #[.agg #[.int .i64 xp, .int .i64 xn, .int .i64 xm, .int .i64 xk, .slice xA xq.length xc], .agg #[.int .i64 yp, .int .i64 yn, .int .i64 ym, .int .i64 yk, .slice yA yq.length yc]] w (fun e w' => e = .returned (.tuple #[.int .i64 (ceR xp xn xm xk xq yp yn ym yk yq), .int .i64 (ceCode xp xn xm xk xq yp yn ym yk yq)]) ∧ Below w.heap.size w w') := by
  have hB := Below.refl w.heap.size w
  have HIx := Lib.hid (fun w hr => implIsScheme_c xp xn xm xk xA xc xq w hr hlx)
  have HIy := Lib.hid (fun w hr => implIsScheme_c yp yn ym yk yA yc yq w hr hly)
  have Hx : Hid (schemeB xp xn xm xk xq = true) := Lib.hid hx
  have Hy : Hid (schemeB yp yn ym yk yq = true) := Lib.hid hy
  have Hq := Lib.hid hq
  have He : Hid ((!(xn == yn && (xm == ym && xk == yk))) = false) := Lib.hid (by rw [he]; rfl)
  have Hl : Hid (((xq.length : Int) == 0) = true) := Lib.hid (beq_iff_eq.2 (by omega))
  have Hc : Hid (ceCode xp xn xm xk xq yp yn ym yk yq = 2) := Lib.hid (by unfold ceCode; rw [if_pos ⟨hx, hy⟩, show ceB xn xm xk yn ym yk xq yq = false by unfold ceB; rw [decide_eq_false (show ¬ 0 < xq.length by omega)]; simp]; rfl)
  have Hr : Hid (ceR xp xn xm xk xq yp yn ym yk yq = 0) := Lib.hid (by unfold ceR; rw [Hc.out]; rfl)
  clear hx hy hq he
  go_enter Try.func17, Try.ntmps17
  go_upto_region 0 with (fail)
  refine wp_region_lit ?_
  refine ls_op rfl (fun K' hK' => ?_)
  have lz1 := hB.size
  refine wp_new (some 2) rfl (exec_box 30 _ rfl (#[.int .i64 xp, .int .i64 xn, .int .i64 xm, .int .i64 xk, .slice xA xq.length xc]) rfl) (fun Wz2 nnz3 => ?_)
  have bz4 := nnz3.below (Below.refl _ _) (Nat.le_refl _)
  replace hB := below_after hB bz4
  have hz5 : At Wz2 w.heap.size (.cells #[.int .i64 xp, .int .i64 xn, .int .i64 xm, .int .i64 xk, .slice xA xq.length xc] 30 (0, 0)) := nnz3.at_
  refine hK' _ _ ?_
  clear hK' K' nnz3 bz4
  go_frame
  refine ls_op rfl (fun K' hK' => ?_)
  have lz6 := hB.size
  have lz7 := hz5.lt
  refine wp_new (some 3) rfl (exec_box 30 _ rfl (#[.int .i64 yp, .int .i64 yn, .int .i64 ym, .int .i64 yk, .slice yA yq.length yc]) rfl) (fun Wz8 nnz9 => ?_)
  have bz10 := nnz9.below (Below.refl _ _) (Nat.le_refl _)
  replace hB := below_after hB bz10
  replace hz5 := hz5.after bz10
  have hz11 : At Wz8 Wz2.heap.size (.cells #[.int .i64 yp, .int .i64 yn, .int .i64 ym, .int .i64 yk, .slice yA yq.length yc] 30 (0, 0)) := nnz9.at_
  refine hK' _ _ ?_
  clear hK' K' nnz9 bz10
  go_frame
  refine ls_ex (some 4) (.int .i64 0) rfl rfl (exec_assign _ rfl (.int .i64 0) rfl) ?_
  go_frame
  refine ls_ex (some 5) (.int .i64 0) rfl rfl (exec_assign _ rfl (.int .i64 0) rfl) ?_
  go_frame
  refine wpList_nil ?_
  go_upto_region 1 with (fail)
  refine wp_region_lit ?_
  refine ls_ex (some 6) (.agg #[.int .i64 xp, .int .i64 xn, .int .i64 xm, .int .i64 xk, .slice xA xq.length xc]) rfl rfl (exec_load_all 30 _ rfl w.heap.size rfl _ _ _ hz5 Try.underlying30 rfl 5 (by kernel_rfl) rfl) ?_
  go_frame
  refine ls_op rfl (fun K' hK' => ?_)
  have lz14 := hB.size
  have lz15 := hz5.lt
  have lz16 := hz11.lt
  refine wp_call1 (some 7) rfl 34 _ _ rfl (fun args w => by kernel_rfl) _ rfl _ (HIx.out _ (hX.keep hB)) (fun e Wz12 h => ?_)
  obtain ⟨rfl, bz13⟩ := h
  replace hB := below_after hB bz13
  replace hz5 := hz5.after bz13
  replace hz11 := hz11.after bz13
  rw [Hx.out]
  clear bz13
  refine ⟨_, rfl, ?_⟩
  refine hK' _ _ ?_
  clear hK' K'
  go_frame
  refine ls_ex (some 8) (.bool false) rfl rfl (exec_not _ _ rfl true rfl) ?_
  go_frame
  refine ls_ex (some 9) (.bool false) rfl rfl (exec_move _ rfl (.bool false) rfl) ?_
  go_frame
  refine ls_ex_g (some 10) (.agg #[.int .i64 yp, .int .i64 yn, .int .i64 ym, .int .i64 yk, .slice yA yq.length yc]) rfl rfl (exec_load_all 30 _ rfl Wz2.heap.size rfl _ _ _ hz11 Try.underlying30 rfl 5 (by kernel_rfl) rfl) ?_
  go_frame
  refine ls_op_g rfl (fun K' hK' => ?_)
  have lz19 := hB.size
  have lz20 := hz5.lt
  have lz21 := hz11.lt
  refine wp_call1 (some 11) rfl 34 _ _ rfl (fun args w => by kernel_rfl) _ rfl _ (HIy.out _ (hY.keep hB)) (fun e Wz17 h => ?_)
  obtain ⟨rfl, bz18⟩ := h
  replace hB := below_after hB bz18
  replace hz5 := hz5.after bz18
  replace hz11 := hz11.after bz18
  rw [Hy.out]
  clear bz18
  refine ⟨_, rfl, ?_⟩
  refine hK' _ _ ?_
  clear hK' K'
  go_frame
  refine ls_ex_g (some 12) (.bool false) rfl rfl (exec_not _ _ rfl true rfl) ?_
  go_frame
  refine ls_ex (some 13) (.bool false) rfl rfl (exec_pick _ _ _ rfl false rfl (.bool false) rfl) ?_
  go_frame
  refine wpList_nil ?_
  go_upto_region 3 with (fail)
  refine wp_region_y (zs := []) (S := fun w' => Below w.heap.size w w' ∧ At w' w.heap.size (.cells #[.int .i64 xp, .int .i64 xn, .int .i64 xm, .int .i64 xk, .slice xA xq.length xc] 30 (0, 0)) ∧ At w' Wz2.heap.size (.cells #[.int .i64 yp, .int .i64 yn, .int .i64 ym, .int .i64 yk, .slice yA yq.length yc] 30 (0, 0))) (S2 := fun w' => True) (by kernel_rfl) ?_
  change wpAnyY _ _ _ _ _ _ _ _ _ _ (World.drew _)
  generalize hwdz22 : World.drew _ = wdz22
  replace hB : Below w.heap.size w wdz22 := by rw [← hwdz22]; exact hB.drew
  replace hz5 : At wdz22 w.heap.size (.cells #[.int .i64 xp, .int .i64 xn, .int .i64 xm, .int .i64 xk, .slice xA xq.length xc] 30 (0, 0)) := by rw [← hwdz22]; exact hz5
  replace hz11 : At wdz22 Wz2.heap.size (.cells #[.int .i64 yp, .int .i64 yn, .int .i64 ym, .int .i64 yk, .slice yA yq.length yc] 30 (0, 0)) := by rw [← hwdz22]; exact hz11
  clear hwdz22
  refine y_yield 0 (some 14) (.agg #[.int .i64 xp, .int .i64 xn, .int .i64 xm, .int .i64 xk, .slice xA xq.length xc]) rfl (by kernel_rfl) (by kernel_rfl) (by kernel_rfl) (fun _ _ _ h => h) rfl rfl ⟨hB, hz5, hz11⟩ (fun w' h' => exec_load_all 30 _ rfl w.heap.size rfl _ _ _ h'.2.1 Try.underlying30 rfl 5 (by kernel_rfl) rfl) ?_
  go_frame
  refine y_oper 1 (by kernel_rfl) rfl rfl (fun K' hK' => ?_)
  have lz25 := hB.size
  have lz26 := hz5.lt
  have lz27 := hz11.lt
  refine wp_call1 (some 15) rfl 35 _ _ rfl (fun args w => by kernel_rfl) _ rfl _ (canRepeat_c xp xn xm xk xA xq.length xc _) (fun e Wz23 h => ?_)
  obtain ⟨rfl, bz24⟩ := h
  replace hB := below_after hB bz24
  replace hz5 := hz5.after bz24
  replace hz11 := hz11.after bz24
  rw [Hq.out]
  clear bz24
  refine ⟨_, rfl, ?_⟩
  refine hK' _ _ ⟨hB, hz5, hz11⟩ (fun _ => trivial) ?_
  clear hK' K'
  go_frame
  refine y_yield 2 (some 16) (.bool false) rfl (by kernel_rfl) (by kernel_rfl) (by kernel_rfl) (fun _ _ _ h => h) rfl rfl ⟨hB, hz5, hz11⟩ (fun w' h' => exec_not _ _ rfl true rfl) ?_
  go_frame
  refine y_yield 3 (some 17) (.bool false) rfl (by kernel_rfl) (by kernel_rfl) (by kernel_rfl) (fun _ _ _ h => h) rfl rfl ⟨hB, hz5, hz11⟩ (fun w' h' => exec_move _ rfl (.bool false) rfl) ?_
  go_frame
  refine y_yield 4 (some 18) (.agg #[.int .i64 xp, .int .i64 xn, .int .i64 xm, .int .i64 xk, .slice xA xq.length xc]) rfl (by kernel_rfl) (by kernel_rfl) (by kernel_rfl) (fun _ _ _ h => h) rfl rfl ⟨hB, hz5, hz11⟩ (fun w' h' => exec_load_all 30 _ rfl w.heap.size rfl _ _ _ h'.2.1 Try.underlying30 rfl 5 (by kernel_rfl) rfl) ?_
  go_frame
  refine y_yield 6 (some 20) (.agg #[.int .i64 yp, .int .i64 yn, .int .i64 ym, .int .i64 yk, .slice yA yq.length yc]) rfl (by kernel_rfl) (by kernel_rfl) (by kernel_rfl) (fun _ _ _ h => h) rfl rfl ⟨hB, hz5, hz11⟩ (fun w' h' => exec_load_all 30 _ rfl Wz2.heap.size rfl _ _ _ h'.2.2 Try.underlying30 rfl 5 (by kernel_rfl) rfl) ?_
  go_frame
  refine y_oper 5 (by kernel_rfl) rfl rfl (fun K' hK' => ?_)
  have lz30 := hB.size
  have lz31 := hz5.lt
  have lz32 := hz11.lt
  refine wp_call1 (some 19) rfl 36 _ _ rfl (fun args w => by kernel_rfl) _ rfl _ (sizesOf_c xp xn xm xk (.slice xA xq.length xc) _) (fun e Wz28 h => ?_)
  obtain ⟨rfl, bz29⟩ := h
  replace hB := below_after hB bz29
  replace hz5 := hz5.after bz29
  replace hz11 := hz11.after bz29
  clear bz29
  refine ⟨_, rfl, ?_⟩
  refine hK' _ _ ⟨hB, hz5, hz11⟩ (fun _ => trivial) ?_
  clear hK' K'
  go_frame
  refine y_oper 7 (by kernel_rfl) rfl rfl (fun K' hK' => ?_)
  have lz35 := hB.size
  have lz36 := hz5.lt
  have lz37 := hz11.lt
  refine wp_call1 (some 21) rfl 36 _ _ rfl (fun args w => by kernel_rfl) _ rfl _ (sizesOf_c yp yn ym yk (.slice yA yq.length yc) _) (fun e Wz33 h => ?_)
  obtain ⟨rfl, bz34⟩ := h
  replace hB := below_after hB bz34
  replace hz5 := hz5.after bz34
  replace hz11 := hz11.after bz34
  clear bz34
  refine ⟨_, rfl, ?_⟩
  refine hK' _ _ ⟨hB, hz5, hz11⟩ (fun _ => trivial) ?_
  clear hK' K'
  go_frame
  refine y_yield 8 (some 22) (.bool false) rfl (by kernel_rfl) (by kernel_rfl) (by kernel_rfl) (fun _ _ _ h => h) rfl rfl ⟨hB, hz5, hz11⟩ (fun w' h' => exec_neqs_sizes _ _ _ rfl xn xm xk yn ym yk rfl rfl false He.out) ?_
  go_frame
  refine y_yield 9 (some 23) (.bool false) rfl (by kernel_rfl) (by kernel_rfl) (by kernel_rfl) (fun _ _ _ h => h) rfl rfl ⟨hB, hz5, hz11⟩ (fun w' h' => exec_pick _ _ _ rfl false rfl (.bool false) rfl) ?_
  go_frame
  refine y_yield 10 (some 24) (.bool false) rfl (by kernel_rfl) (by kernel_rfl) (by kernel_rfl) (fun _ _ _ h => h) rfl rfl ⟨hB, hz5, hz11⟩ (fun w' h' => exec_move _ rfl (.bool false) rfl) ?_
  go_frame
  refine y_yield 11 (some 25) (.pointer (some ⟨w.heap.size, 4, none⟩)) rfl (by kernel_rfl) (by kernel_rfl) (by kernel_rfl) (fun _ _ _ h => h) rfl rfl ⟨hB, hz5, hz11⟩ (fun w' h' => exec_fieldAddr 30 _ 4 rfl _ (by kernel_rfl)) ?_
  go_frame
  refine y_yield 12 (some 26) (.slice xA xq.length xc) rfl (by kernel_rfl) (by kernel_rfl) (by kernel_rfl) (fun _ _ _ h => h) rfl rfl ⟨hB, hz5, hz11⟩ (fun w' h' => exec_load_one 28 _ rfl w.heap.size 4 rfl (.slice xA xq.length xc) _ Try.underlying28 rfl (h'.2.1.at_ 4)) ?_
  go_frame
  refine y_yield 13 (some 27) (.int .i64 xq.length) rfl (by kernel_rfl) (by kernel_rfl) (by kernel_rfl) (fun _ _ _ h => h) rfl rfl ⟨hB, hz5, hz11⟩ (fun w' h' => exec_len _ 28 68 rfl xA xq.length xc rfl Try.underlying28) ?_
  go_frame
  refine y_yield 14 (some 28) (.bool true) rfl (by kernel_rfl) (by kernel_rfl) (by kernel_rfl) (fun _ _ _ h => h) rfl rfl ⟨hB, hz5, hz11⟩ (fun w' h' => exec_eql _ _ _ _ rfl xq.length 0 rfl rfl true Hl.out) ?_
  go_frame
  refine y_yield 15 (some 29) (.bool true) rfl (by kernel_rfl) (by kernel_rfl) (by kernel_rfl) (fun _ _ _ h => h) rfl rfl ⟨hB, hz5, hz11⟩ (fun w' h' => exec_pick _ _ _ rfl false rfl (.bool true) rfl) ?_
  go_frame
  refine y_yield 16 (some 30) (.bool true) rfl (by kernel_rfl) (by kernel_rfl) (by kernel_rfl) (fun _ _ _ h => h) rfl rfl ⟨hB, hz5, hz11⟩ (fun w' h' => exec_move _ rfl (.bool true) rfl) ?_
  go_frame
  refine y_skip 17 (some 31) rfl (by kernel_rfl) (by kernel_rfl) (by kernel_rfl) (fun _ _ _ h => h) rfl rfl ⟨hB, hz5, hz11⟩ ?_
  go_frame
  refine y_skip 18 (some 32) rfl (by kernel_rfl) (by kernel_rfl) (by kernel_rfl) (fun _ _ _ h => h) rfl rfl ⟨hB, hz5, hz11⟩ ?_
  go_frame
  refine y_skip 19 (some 33) rfl (by kernel_rfl) (by kernel_rfl) (by kernel_rfl) (fun _ _ _ h => h) rfl rfl ⟨hB, hz5, hz11⟩ ?_
  go_frame
  refine y_skip 20 (some 34) rfl (by kernel_rfl) (by kernel_rfl) (by kernel_rfl) (fun _ _ _ h => h) rfl rfl ⟨hB, hz5, hz11⟩ ?_
  go_frame
  refine y_yield 21 (some 35) (.bool true) rfl (by kernel_rfl) (by kernel_rfl) (by kernel_rfl) (fun _ _ _ h => h) rfl rfl ⟨hB, hz5, hz11⟩ (fun w' h' => exec_pick _ _ _ rfl true rfl (.bool true) rfl) ?_
  go_frame
  refine y_done (by kernel_rfl) ?_ _
  go_upto_region 4 with (fail)
  refine wp_region_lit ?_
  refine ls_ex (some 4) (.int .i64 0) rfl rfl (exec_assign _ rfl (.int .i64 0) rfl) ?_
  go_frame
  refine ls_ex (some 5) (.int .i64 2) rfl rfl (exec_assign _ rfl (.int .i64 2) rfl) ?_
  go_frame
  refine wpList_nil ?_
  go_wp2_with fail
  go_ret2
  exact ⟨by rw [Hr.out, Hc.out]; rfl, hB⟩
set_option maxHeartbeats 4000000 in
theorem implCe_f (xp xn xm xk : Int) (xA : Option Addr) (xc : Nat) (xq : List (List Nat)) (yp yn ym yk : Int) (yA : Option Addr) (yc : Nat) (yq : List (List Nat)) (w : World) (hX : Rd w xA xq) (hlx : xq.length ≤ 1048576) (hY : Rd w yA yq) (hly : yq.length ≤ 1048576) (hx : schemeB xp xn xm xk xq = true) (hy : schemeB yp yn ym yk yq = true) (hq : sqB xn xm xk = true) (he : (xn == yn && (xm == ym && xk == yk)) = true) (hl : 0 < xq.length) (hm : yq.length ≤ 0) :
    Calls Try.prog 17 #[.agg #[.int .i64 xp, .int .i64 xn, .int .i64 xm, .int .i64 xk, .slice xA xq.length xc], .agg #[.int .i64 yp, .int .i64 yn, .int .i64 ym, .int .i64 yk, .slice yA yq.length yc]] w (fun e w' => e = .returned (.tuple #[.int .i64 (ceR xp xn xm xk xq yp yn ym yk yq), .int .i64 (ceCode xp xn xm xk xq yp yn ym yk yq)]) ∧ Below w.heap.size w w') := by
  have hB := Below.refl w.heap.size w
  have HIx := Lib.hid (fun w hr => implIsScheme_c xp xn xm xk xA xc xq w hr hlx)
  have HIy := Lib.hid (fun w hr => implIsScheme_c yp yn ym yk yA yc yq w hr hly)
  have Hx : Hid (schemeB xp xn xm xk xq = true) := Lib.hid hx
  have Hy : Hid (schemeB yp yn ym yk yq = true) := Lib.hid hy
  have Hq := Lib.hid hq
  have He : Hid ((!(xn == yn && (xm == ym && xk == yk))) = false) := Lib.hid (by rw [he]; rfl)
  have Hl : Hid (((xq.length : Int) == 0) = false) := Lib.hid (beq_eq_false_iff_ne.2 (by omega))
  have Hm : Hid (((yq.length : Int) == 0) = true) := Lib.hid (beq_iff_eq.2 (by omega))
  have Hc : Hid (ceCode xp xn xm xk xq yp yn ym yk yq = 2) := Lib.hid (by unfold ceCode; rw [if_pos ⟨hx, hy⟩, show ceB xn xm xk yn ym yk xq yq = false by unfold ceB; rw [decide_eq_false (show ¬ 0 < yq.length by omega)]; simp]; rfl)
  have Hr : Hid (ceR xp xn xm xk xq yp yn ym yk yq = 0) := Lib.hid (by unfold ceR; rw [Hc.out]; rfl)
  clear hx hy hq he
  go_enter Try.func17, Try.ntmps17
  go_upto_region 0 with (fail)
  refine wp_region_lit ?_
  refine ls_op rfl (fun K' hK' => ?_)
  have lz1 := hB.size
  refine wp_new (some 2) rfl (exec_box 30 _ rfl (#[.int .i64 xp, .int .i64 xn, .int .i64 xm, .int .i64 xk, .slice xA xq.length xc]) rfl) (fun Wz2 nnz3 => ?_)
  have bz4 := nnz3.below (Below.refl _ _) (Nat.le_refl _)
  replace hB := below_after hB bz4
  have hz5 : At Wz2 w.heap.size (.cells #[.int .i64 xp, .int .i64 xn, .int .i64 xm, .int .i64 xk, .slice xA xq.length xc] 30 (0, 0)) := nnz3.at_
  refine hK' _ _ ?_
  clear hK' K' nnz3 bz4
  go_frame
  refine ls_op rfl (fun K' hK' => ?_)
  have lz6 := hB.size
  have lz7 := hz5.lt
  refine wp_new (some 3) rfl (exec_box 30 _ rfl (#[.int .i64 yp, .int .i64 yn, .int .i64 ym, .int .i64 yk, .slice yA yq.length yc]) rfl) (fun Wz8 nnz9 => ?_)
  have bz10 := nnz9.below (Below.refl _ _) (Nat.le_refl _)
  replace hB := below_after hB bz10
  replace hz5 := hz5.after bz10
  have hz11 : At Wz8 Wz2.heap.size (.cells #[.int .i64 yp, .int .i64 yn, .int .i64 ym, .int .i64 yk, .slice yA yq.length yc] 30 (0, 0)) := nnz9.at_
  refine hK' _ _ ?_
  clear hK' K' nnz9 bz10
  go_frame
  refine ls_ex (some 4) (.int .i64 0) rfl rfl (exec_assign _ rfl (.int .i64 0) rfl) ?_
  go_frame
  refine ls_ex (some 5) (.int .i64 0) rfl rfl (exec_assign _ rfl (.int .i64 0) rfl) ?_
  go_frame
  refine wpList_nil ?_
  go_upto_region 1 with (fail)
  refine wp_region_lit ?_
  refine ls_ex (some 6) (.agg #[.int .i64 xp, .int .i64 xn, .int .i64 xm, .int .i64 xk, .slice xA xq.length xc]) rfl rfl (exec_load_all 30 _ rfl w.heap.size rfl _ _ _ hz5 Try.underlying30 rfl 5 (by kernel_rfl) rfl) ?_
  go_frame
  refine ls_op rfl (fun K' hK' => ?_)
  have lz14 := hB.size
  have lz15 := hz5.lt
  have lz16 := hz11.lt
  refine wp_call1 (some 7) rfl 34 _ _ rfl (fun args w => by kernel_rfl) _ rfl _ (HIx.out _ (hX.keep hB)) (fun e Wz12 h => ?_)
  obtain ⟨rfl, bz13⟩ := h
  replace hB := below_after hB bz13
  replace hz5 := hz5.after bz13
  replace hz11 := hz11.after bz13
  rw [Hx.out]
  clear bz13
  refine ⟨_, rfl, ?_⟩
  refine hK' _ _ ?_
  clear hK' K'
  go_frame
  refine ls_ex (some 8) (.bool false) rfl rfl (exec_not _ _ rfl true rfl) ?_
  go_frame
  refine ls_ex (some 9) (.bool false) rfl rfl (exec_move _ rfl (.bool false) rfl) ?_
  go_frame
  refine ls_ex_g (some 10) (.agg #[.int .i64 yp, .int .i64 yn, .int .i64 ym, .int .i64 yk, .slice yA yq.length yc]) rfl rfl (exec_load_all 30 _ rfl Wz2.heap.size rfl _ _ _ hz11 Try.underlying30 rfl 5 (by kernel_rfl) rfl) ?_
  go_frame
  refine ls_op_g rfl (fun K' hK' => ?_)
  have lz19 := hB.size
  have lz20 := hz5.lt
  have lz21 := hz11.lt
  refine wp_call1 (some 11) rfl 34 _ _ rfl (fun args w => by kernel_rfl) _ rfl _ (HIy.out _ (hY.keep hB)) (fun e Wz17 h => ?_)
  obtain ⟨rfl, bz18⟩ := h
  replace hB := below_after hB bz18
  replace hz5 := hz5.after bz18
  replace hz11 := hz11.after bz18
  rw [Hy.out]
  clear bz18
  refine ⟨_, rfl, ?_⟩
  refine hK' _ _ ?_
  clear hK' K'
  go_frame
  refine ls_ex_g (some 12) (.bool false) rfl rfl (exec_not _ _ rfl true rfl) ?_
  go_frame
  refine ls_ex (some 13) (.bool false) rfl rfl (exec_pick _ _ _ rfl false rfl (.bool false) rfl) ?_
  go_frame
  refine wpList_nil ?_
  go_upto_region 3 with (fail)
  refine wp_region_y (zs := []) (S := fun w' => Below w.heap.size w w' ∧ At w' w.heap.size (.cells #[.int .i64 xp, .int .i64 xn, .int .i64 xm, .int .i64 xk, .slice xA xq.length xc] 30 (0, 0)) ∧ At w' Wz2.heap.size (.cells #[.int .i64 yp, .int .i64 yn, .int .i64 ym, .int .i64 yk, .slice yA yq.length yc] 30 (0, 0))) (S2 := fun w' => True) (by kernel_rfl) ?_
  change wpAnyY _ _ _ _ _ _ _ _ _ _ (World.drew _)
  generalize hwdz22 : World.drew _ = wdz22
  replace hB : Below w.heap.size w wdz22 := by rw [← hwdz22]; exact hB.drew
  replace hz5 : At wdz22 w.heap.size (.cells #[.int .i64 xp, .int .i64 xn, .int .i64 xm, .int .i64 xk, .slice xA xq.length xc] 30 (0, 0)) := by rw [← hwdz22]; exact hz5
  replace hz11 : At wdz22 Wz2.heap.size (.cells #[.int .i64 yp, .int .i64 yn, .int .i64 ym, .int .i64 yk, .slice yA yq.length yc] 30 (0, 0)) := by rw [← hwdz22]; exact hz11
  clear hwdz22
  refine y_yield 0 (some 14) (.agg #[.int .i64 xp, .int .i64 xn, .int .i64 xm, .int .i64 xk, .slice xA xq.length xc]) rfl (by kernel_rfl) (by kernel_rfl) (by kernel_rfl) (fun _ _ _ h => h) rfl rfl ⟨hB, hz5, hz11⟩ (fun w' h' => exec_load_all 30 _ rfl w.heap.size rfl _ _ _ h'.2.1 Try.underlying30 rfl 5 (by kernel_rfl) rfl) ?_
  go_frame
  refine y_oper 1 (by kernel_rfl) rfl rfl (fun K' hK' => ?_)
  have lz25 := hB.size
  have lz26 := hz5.lt
  have lz27 := hz11.lt
  refine wp_call1 (some 15) rfl 35 _ _ rfl (fun args w => by kernel_rfl) _ rfl _ (canRepeat_c xp xn xm xk xA xq.length xc _) (fun e Wz23 h => ?_)
  obtain ⟨rfl, bz24⟩ := h
  replace hB := below_after hB bz24
  replace hz5 := hz5.after bz24
  replace hz11 := hz11.after bz24
  rw [Hq.out]
  clear bz24
  refine ⟨_, rfl, ?_⟩
  refine hK' _ _ ⟨hB, hz5, hz11⟩ (fun _ => trivial) ?_
  clear hK' K'
  go_frame
  refine y_yield 2 (some 16) (.bool false) rfl (by kernel_rfl) (by kernel_rfl) (by kernel_rfl) (fun _ _ _ h => h) rfl rfl ⟨hB, hz5, hz11⟩ (fun w' h' => exec_not _ _ rfl true rfl) ?_
  go_frame
  refine y_yield 3 (some 17) (.bool false) rfl (by kernel_rfl) (by kernel_rfl) (by kernel_rfl) (fun _ _ _ h => h) rfl rfl ⟨hB, hz5, hz11⟩ (fun w' h' => exec_move _ rfl (.bool false) rfl) ?_
  go_frame
  refine y_yield 4 (some 18) (.agg #[.int .i64 xp, .int .i64 xn, .int .i64 xm, .int .i64 xk, .slice xA xq.length xc]) rfl (by kernel_rfl) (by kernel_rfl) (by kernel_rfl) (fun _ _ _ h => h) rfl rfl ⟨hB, hz5, hz11⟩ (fun w' h' => exec_load_all 30 _ rfl w.heap.size rfl _ _ _ h'.2.1 Try.underlying30 rfl 5 (by kernel_rfl) rfl) ?_
  go_frame
  refine y_yield 6 (some 20) (.agg #[.int .i64 yp, .int .i64 yn, .int .i64 ym, .int .i64 yk, .slice yA yq.length yc]) rfl (by kernel_rfl) (by kernel_rfl) (by kernel_rfl) (fun _ _ _ h => h) rfl rfl ⟨hB, hz5, hz11⟩ (fun w' h' => exec_load_all 30 _ rfl Wz2.heap.size rfl _ _ _ h'.2.2 Try.underlying30 rfl 5 (by kernel_rfl) rfl) ?_
  go_frame
  refine y_oper 5 (by kernel_rfl) rfl rfl (fun K' hK' => ?_)
  have lz30 := hB.size
  have lz31 := hz5.lt
  have lz32 := hz11.lt
  refine wp_call1 (some 19) rfl 36 _ _ rfl (fun args w => by kernel_rfl) _ rfl _ (sizesOf_c xp xn xm xk (.slice xA xq.length xc) _) (fun e Wz28 h => ?_)
  obtain ⟨rfl, bz29⟩ := h
  replace hB := below_after hB bz29
  replace hz5 := hz5.after bz29
  replace hz11 := hz11.after bz29
  clear bz29
  refine ⟨_, rfl, ?_⟩
  refine hK' _ _ ⟨hB, hz5, hz11⟩ (fun _ => trivial) ?_
  clear hK' K'
  go_frame
  refine y_oper 7 (by kernel_rfl) rfl rfl (fun K' hK' => ?_)
  have lz35 := hB.size
  have lz36 := hz5.lt
  have lz37 := hz11.lt
  refine wp_call1 (some 21) rfl 36 _ _ rfl (fun args w => by kernel_rfl) _ rfl _ (sizesOf_c yp yn ym yk (.slice yA yq.length yc) _) (fun e Wz33 h => ?_)
  obtain ⟨rfl, bz34⟩ := h
  replace hB := below_after hB bz34
  replace hz5 := hz5.after bz34
  replace hz11 := hz11.after bz34
  clear bz34
  refine ⟨_, rfl, ?_⟩
  refine hK' _ _ ⟨hB, hz5, hz11⟩ (fun _ => trivial) ?_
  clear hK' K'
  go_frame
  refine y_yield 8 (some 22) (.bool false) rfl (by kernel_rfl) (by kernel_rfl) (by kernel_rfl) (fun _ _ _ h => h) rfl rfl ⟨hB, hz5, hz11⟩ (fun w' h' => exec_neqs_sizes _ _ _ rfl xn xm xk yn ym yk rfl rfl false He.out) ?_
  go_frame
  refine y_yield 9 (some 23) (.bool false) rfl (by kernel_rfl) (by kernel_rfl) (by kernel_rfl) (fun _ _ _ h => h) rfl rfl ⟨hB, hz5, hz11⟩ (fun w' h' => exec_pick _ _ _ rfl false rfl (.bool false) rfl) ?_
  go_frame
  refine y_yield 10 (some 24) (.bool false) rfl (by kernel_rfl) (by kernel_rfl) (by kernel_rfl) (fun _ _ _ h => h) rfl rfl ⟨hB, hz5, hz11⟩ (fun w' h' => exec_move _ rfl (.bool false) rfl) ?_
  go_frame
  refine y_yield 11 (some 25) (.pointer (some ⟨w.heap.size, 4, none⟩)) rfl (by kernel_rfl) (by kernel_rfl) (by kernel_rfl) (fun _ _ _ h => h) rfl rfl ⟨hB, hz5, hz11⟩ (fun w' h' => exec_fieldAddr 30 _ 4 rfl _ (by kernel_rfl)) ?_
  go_frame
  refine y_yield 12 (some 26) (.slice xA xq.length xc) rfl (by kernel_rfl) (by kernel_rfl) (by kernel_rfl) (fun _ _ _ h => h) rfl rfl ⟨hB, hz5, hz11⟩ (fun w' h' => exec_load_one 28 _ rfl w.heap.size 4 rfl (.slice xA xq.length xc) _ Try.underlying28 rfl (h'.2.1.at_ 4)) ?_
  go_frame
  refine y_yield 13 (some 27) (.int .i64 xq.length) rfl (by kernel_rfl) (by kernel_rfl) (by kernel_rfl) (fun _ _ _ h => h) rfl rfl ⟨hB, hz5, hz11⟩ (fun w' h' => exec_len _ 28 68 rfl xA xq.length xc rfl Try.underlying28) ?_
  go_frame
  refine y_yield 14 (some 28) (.bool false) rfl (by kernel_rfl) (by kernel_rfl) (by kernel_rfl) (fun _ _ _ h => h) rfl rfl ⟨hB, hz5, hz11⟩ (fun w' h' => exec_eql _ _ _ _ rfl xq.length 0 rfl rfl false Hl.out) ?_
  go_frame
  refine y_yield 15 (some 29) (.bool false) rfl (by kernel_rfl) (by kernel_rfl) (by kernel_rfl) (fun _ _ _ h => h) rfl rfl ⟨hB, hz5, hz11⟩ (fun w' h' => exec_pick _ _ _ rfl false rfl (.bool false) rfl) ?_
  go_frame
  refine y_yield 16 (some 30) (.bool false) rfl (by kernel_rfl) (by kernel_rfl) (by kernel_rfl) (fun _ _ _ h => h) rfl rfl ⟨hB, hz5, hz11⟩ (fun w' h' => exec_move _ rfl (.bool false) rfl) ?_
  go_frame
  refine y_yield 17 (some 31) (.pointer (some ⟨Wz2.heap.size, 4, none⟩)) rfl (by kernel_rfl) (by kernel_rfl) (by kernel_rfl) (fun _ _ _ h => h) rfl rfl ⟨hB, hz5, hz11⟩ (fun w' h' => exec_fieldAddr 30 _ 4 rfl _ (by kernel_rfl)) ?_
  go_frame
  refine y_yield 18 (some 32) (.slice yA yq.length yc) rfl (by kernel_rfl) (by kernel_rfl) (by kernel_rfl) (fun _ _ _ h => h) rfl rfl ⟨hB, hz5, hz11⟩ (fun w' h' => exec_load_one 28 _ rfl Wz2.heap.size 4 rfl (.slice yA yq.length yc) _ Try.underlying28 rfl (h'.2.2.at_ 4)) ?_
  go_frame
  refine y_yield 19 (some 33) (.int .i64 yq.length) rfl (by kernel_rfl) (by kernel_rfl) (by kernel_rfl) (fun _ _ _ h => h) rfl rfl ⟨hB, hz5, hz11⟩ (fun w' h' => exec_len _ 28 68 rfl yA yq.length yc rfl Try.underlying28) ?_
  go_frame
  refine y_yield 20 (some 34) (.bool true) rfl (by kernel_rfl) (by kernel_rfl) (by kernel_rfl) (fun _ _ _ h => h) rfl rfl ⟨hB, hz5, hz11⟩ (fun w' h' => exec_eql _ _ _ _ rfl yq.length 0 rfl rfl true Hm.out) ?_
  go_frame
  refine y_yield 21 (some 35) (.bool true) rfl (by kernel_rfl) (by kernel_rfl) (by kernel_rfl) (fun _ _ _ h => h) rfl rfl ⟨hB, hz5, hz11⟩ (fun w' h' => exec_pick _ _ _ rfl false rfl (.bool true) rfl) ?_
  go_frame
  refine y_done (by kernel_rfl) ?_ _
  go_upto_region 4 with (fail)
  refine wp_region_lit ?_
  refine ls_ex (some 4) (.int .i64 0) rfl rfl (exec_assign _ rfl (.int .i64 0) rfl) ?_
  go_frame
  refine ls_ex (some 5) (.int .i64 2) rfl rfl (exec_assign _ rfl (.int .i64 2) rfl) ?_
  go_frame
  refine wpList_nil ?_
  go_wp2_with fail
  go_ret2
  exact ⟨by rw [Hr.out, Hc.out]; rfl, hB⟩
set_option maxHeartbeats 4000000 in
theorem implCe_g (xp xn xm xk : Int) (xA : Option Addr) (xc : Nat) (xq : List (List Nat)) (yp yn ym yk : Int) (yA : Option Addr) (yc : Nat) (yq : List (List Nat)) (w : World) (hX : Rd w xA xq) (hlx : xq.length ≤ 1048576) (hY : Rd w yA yq) (hly : yq.length ≤ 1048576) (hx : schemeB xp xn xm xk xq = true) (hy : schemeB yp yn ym yk yq = true) (hq : sqB xn xm xk = true) (he : (xn == yn && (xm == ym && xk == yk)) = true) (hl : 0 < xq.length) (hm : 0 < yq.length) :
    Calls Try.prog 17 #[.agg #[.int .i64 xp, .int .i64 xn, .int .i64 xm, .int .i64 xk, .slice xA xq.length xc], .agg #[.int .i64 yp, .int .i64 yn, .int .i64 ym, .int .i64 yk, .slice yA yq.length yc]] w (fun e w' => e = .returned (.tuple #[.int .i64 (ceR xp xn xm xk xq yp yn ym yk yq), .int .i64 (ceCode xp xn xm xk xq yp yn ym yk yq)]) ∧ Below w.heap.size w w') := by
  have hB := Below.refl w.heap.size w
  have HIx := Lib.hid (fun w hr => implIsScheme_c xp xn xm xk xA xc xq w hr hlx)
  have HIy := Lib.hid (fun w hr => implIsScheme_c yp yn ym yk yA yc yq w hr hly)
  have Hx : Hid (schemeB xp xn xm xk xq = true) := Lib.hid hx
  have Hy : Hid (schemeB yp yn ym yk yq = true) := Lib.hid hy
  have Hq := Lib.hid hq
  have He : Hid ((!(xn == yn && (xm == ym && xk == yk))) = false) := Lib.hid (by rw [he]; rfl)
  have Hl : Hid (((xq.length : Int) == 0) = false) := Lib.hid (beq_eq_false_iff_ne.2 (by omega))
  have Hm : Hid (((yq.length : Int) == 0) = false) := Lib.hid (beq_eq_false_iff_ne.2 (by omega))
  have Hc : Hid (ceCode xp xn xm xk xq yp yn ym yk yq = 0) := Lib.hid (by unfold ceCode; rw [if_pos ⟨hx, hy⟩, show ceB xn xm xk yn ym yk xq yq = true by unfold ceB; rw [hq, he, decide_eq_true hl, decide_eq_true hm]; rfl]; rfl)
  have Hr : Hid (ceR xp xn xm xk xq yp yn ym yk yq = cmpI xq.length yq.length) := Lib.hid (by unfold ceR; rw [Hc.out]; rfl)
  clear hx hy hq he
  go_enter Try.func17, Try.ntmps17
  go_upto_region 0 with (fail)
  refine wp_region_lit ?_
  refine ls_op rfl (fun K' hK' => ?_)
  have lz1 := hB.size
  refine wp_new (some 2) rfl (exec_box 30 _ rfl (#[.int .i64 xp, .int .i64 xn, .int .i64 xm, .int .i64 xk, .slice xA xq.length xc]) rfl) (fun Wz2 nnz3 => ?_)
  have bz4 := nnz3.below (Below.refl _ _) (Nat.le_refl _)
  replace hB := below_after hB bz4
  have hz5 : At Wz2 w.heap.size (.cells #[.int .i64 xp, .int .i64 xn, .int .i64 xm, .int .i64 xk, .slice xA xq.length xc] 30 (0, 0)) := nnz3.at_
  refine hK' _ _ ?_
  clear hK' K' nnz3 bz4
  go_frame
  refine ls_op rfl (fun K' hK' => ?_)
  have lz6 := hB.size
  have lz7 := hz5.lt
  refine wp_new (some 3) rfl (exec_box 30 _ rfl (#[.int .i64 yp, .int .i64 yn, .int .i64 ym, .int .i64 yk, .slice yA yq.length yc]) rfl) (fun Wz8 nnz9 => ?_)
  have bz10 := nnz9.below (Below.refl _ _) (Nat.le_refl _)
  replace hB := below_after hB bz10
  replace hz5 := hz5.after bz10
  have hz11 : At Wz8 Wz2.heap.size (.cells #[.int .i64 yp, .int .i64 yn, .int .i64 ym, .int .i64 yk, .slice yA yq.length yc] 30 (0, 0)) := nnz9.at_
  refine hK' _ _ ?_
  clear hK' K' nnz9 bz10
  go_frame
  refine ls_ex (some 4) (.int .i64 0) rfl rfl (exec_assign _ rfl (.int .i64 0) rfl) ?_
  go_frame
  refine ls_ex (some 5) (.int .i64 0) rfl rfl (exec_assign _ rfl (.int .i64 0) rfl) ?_
  go_frame
  refine wpList_nil ?_
  go_upto_region 1 with (fail)
  refine wp_region_lit ?_
  refine ls_ex (some 6) (.agg #[.int .i64 xp, .int .i64 xn, .int .i64 xm, .int .i64 xk, .slice xA xq.length xc]) rfl rfl (exec_load_all 30 _ rfl w.heap.size rfl _ _ _ hz5 Try.underlying30 rfl 5 (by kernel_rfl) rfl) ?_
  go_frame
  refine ls_op rfl (fun K' hK' => ?_)
  have lz14 := hB.size
  have lz15 := hz5.lt
  have lz16 := hz11.lt
  refine wp_call1 (some 7) rfl 34 _ _ rfl (fun args w => by kernel_rfl) _ rfl _ (HIx.out _ (hX.keep hB)) (fun e Wz12 h => ?_)
  obtain ⟨rfl, bz13⟩ := h
  replace hB := below_after hB bz13
  replace hz5 := hz5.after bz13
  replace hz11 := hz11.after bz13
  rw [Hx.out]
  clear bz13
  refine ⟨_, rfl, ?_⟩
  refine hK' _ _ ?_
  clear hK' K'
  go_frame
  refine ls_ex (some 8) (.bool false) rfl rfl (exec_not _ _ rfl true rfl) ?_
  go_frame
  refine ls_ex (some 9) (.bool false) rfl rfl (exec_move _ rfl (.bool false) rfl) ?_
  go_frame
  refine ls_ex_g (some 10) (.agg #[.int .i64 yp, .int .i64 yn, .int .i64 ym, .int .i64 yk, .slice yA yq.length yc]) rfl rfl (exec_load_all 30 _ rfl Wz2.heap.size rfl _ _ _ hz11 Try.underlying30 rfl 5 (by kernel_rfl) rfl) ?_
  go_frame
  refine ls_op_g rfl (fun K' hK' => ?_)
  have lz19 := hB.size
  have lz20 := hz5.lt
  have lz21 := hz11.lt
  refine wp_call1 (some 11) rfl 34 _ _ rfl (fun args w => by kernel_rfl) _ rfl _ (HIy.out _ (hY.keep hB)) (fun e Wz17 h => ?_)
  obtain ⟨rfl, bz18⟩ := h
  replace hB := below_after hB bz18
  replace hz5 := hz5.after bz18
  replace hz11 := hz11.after bz18
  rw [Hy.out]
  clear bz18
  refine ⟨_, rfl, ?_⟩
  refine hK' _ _ ?_
  clear hK' K'
  go_frame
  refine ls_ex_g (some 12) (.bool false) rfl rfl (exec_not _ _ rfl true rfl) ?_
  go_frame
  refine ls_ex (some 13) (.bool false) rfl rfl (exec_pick _ _ _ rfl false rfl (.bool false) rfl) ?_
  go_frame
  refine wpList_nil ?_
  go_upto_region 3 with (fail)
  refine wp_region_y (zs := []) (S := fun w' => Below w.heap.size w w' ∧ At w' w.heap.size (.cells #[.int .i64 xp, .int .i64 xn, .int .i64 xm, .int .i64 xk, .slice xA xq.length xc] 30 (0, 0)) ∧ At w' Wz2.heap.size (.cells #[.int .i64 yp, .int .i64 yn, .int .i64 ym, .int .i64 yk, .slice yA yq.length yc] 30 (0, 0))) (S2 := fun w' => True) (by kernel_rfl) ?_
  change wpAnyY _ _ _ _ _ _ _ _ _ _ (World.drew _)
  generalize hwdz22 : World.drew _ = wdz22
  replace hB : Below w.heap.size w wdz22 := by rw [← hwdz22]; exact hB.drew
  replace hz5 : At wdz22 w.heap.size (.cells #[.int .i64 xp, .int .i64 xn, .int .i64 xm, .int .i64 xk, .slice xA xq.length xc] 30 (0, 0)) := by rw [← hwdz22]; exact hz5
  replace hz11 : At wdz22 Wz2.heap.size (.cells #[.int .i64 yp, .int .i64 yn, .int .i64 ym, .int .i64 yk, .slice yA yq.length yc] 30 (0, 0)) := by rw [← hwdz22]; exact hz11
  clear hwdz22
  refine y_yield 0 (some 14) (.agg #[.int .i64 xp, .int .i64 xn, .int .i64 xm, .int .i64 xk, .slice xA xq.length xc]) rfl (by kernel_rfl) (by kernel_rfl) (by kernel_rfl) (fun _ _ _ h => h) rfl rfl ⟨hB, hz5, hz11⟩ (fun w' h' => exec_load_all 30 _ rfl w.heap.size rfl _ _ _ h'.2.1 Try.underlying30 rfl 5 (by kernel_rfl) rfl) ?_
  go_frame
  refine y_oper 1 (by kernel_rfl) rfl rfl (fun K' hK' => ?_)
  have lz25 := hB.size
  have lz26 := hz5.lt
  have lz27 := hz11.lt
  refine wp_call1 (some 15) rfl 35 _ _ rfl (fun args w => by kernel_rfl) _ rfl _ (canRepeat_c xp xn xm xk xA xq.length xc _) (fun e Wz23 h => ?_)
  obtain ⟨rfl, bz24⟩ := h
  replace hB := below_after hB bz24
  replace hz5 := hz5.after bz24
  replace hz11 := hz11.after bz24
  rw [Hq.out]
  clear bz24
  refine ⟨_, rfl, ?_⟩
  refine hK' _ _ ⟨hB, hz5, hz11⟩ (fun _ => trivial) ?_
  clear hK' K'
  go_frame
  refine y_yield 2 (some 16) (.bool false) rfl (by kernel_rfl) (by kernel_rfl) (by kernel_rfl) (fun _ _ _ h => h) rfl rfl ⟨hB, hz5, hz11⟩ (fun w' h' => exec_not _ _ rfl true rfl) ?_
  go_frame
  refine y_yield 3 (some 17) (.bool false) rfl (by kernel_rfl) (by kernel_rfl) (by kernel_rfl) (fun _ _ _ h => h) rfl rfl ⟨hB, hz5, hz11⟩ (fun w' h' => exec_move _ rfl (.bool false) rfl) ?_
  go_frame
  refine y_yield 4 (some 18) (.agg #[.int .i64 xp, .int .i64 xn, .int .i64 xm, .int .i64 xk, .slice xA xq.length xc]) rfl (by kernel_rfl) (by kernel_rfl) (by kernel_rfl) (fun _ _ _ h => h) rfl rfl ⟨hB, hz5, hz11⟩ (fun w' h' => exec_load_all 30 _ rfl w.heap.size rfl _ _ _ h'.2.1 Try.underlying30 rfl 5 (by kernel_rfl) rfl) ?_
  go_frame
  refine y_yield 6 (some 20) (.agg #[.int .i64 yp, .int .i64 yn, .int .i64 ym, .int .i64 yk, .slice yA yq.length yc]) rfl (by kernel_rfl) (by kernel_rfl) (by kernel_rfl) (fun _ _ _ h => h) rfl rfl ⟨hB, hz5, hz11⟩ (fun w' h' => exec_load_all 30 _ rfl Wz2.heap.size rfl _ _ _ h'.2.2 Try.underlying30 rfl 5 (by kernel_rfl) rfl) ?_
  go_frame
  refine y_oper 5 (by kernel_rfl) rfl rfl (fun K' hK' => ?_)
  have lz30 := hB.size
  have lz31 := hz5.lt
  have lz32 := hz11.lt
  refine wp_call1 (some 19) rfl 36 _ _ rfl (fun args w => by kernel_rfl) _ rfl _ (sizesOf_c xp xn xm xk (.slice xA xq.length xc) _) (fun e Wz28 h => ?_)
  obtain ⟨rfl, bz29⟩ := h
  replace hB := below_after hB bz29
  replace hz5 := hz5.after bz29
  replace hz11 := hz11.after bz29
  clear bz29
  refine ⟨_, rfl, ?_⟩
  refine hK' _ _ ⟨hB, hz5, hz11⟩ (fun _ => trivial) ?_
  clear hK' K'
  go_frame
  refine y_oper 7 (by kernel_rfl) rfl rfl (fun K' hK' => ?_)
  have lz35 := hB.size
  have lz36 := hz5.lt
  have lz37 := hz11.lt
  refine wp_call1 (some 21) rfl 36 _ _ rfl (fun args w => by kernel_rfl) _ rfl _ (sizesOf_c yp yn ym yk (.slice yA yq.length yc) _) (fun e Wz33 h => ?_)
  obtain ⟨rfl, bz34⟩ := h
  replace hB := below_after hB bz34
  replace hz5 := hz5.after bz34
  replace hz11 := hz11.after bz34
  clear bz34
  refine ⟨_, rfl, ?_⟩
  refine hK' _ _ ⟨hB, hz5, hz11⟩ (fun _ => trivial) ?_
  clear hK' K'
  go_frame
  refine y_yield 8 (some 22) (.bool false) rfl (by kernel_rfl) (by kernel_rfl) (by kernel_rfl) (fun _ _ _ h => h) rfl rfl ⟨hB, hz5, hz11⟩ (fun w' h' => exec_neqs_sizes _ _ _ rfl xn xm xk yn ym yk rfl rfl false He.out) ?_
  go_frame
  refine y_yield 9 (some 23) (.bool false) rfl (by kernel_rfl) (by kernel_rfl) (by kernel_rfl) (fun _ _ _ h => h) rfl rfl ⟨hB, hz5, hz11⟩ (fun w' h' => exec_pick _ _ _ rfl false rfl (.bool false) rfl) ?_
  go_frame
  refine y_yield 10 (some 24) (.bool false) rfl (by kernel_rfl) (by kernel_rfl) (by kernel_rfl) (fun _ _ _ h => h) rfl rfl ⟨hB, hz5, hz11⟩ (fun w' h' => exec_move _ rfl (.bool false) rfl) ?_
  go_frame
  refine y_yield 11 (some 25) (.pointer (some ⟨w.heap.size, 4, none⟩)) rfl (by kernel_rfl) (by kernel_rfl) (by kernel_rfl) (fun _ _ _ h => h) rfl rfl ⟨hB, hz5, hz11⟩ (fun w' h' => exec_fieldAddr 30 _ 4 rfl _ (by kernel_rfl)) ?_
  go_frame
  refine y_yield 12 (some 26) (.slice xA xq.length xc) rfl (by kernel_rfl) (by kernel_rfl) (by kernel_rfl) (fun _ _ _ h => h) rfl rfl ⟨hB, hz5, hz11⟩ (fun w' h' => exec_load_one 28 _ rfl w.heap.size 4 rfl (.slice xA xq.length xc) _ Try.underlying28 rfl (h'.2.1.at_ 4)) ?_
  go_frame
  refine y_yield 13 (some 27) (.int .i64 xq.length) rfl (by kernel_rfl) (by kernel_rfl) (by kernel_rfl) (fun _ _ _ h => h) rfl rfl ⟨hB, hz5, hz11⟩ (fun w' h' => exec_len _ 28 68 rfl xA xq.length xc rfl Try.underlying28) ?_
  go_frame
  refine y_yield 14 (some 28) (.bool false) rfl (by kernel_rfl) (by kernel_rfl) (by kernel_rfl) (fun _ _ _ h => h) rfl rfl ⟨hB, hz5, hz11⟩ (fun w' h' => exec_eql _ _ _ _ rfl xq.length 0 rfl rfl false Hl.out) ?_
  go_frame
  refine y_yield 15 (some 29) (.bool false) rfl (by kernel_rfl) (by kernel_rfl) (by kernel_rfl) (fun _ _ _ h => h) rfl rfl ⟨hB, hz5, hz11⟩ (fun w' h' => exec_pick _ _ _ rfl false rfl (.bool false) rfl) ?_
  go_frame
  refine y_yield 16 (some 30) (.bool false) rfl (by kernel_rfl) (by kernel_rfl) (by kernel_rfl) (fun _ _ _ h => h) rfl rfl ⟨hB, hz5, hz11⟩ (fun w' h' => exec_move _ rfl (.bool false) rfl) ?_
  go_frame
  refine y_yield 17 (some 31) (.pointer (some ⟨Wz2.heap.size, 4, none⟩)) rfl (by kernel_rfl) (by kernel_rfl) (by kernel_rfl) (fun _ _ _ h => h) rfl rfl ⟨hB, hz5, hz11⟩ (fun w' h' => exec_fieldAddr 30 _ 4 rfl _ (by kernel_rfl)) ?_
  go_frame
  refine y_yield 18 (some 32) (.slice yA yq.length yc) rfl (by kernel_rfl) (by kernel_rfl) (by kernel_rfl) (fun _ _ _ h => h) rfl rfl ⟨hB, hz5, hz11⟩ (fun w' h' => exec_load_one 28 _ rfl Wz2.heap.size 4 rfl (.slice yA yq.length yc) _ Try.underlying28 rfl (h'.2.2.at_ 4)) ?_
  go_frame
  refine y_yield 19 (some 33) (.int .i64 yq.length) rfl (by kernel_rfl) (by kernel_rfl) (by kernel_rfl) (fun _ _ _ h => h) rfl rfl ⟨hB, hz5, hz11⟩ (fun w' h' => exec_len _ 28 68 rfl yA yq.length yc rfl Try.underlying28) ?_
  go_frame
  refine y_yield 20 (some 34) (.bool false) rfl (by kernel_rfl) (by kernel_rfl) (by kernel_rfl) (fun _ _ _ h => h) rfl rfl ⟨hB, hz5, hz11⟩ (fun w' h' => exec_eql _ _ _ _ rfl yq.length 0 rfl rfl false Hm.out) ?_
  go_frame
  refine y_yield 21 (some 35) (.bool false) rfl (by kernel_rfl) (by kernel_rfl) (by kernel_rfl) (fun _ _ _ h => h) rfl rfl ⟨hB, hz5, hz11⟩ (fun w' h' => exec_pick _ _ _ rfl false rfl (.bool false) rfl) ?_
  go_frame
  refine y_done (by kernel_rfl) ?_ _
  go_upto_region 5 with (fail)
  refine wp_region_lit ?_
  refine ls_ex (some 36) (.pointer (some ⟨w.heap.size, 4, none⟩)) rfl rfl (exec_fieldAddr 30 _ 4 rfl _ (by kernel_rfl)) ?_
  go_frame
  refine ls_ex (some 37) (.slice xA xq.length xc) rfl rfl (exec_load_one 28 _ rfl w.heap.size 4 rfl (.slice xA xq.length xc) _ Try.underlying28 rfl (hz5.at_ 4)) ?_
  go_frame
  refine ls_ex (some 38) (.int .i64 xq.length) rfl rfl (exec_len _ 28 68 rfl xA xq.length xc rfl Try.underlying28) ?_
  go_frame
  refine ls_ex (some 39) (.pointer (some ⟨Wz2.heap.size, 4, none⟩)) rfl rfl (exec_fieldAddr 30 _ 4 rfl _ (by kernel_rfl)) ?_
  go_frame
  refine ls_ex (some 40) (.slice yA yq.length yc) rfl rfl (exec_load_one 28 _ rfl Wz2.heap.size 4 rfl (.slice yA yq.length yc) _ Try.underlying28 rfl (hz11.at_ 4)) ?_
  go_frame
  refine ls_ex (some 41) (.int .i64 yq.length) rfl rfl (exec_len _ 28 68 rfl yA yq.length yc rfl Try.underlying28) ?_
  go_frame
  refine ls_op rfl (fun K' hK' => ?_)
  have lz40 := hB.size
  have lz41 := hz5.lt
  have lz42 := hz11.lt
  refine wp_call2 (some 42) rfl 37 _ _ _ rfl (fun args w => by kernel_rfl) _ _ rfl rfl _ (compare_c xq.length yq.length _) (fun e Wz38 h => ?_)
  obtain ⟨rfl, rfl⟩ := h
  refine ⟨_, rfl, ?_⟩
  refine hK' _ _ ?_
  clear hK' K'
  go_frame
  refine ls_ex (some 4) (.int .i64 (cmpI xq.length yq.length)) rfl rfl (exec_assign _ rfl (.int .i64 (cmpI xq.length yq.length)) rfl) ?_
  go_frame
  refine ls_ex (some 5) (.int .i64 0) rfl rfl (exec_assign _ rfl (.int .i64 0) rfl) ?_
  go_frame
  refine wpList_nil ?_
  go_wp2_with fail
  go_ret2
  exact ⟨by rw [Hr.out, Hc.out]; rfl, hB⟩
theorem implCompareExponents_c (xp xn xm xk : Int) (xA : Option Addr) (xc : Nat) (xq : List (List Nat)) (yp yn ym yk : Int) (yA : Option Addr) (yc : Nat) (yq : List (List Nat)) (w : World) (hX : Rd w xA xq) (hlx : xq.length ≤ 1048576) (hY : Rd w yA yq) (hly : yq.length ≤ 1048576) : Calls Try.prog 17 #[.agg #[.int .i64 xp, .int .i64 xn, .int .i64 xm, .int .i64 xk, .slice xA xq.length xc], .agg #[.int .i64 yp, .int .i64 yn, .int .i64 ym, .int .i64 yk, .slice yA yq.length yc]] w (fun e w' => e = .returned (.tuple #[.int .i64 (ceR xp xn xm xk xq yp yn ym yk yq), .int .i64 (ceCode xp xn xm xk xq yp yn ym yk yq)]) ∧ Below w.heap.size w w') := by
  cases hx : schemeB xp xn xm xk xq with
  | false => exact implCe_a xp xn xm xk xA xc xq yp yn ym yk yA yc yq w hX hlx hY hly hx
  | true =>
    cases hy : schemeB yp yn ym yk yq with
    | false => exact implCe_b xp xn xm xk xA xc xq yp yn ym yk yA yc yq w hX hlx hY hly hx hy
    | true =>
      cases hq : sqB xn xm xk with
      | false => exact implCe_c xp xn xm xk xA xc xq yp yn ym yk yA yc yq w hX hlx hY hly hx hy hq
      | true =>
        cases he : (xn == yn && (xm == ym && xk == yk)) with
        | false => exact implCe_d xp xn xm xk xA xc xq yp yn ym yk yA yc yq w hX hlx hY hly hx hy hq he
        | true =>
          by_cases hl : 0 < xq.length
          · by_cases hm : 0 < yq.length
            · exact implCe_g xp xn xm xk xA xc xq yp yn ym yk yA yc yq w hX hlx hY hly hx hy hq he hl hm
            · exact implCe_f xp xn xm xk xA xc xq yp yn ym yk yA yc yq w hX hlx hY hly hx hy hq he hl (by omega)
          · exact implCe_e xp xn xm xk xA xc xq yp yn ym yk yA yc yq w hX hlx hY hly hx hy hq he (by omega)
set_option maxHeartbeats 4000000 in
theorem specCe_1 (xp xn xm xk : Int) (xA : Option Addr) (xc : Nat) (xq : List (List Nat)) (yp yn ym yk : Int) (yA : Option Addr) (yc : Nat) (yq : List (List Nat)) (w : World) (hX : Rd w xA xq) (hlx : xq.length ≤ 1048576) (hY : Rd w yA yq) (hly : yq.length ≤ 1048576) (h1 : sqCode xp xn xm xk xq true = 1) :
    Calls Try.prog 16 #[.agg #[.int .i64 xp, .int .i64 xn, .int .i64 xm, .int .i64 xk, .slice xA xq.length xc], .agg #[.int .i64 yp, .int .i64 yn, .int .i64 ym, .int .i64 yk, .slice yA yq.length yc]] w (fun e w' => e = .returned (.tuple #[.int .i64 (ceR xp xn xm xk xq yp yn ym yk yq), .int .i64 (ceCode xp xn xm xk xq yp yn ym yk yq)]) ∧ Below w.heap.size w w') := by
  have hB := Below.refl w.heap.size w
  have Hx := Lib.hid h1
  have Hc : Hid (ceCode xp xn xm xk xq yp yn ym yk yq = 1) := Lib.hid (by unfold ceCode; rw [if_neg (fun h => by rw [sq_one] at h1; rw [h1] at h; exact absurd h.1 (by decide))])
  have Hr : Hid (ceR xp xn xm xk xq yp yn ym yk yq = 0) := Lib.hid (by unfold ceR; rw [Hc.out]; rfl)
  clear h1
  go_enter Try.func16, Try.ntmps16
  go_upto_region 0 with (fail)
  refine wp_region_lit ?_
  refine ls_op rfl (fun K' hK' => ?_)
  have lz1 := hB.size
  refine wp_new (some 2) rfl (exec_box 30 _ rfl (#[.int .i64 xp, .int .i64 xn, .int .i64 xm, .int .i64 xk, .slice xA xq.length xc]) rfl) (fun Wz2 nnz3 => ?_)
  have bz4 := nnz3.below (Below.refl _ _) (Nat.le_refl _)
  replace hB := below_after hB bz4
  have hz5 : At Wz2 w.heap.size (.cells #[.int .i64 xp, .int .i64 xn, .int .i64 xm, .int .i64 xk, .slice xA xq.length xc] 30 (0, 0)) := nnz3.at_
  refine hK' _ _ ?_
  clear hK' K' nnz3 bz4
  go_frame
  refine ls_op rfl (fun K' hK' => ?_)
  have lz6 := hB.size
  have lz7 := hz5.lt
  refine wp_new (some 3) rfl (exec_box 30 _ rfl (#[.int .i64 yp, .int .i64 yn, .int .i64 ym, .int .i64 yk, .slice yA yq.length yc]) rfl) (fun Wz8 nnz9 => ?_)
  have bz10 := nnz9.below (Below.refl _ _) (Nat.le_refl _)
  replace hB := below_after hB bz10
  replace hz5 := hz5.after bz10
  have hz11 : At Wz8 Wz2.heap.size (.cells #[.int .i64 yp, .int .i64 yn, .int .i64 ym, .int .i64 yk, .slice yA yq.length yc] 30 (0, 0)) := nnz9.at_
  refine hK' _ _ ?_
  clear hK' K' nnz9 bz10
  go_frame
  refine ls_ex (some 4) (.int .i64 0) rfl rfl (exec_assign _ rfl (.int .i64 0) rfl) ?_
  go_frame
  refine ls_ex (some 5) (.int .i64 0) rfl rfl (exec_assign _ rfl (.int .i64 0) rfl) ?_
  go_frame
  refine wpList_nil ?_
  go_upto_region 1 with (fail)
  refine wp_region_y (zs := []) (S := fun w' => Below w.heap.size w w' ∧ At w' w.heap.size (.cells #[.int .i64 xp, .int .i64 xn, .int .i64 xm, .int .i64 xk, .slice xA xq.length xc] 30 (0, 0)) ∧ At w' Wz2.heap.size (.cells #[.int .i64 yp, .int .i64 yn, .int .i64 ym, .int .i64 yk, .slice yA yq.length yc] 30 (0, 0))) (S2 := fun w' => True) (by kernel_rfl) ?_
  change wpAnyY _ _ _ _ _ _ _ _ _ _ (World.drew _)
  generalize hwdz12 : World.drew _ = wdz12
  replace hB : Below w.heap.size w wdz12 := by rw [← hwdz12]; exact hB.drew
  replace hz5 : At wdz12 w.heap.size (.cells #[.int .i64 xp, .int .i64 xn, .int .i64 xm, .int .i64 xk, .slice xA xq.length xc] 30 (0, 0)) := by rw [← hwdz12]; exact hz5
  replace hz11 : At wdz12 Wz2.heap.size (.cells #[.int .i64 yp, .int .i64 yn, .int .i64 ym, .int .i64 yk, .slice yA yq.length yc] 30 (0, 0)) := by rw [← hwdz12]; exact hz11
  clear hwdz12
  refine y_yield 0 (some 8) (.agg #[.int .i64 xp, .int .i64 xn, .int .i64 xm, .int .i64 xk, .slice xA xq.length xc]) rfl (by kernel_rfl) (by kernel_rfl) (by kernel_rfl) (fun _ _ _ h => h) rfl rfl ⟨hB, hz5, hz11⟩ (fun w' h' => exec_load_all 30 _ rfl w.heap.size rfl _ _ _ h'.2.1 Try.underlying30 rfl 5 (by kernel_rfl) rfl) ?_
  go_frame
  refine y_yield 2 (some 10) (.agg #[.int .i64 yp, .int .i64 yn, .int .i64 ym, .int .i64 yk, .slice yA yq.length yc]) rfl (by kernel_rfl) (by kernel_rfl) (by kernel_rfl) (fun _ _ _ h => h) rfl rfl ⟨hB, hz5, hz11⟩ (fun w' h' => exec_load_all 30 _ rfl Wz2.heap.size rfl _ _ _ h'.2.2 Try.underlying30 rfl 5 (by kernel_rfl) rfl) ?_
  go_frame
  refine y_oper 1 (by kernel_rfl) rfl rfl (fun K' hK' => ?_)
  have lz15 := hB.size
  have lz16 := hz5.lt
  have lz17 := hz11.lt
  refine wp_call1 (some 9) rfl 29 _ _ rfl (fun args w => by kernel_rfl) _ rfl _ (l06Square_c xp xn xm xk xA xc xq _ (hX.keep hB) hlx) (fun e Wz13 h => ?_)
  obtain ⟨rfl, bz14⟩ := h
  replace hB := below_after hB bz14
  replace hz5 := hz5.after bz14
  replace hz11 := hz11.after bz14
  rw [Hx.out]
  clear bz14
  refine ⟨_, rfl, ?_⟩
  refine hK' _ _ ⟨hB, hz5, hz11⟩ (fun _ => trivial) ?_
  clear hK' K'
  go_frame
  refine y_oper 3 (by kernel_rfl) rfl rfl (fun K' hK' => ?_)
  have lz20 := hB.size
  have lz21 := hz5.lt
  have lz22 := hz11.lt
  refine wp_call1 (some 11) rfl 29 _ _ rfl (fun args w => by kernel_rfl) _ rfl _ (l06Square_c yp yn ym yk yA yc yq _ (hY.keep hB) hly) (fun e Wz18 h => ?_)
  obtain ⟨rfl, bz19⟩ := h
  replace hB := below_after hB bz19
  replace hz5 := hz5.after bz19
  replace hz11 := hz11.after bz19
  clear bz19
  refine ⟨_, rfl, ?_⟩
  refine hK' _ _ ⟨hB, hz5, hz11⟩ (fun _ => trivial) ?_
  clear hK' K'
  go_frame
  refine y_oper 4 (by kernel_rfl) rfl rfl (fun K' hK' => ?_)
  refine wp_exec (some 6) rfl (.int .i64 1) (exec_assign _ rfl (.int .i64 1) rfl) ?_
  refine hK' _ _ ⟨hB, hz5, hz11⟩ (fun _ => trivial) ?_
  clear hK' K'
  go_frame
  refine y_oper 5 (by kernel_rfl) rfl rfl (fun K' hK' => ?_)
  refine wp_exec (some 7) rfl (.int .i64 (sqCode yp yn ym yk yq true)) (exec_assign _ rfl (.int .i64 (sqCode yp yn ym yk yq true)) rfl) ?_
  refine hK' _ _ ⟨hB, hz5, hz11⟩ (fun _ => trivial) ?_
  clear hK' K'
  go_frame
  refine y_done (by kernel_rfl) ?_ _
  go_upto_region 2 with (fail)
  refine wp_region_lit ?_
  refine ls_ex (some 13) (.int .i64 1) rfl rfl (exec_move _ rfl (.int .i64 1) rfl) ?_
  go_frame
  refine ls_ex (some 14) (.bool true) rfl rfl (exec_eql _ _ _ _ rfl 1 1 rfl rfl true rfl) ?_
  go_frame
  refine ls_ex (some 15) (.bool true) rfl rfl (exec_move _ rfl (.bool true) rfl) ?_
  go_frame
  refine ls_skip_g (some 16) rfl rfl ?_
  go_frame
  refine ls_skip_g (some 17) rfl rfl ?_
  go_frame
  refine ls_ex (some 18) (.bool true) rfl rfl (exec_pick _ _ _ rfl true rfl (.bool true) rfl) ?_
  go_frame
  refine ls_ex (some 12) (.bool true) rfl rfl (exec_assign _ rfl (.bool true) rfl) ?_
  go_frame
  refine wpList_nil ?_
  go_upto_region 3 with (fail)
  refine wp_region_lit ?_
  refine ls_ex (some 4) (.int .i64 0) rfl rfl (exec_assign _ rfl (.int .i64 0) rfl) ?_
  go_frame
  refine ls_ex (some 5) (.int .i64 1) rfl rfl (exec_assign _ rfl (.int .i64 1) rfl) ?_
  go_frame
  refine wpList_nil ?_
  go_wp2_with fail
  go_ret2
  exact ⟨by rw [Hr.out, Hc.out]; rfl, hB⟩
set_option maxHeartbeats 4000000 in
theorem specCe_2 (xp xn xm xk : Int) (xA : Option Addr) (xc : Nat) (xq : List (List Nat)) (yp yn ym yk : Int) (yA : Option Addr) (yc : Nat) (yq : List (List Nat)) (w : World) (hX : Rd w xA xq) (hlx : xq.length ≤ 1048576) (hY : Rd w yA yq) (hly : yq.length ≤ 1048576) (hx1 : sqCode xp xn xm xk xq true ≠ 1) (h1 : sqCode yp yn ym yk yq true = 1) :
    Calls Try.prog 16 #[.agg #[.int .i64 xp, .int .i64 xn, .int .i64 xm, .int .i64 xk, .slice xA xq.length xc], .agg #[.int .i64 yp, .int .i64 yn, .int .i64 ym, .int .i64 yk, .slice yA yq.length yc]] w (fun e w' => e = .returned (.tuple #[.int .i64 (ceR xp xn xm xk xq yp yn ym yk yq), .int .i64 (ceCode xp xn xm xk xq yp yn ym yk yq)]) ∧ Below w.heap.size w w') := by
  have hB := Below.refl w.heap.size w
  have Hy := Lib.hid h1
  have Hx1 : Hid ((sqCode xp xn xm xk xq true == 1) = false) := Lib.hid (beq_eq_false_iff_ne.2 hx1)
  have Hc : Hid (ceCode xp xn xm xk xq yp yn ym yk yq = 1) := Lib.hid (by unfold ceCode; rw [if_neg (fun h => by rw [sq_one] at h1; rw [h1] at h; exact absurd h.2 (by decide))])
  have Hr : Hid (ceR xp xn xm xk xq yp yn ym yk yq = 0) := Lib.hid (by unfold ceR; rw [Hc.out]; rfl)
  clear h1 hx1
  go_enter Try.func16, Try.ntmps16
  go_upto_region 0 with (fail)
  refine wp_region_lit ?_
  refine ls_op rfl (fun K' hK' => ?_)
  have lz1 := hB.size
  refine wp_new (some 2) rfl (exec_box 30 _ rfl (#[.int .i64 xp, .int .i64 xn, .int .i64 xm, .int .i64 xk, .slice xA xq.length xc]) rfl) (fun Wz2 nnz3 => ?_)
  have bz4 := nnz3.below (Below.refl _ _) (Nat.le_refl _)
  replace hB := below_after hB bz4
  have hz5 : At Wz2 w.heap.size (.cells #[.int .i64 xp, .int .i64 xn, .int .i64 xm, .int .i64 xk, .slice xA xq.length xc] 30 (0, 0)) := nnz3.at_
  refine hK' _ _ ?_
  clear hK' K' nnz3 bz4
  go_frame
  refine ls_op rfl (fun K' hK' => ?_)
  have lz6 := hB.size
  have lz7 := hz5.lt
  refine wp_new (some 3) rfl (exec_box 30 _ rfl (#[.int .i64 yp, .int .i64 yn, .int .i64 ym, .int .i64 yk, .slice yA yq.length yc]) rfl) (fun Wz8 nnz9 => ?_)
  have bz10 := nnz9.below (Below.refl _ _) (Nat.le_refl _)
  replace hB := below_after hB bz10
  replace hz5 := hz5.after bz10
  have hz11 : At Wz8 Wz2.heap.size (.cells #[.int .i64 yp, .int .i64 yn, .int .i64 ym, .int .i64 yk, .slice yA yq.length yc] 30 (0, 0)) := nnz9.at_
  refine hK' _ _ ?_
  clear hK' K' nnz9 bz10
  go_frame
  refine ls_ex (some 4) (.int .i64 0) rfl rfl (exec_assign _ rfl (.int .i64 0) rfl) ?_
  go_frame
  refine ls_ex (some 5) (.int .i64 0) rfl rfl (exec_assign _ rfl (.int .i64 0) rfl) ?_
  go_frame
  refine wpList_nil ?_
  go_upto_region 1 with (fail)
  refine wp_region_y (zs := []) (S := fun w' => Below w.heap.size w w' ∧ At w' w.heap.size (.cells #[.int .i64 xp, .int .i64 xn, .int .i64 xm, .int .i64 xk, .slice xA xq.length xc] 30 (0, 0)) ∧ At w' Wz2.heap.size (.cells #[.int .i64 yp, .int .i64 yn, .int .i64 ym, .int .i64 yk, .slice yA yq.length yc] 30 (0, 0))) (S2 := fun w' => True) (by kernel_rfl) ?_
  change wpAnyY _ _ _ _ _ _ _ _ _ _ (World.drew _)
  generalize hwdz12 : World.drew _ = wdz12
  replace hB : Below w.heap.size w wdz12 := by rw [← hwdz12]; exact hB.drew
  replace hz5 : At wdz12 w.heap.size (.cells #[.int .i64 xp, .int .i64 xn, .int .i64 xm, .int .i64 xk, .slice xA xq.length xc] 30 (0, 0)) := by rw [← hwdz12]; exact hz5
  replace hz11 : At wdz12 Wz2.heap.size (.cells #[.int .i64 yp, .int .i64 yn, .int .i64 ym, .int .i64 yk, .slice yA yq.length yc] 30 (0, 0)) := by rw [← hwdz12]; exact hz11
  clear hwdz12
  refine y_yield 0 (some 8) (.agg #[.int .i64 xp, .int .i64 xn, .int .i64 xm, .int .i64 xk, .slice xA xq.length xc]) rfl (by kernel_rfl) (by kernel_rfl) (by kernel_rfl) (fun _ _ _ h => h) rfl rfl ⟨hB, hz5, hz11⟩ (fun w' h' => exec_load_all 30 _ rfl w.heap.size rfl _ _ _ h'.2.1 Try.underlying30 rfl 5 (by kernel_rfl) rfl) ?_
  go_frame
  refine y_yield 2 (some 10) (.agg #[.int .i64 yp, .int .i64 yn, .int .i64 ym, .int .i64 yk, .slice yA yq.length yc]) rfl (by kernel_rfl) (by kernel_rfl) (by kernel_rfl) (fun _ _ _ h => h) rfl rfl ⟨hB, hz5, hz11⟩ (fun w' h' => exec_load_all 30 _ rfl Wz2.heap.size rfl _ _ _ h'.2.2 Try.underlying30 rfl 5 (by kernel_rfl) rfl) ?_
  go_frame
  refine y_oper 1 (by kernel_rfl) rfl rfl (fun K' hK' => ?_)
  have lz15 := hB.size
  have lz16 := hz5.lt
  have lz17 := hz11.lt
  refine wp_call1 (some 9) rfl 29 _ _ rfl (fun args w => by kernel_rfl) _ rfl _ (l06Square_c xp xn xm xk xA xc xq _ (hX.keep hB) hlx) (fun e Wz13 h => ?_)
  obtain ⟨rfl, bz14⟩ := h
  replace hB := below_after hB bz14
  replace hz5 := hz5.after bz14
  replace hz11 := hz11.after bz14
  clear bz14
  refine ⟨_, rfl, ?_⟩
  refine hK' _ _ ⟨hB, hz5, hz11⟩ (fun _ => trivial) ?_
  clear hK' K'
  go_frame
  refine y_oper 3 (by kernel_rfl) rfl rfl (fun K' hK' => ?_)
  have lz20 := hB.size
  have lz21 := hz5.lt
  have lz22 := hz11.lt
  refine wp_call1 (some 11) rfl 29 _ _ rfl (fun args w => by kernel_rfl) _ rfl _ (l06Square_c yp yn ym yk yA yc yq _ (hY.keep hB) hly) (fun e Wz18 h => ?_)
  obtain ⟨rfl, bz19⟩ := h
  replace hB := below_after hB bz19
  replace hz5 := hz5.after bz19
  replace hz11 := hz11.after bz19
  rw [Hy.out]
  clear bz19
  refine ⟨_, rfl, ?_⟩
  refine hK' _ _ ⟨hB, hz5, hz11⟩ (fun _ => trivial) ?_
  clear hK' K'
  go_frame
  refine y_oper 4 (by kernel_rfl) rfl rfl (fun K' hK' => ?_)
  refine wp_exec (some 6) rfl (.int .i64 (sqCode xp xn xm xk xq true)) (exec_assign _ rfl (.int .i64 (sqCode xp xn xm xk xq true)) rfl) ?_
  refine hK' _ _ ⟨hB, hz5, hz11⟩ (fun _ => trivial) ?_
  clear hK' K'
  go_frame
  refine y_oper 5 (by kernel_rfl) rfl rfl (fun K' hK' => ?_)
  refine wp_exec (some 7) rfl (.int .i64 1) (exec_assign _ rfl (.int .i64 1) rfl) ?_
  refine hK' _ _ ⟨hB, hz5, hz11⟩ (fun _ => trivial) ?_
  clear hK' K'
  go_frame
  refine y_done (by kernel_rfl) ?_ _
  go_upto_region 2 with (fail)
  refine wp_region_lit ?_
  refine ls_ex (some 13) (.int .i64 (sqCode xp xn xm xk xq true)) rfl rfl (exec_move _ rfl (.int .i64 (sqCode xp xn xm xk xq true)) rfl) ?_
  go_frame
  refine ls_ex (some 14) (.bool false) rfl rfl (exec_eql _ _ _ _ rfl ((sqCode xp xn xm xk xq true)) 1 rfl rfl false Hx1.out) ?_
  go_frame
  refine ls_ex (some 15) (.bool false) rfl rfl (exec_move _ rfl (.bool false) rfl) ?_
  go_frame
  refine ls_ex_g (some 16) (.int .i64 1) rfl rfl (exec_move _ rfl (.int .i64 1) rfl) ?_
  go_frame
  refine ls_ex_g (some 17) (.bool true) rfl rfl (exec_eql _ _ _ _ rfl 1 1 rfl rfl true rfl) ?_
  go_frame
  refine ls_ex (some 18) (.bool true) rfl rfl (exec_pick _ _ _ rfl false rfl (.bool true) rfl) ?_
  go_frame
  refine ls_ex (some 12) (.bool true) rfl rfl (exec_assign _ rfl (.bool true) rfl) ?_
  go_frame
  refine wpList_nil ?_
  go_upto_region 3 with (fail)
  refine wp_region_lit ?_
  refine ls_ex (some 4) (.int .i64 0) rfl rfl (exec_assign _ rfl (.int .i64 0) rfl) ?_
  go_frame
  refine ls_ex (some 5) (.int .i64 1) rfl rfl (exec_assign _ rfl (.int .i64 1) rfl) ?_
  go_frame
  refine wpList_nil ?_
  go_wp2_with fail
  go_ret2
  exact ⟨by rw [Hr.out, Hc.out]; rfl, hB⟩
set_option maxHeartbeats 4000000 in
theorem specCe_3 (xp xn xm xk : Int) (xA : Option Addr) (xc : Nat) (xq : List (List Nat)) (yp yn ym yk : Int) (yA : Option Addr) (yc : Nat) (yq : List (List Nat)) (w : World) (hX : Rd w xA xq) (hlx : xq.length ≤ 1048576) (hY : Rd w yA yq) (hly : yq.length ≤ 1048576) (hx1 : sqCode xp xn xm xk xq true ≠ 1) (hy1 : sqCode yp yn ym yk yq true ≠ 1) (hx0 : sqCode xp xn xm xk xq true ≠ 0) :
    Calls Try.prog 16 #[.agg #[.int .i64 xp, .int .i64 xn, .int .i64 xm, .int .i64 xk, .slice xA xq.length xc], .agg #[.int .i64 yp, .int .i64 yn, .int .i64 ym, .int .i64 yk, .slice yA yq.length yc]] w (fun e w' => e = .returned (.tuple #[.int .i64 (ceR xp xn xm xk xq yp yn ym yk yq), .int .i64 (ceCode xp xn xm xk xq yp yn ym yk yq)]) ∧ Below w.heap.size w w') := by
  have hB := Below.refl w.heap.size w
  have Hx1 : Hid ((sqCode xp xn xm xk xq true == 1) = false) := Lib.hid (beq_eq_false_iff_ne.2 hx1)
  have Hy1 : Hid ((sqCode yp yn ym yk yq true == 1) = false) := Lib.hid (beq_eq_false_iff_ne.2 hy1)
  have Hx0 : Hid ((sqCode xp xn xm xk xq true != 0) = true) := Lib.hid (by simpa using hx0)
  have hx := sq_scheme hx1
  have hy := sq_scheme hy1
  have Hc : Hid (ceCode xp xn xm xk xq yp yn ym yk yq = 2) := Lib.hid (by unfold ceCode; rw [if_pos ⟨hx, hy⟩, show ceB xn xm xk yn ym yk xq yq = false by unfold ceB; rw [sq_two hx hx0]; rfl]; rfl)
  have Hr : Hid (ceR xp xn xm xk xq yp yn ym yk yq = 0) := Lib.hid (by unfold ceR; rw [Hc.out]; rfl)
  clear hx hy hx1 hy1 hx0
  go_enter Try.func16, Try.ntmps16
  go_upto_region 0 with (fail)
  refine wp_region_lit ?_
  refine ls_op rfl (fun K' hK' => ?_)
  have lz1 := hB.size
  refine wp_new (some 2) rfl (exec_box 30 _ rfl (#[.int .i64 xp, .int .i64 xn, .int .i64 xm, .int .i64 xk, .slice xA xq.length xc]) rfl) (fun Wz2 nnz3 => ?_)
  have bz4 := nnz3.below (Below.refl _ _) (Nat.le_refl _)
  replace hB := below_after hB bz4
  have hz5 : At Wz2 w.heap.size (.cells #[.int .i64 xp, .int .i64 xn, .int .i64 xm, .int .i64 xk, .slice xA xq.length xc] 30 (0, 0)) := nnz3.at_
  refine hK' _ _ ?_
  clear hK' K' nnz3 bz4
  go_frame
  refine ls_op rfl (fun K' hK' => ?_)
  have lz6 := hB.size
  have lz7 := hz5.lt
  refine wp_new (some 3) rfl (exec_box 30 _ rfl (#[.int .i64 yp, .int .i64 yn, .int .i64 ym, .int .i64 yk, .slice yA yq.length yc]) rfl) (fun Wz8 nnz9 => ?_)
  have bz10 := nnz9.below (Below.refl _ _) (Nat.le_refl _)
  replace hB := below_after hB bz10
  replace hz5 := hz5.after bz10
  have hz11 : At Wz8 Wz2.heap.size (.cells #[.int .i64 yp, .int .i64 yn, .int .i64 ym, .int .i64 yk, .slice yA yq.length yc] 30 (0, 0)) := nnz9.at_
  refine hK' _ _ ?_
  clear hK' K' nnz9 bz10
  go_frame
  refine ls_ex (some 4) (.int .i64 0) rfl rfl (exec_assign _ rfl (.int .i64 0) rfl) ?_
  go_frame
  refine ls_ex (some 5) (.int .i64 0) rfl rfl (exec_assign _ rfl (.int .i64 0) rfl) ?_
  go_frame
  refine wpList_nil ?_
  go_upto_region 1 with (fail)
  refine wp_region_y (zs := []) (S := fun w' => Below w.heap.size w w' ∧ At w' w.heap.size (.cells #[.int .i64 xp, .int .i64 xn, .int .i64 xm, .int .i64 xk, .slice xA xq.length xc] 30 (0, 0)) ∧ At w' Wz2.heap.size (.cells #[.int .i64 yp, .int .i64 yn, .int .i64 ym, .int .i64 yk, .slice yA yq.length yc] 30 (0, 0))) (S2 := fun w' => True) (by kernel_rfl) ?_
  change wpAnyY _ _ _ _ _ _ _ _ _ _ (World.drew _)
  generalize hwdz12 : World.drew _ = wdz12
  replace hB : Below w.heap.size w wdz12 := by rw [← hwdz12]; exact hB.drew
  replace hz5 : At wdz12 w.heap.size (.cells #[.int .i64 xp, .int .i64 xn, .int .i64 xm, .int .i64 xk, .slice xA xq.length xc] 30 (0, 0)) := by rw [← hwdz12]; exact hz5
  replace hz11 : At wdz12 Wz2.heap.size (.cells #[.int .i64 yp, .int .i64 yn, .int .i64 ym, .int .i64 yk, .slice yA yq.length yc] 30 (0, 0)) := by rw [← hwdz12]; exact hz11
  clear hwdz12
  refine y_yield 0 (some 8) (.agg #[.int .i64 xp, .int .i64 xn, .int .i64 xm, .int .i64 xk, .slice xA xq.length xc]) rfl (by kernel_rfl) (by kernel_rfl) (by kernel_rfl) (fun _ _ _ h => h) rfl rfl ⟨hB, hz5, hz11⟩ (fun w' h' => exec_load_all 30 _ rfl w.heap.size rfl _ _ _ h'.2.1 Try.underlying30 rfl 5 (by kernel_rfl) rfl) ?_
  go_frame
  refine y_yield 2 (some 10) (.agg #[.int .i64 yp, .int .i64 yn, .int .i64 ym, .int .i64 yk, .slice yA yq.length yc]) rfl (by kernel_rfl) (by kernel_rfl) (by kernel_rfl) (fun _ _ _ h => h) rfl rfl ⟨hB, hz5, hz11⟩ (fun w' h' => exec_load_all 30 _ rfl Wz2.heap.size rfl _ _ _ h'.2.2 Try.underlying30 rfl 5 (by kernel_rfl) rfl) ?_
  go_frame
  refine y_oper 1 (by kernel_rfl) rfl rfl (fun K' hK' => ?_)
  have lz15 := hB.size
  have lz16 := hz5.lt
  have lz17 := hz11.lt
  refine wp_call1 (some 9) rfl 29 _ _ rfl (fun args w => by kernel_rfl) _ rfl _ (l06Square_c xp xn xm xk xA xc xq _ (hX.keep hB) hlx) (fun e Wz13 h => ?_)
  obtain ⟨rfl, bz14⟩ := h
  replace hB := below_after hB bz14
  replace hz5 := hz5.after bz14
  replace hz11 := hz11.after bz14
  clear bz14
  refine ⟨_, rfl, ?_⟩
  refine hK' _ _ ⟨hB, hz5, hz11⟩ (fun _ => trivial) ?_
  clear hK' K'
  go_frame
  refine y_oper 3 (by kernel_rfl) rfl rfl (fun K' hK' => ?_)
  have lz20 := hB.size
  have lz21 := hz5.lt
  have lz22 := hz11.lt
  refine wp_call1 (some 11) rfl 29 _ _ rfl (fun args w => by kernel_rfl) _ rfl _ (l06Square_c yp yn ym yk yA yc yq _ (hY.keep hB) hly) (fun e Wz18 h => ?_)
  obtain ⟨rfl, bz19⟩ := h
  replace hB := below_after hB bz19
  replace hz5 := hz5.after bz19
  replace hz11 := hz11.after bz19
  clear bz19
  refine ⟨_, rfl, ?_⟩
  refine hK' _ _ ⟨hB, hz5, hz11⟩ (fun _ => trivial) ?_
  clear hK' K'
  go_frame
  refine y_oper 4 (by kernel_rfl) rfl rfl (fun K' hK' => ?_)
  refine wp_exec (some 6) rfl (.int .i64 (sqCode xp xn xm xk xq true)) (exec_assign _ rfl (.int .i64 (sqCode xp xn xm xk xq true)) rfl) ?_
  refine hK' _ _ ⟨hB, hz5, hz11⟩ (fun _ => trivial) ?_
  clear hK' K'
  go_frame
  refine y_oper 5 (by kernel_rfl) rfl rfl (fun K' hK' => ?_)
  refine wp_exec (some 7) rfl (.int .i64 (sqCode yp yn ym yk yq true)) (exec_assign _ rfl (.int .i64 (sqCode yp yn ym yk yq true)) rfl) ?_
  refine hK' _ _ ⟨hB, hz5, hz11⟩ (fun _ => trivial) ?_
  clear hK' K'
  go_frame
  refine y_done (by kernel_rfl) ?_ _
  go_upto_region 2 with (fail)
  refine wp_region_lit ?_
  refine ls_ex (some 13) (.int .i64 (sqCode xp xn xm xk xq true)) rfl rfl (exec_move _ rfl (.int .i64 (sqCode xp xn xm xk xq true)) rfl) ?_
  go_frame
  refine ls_ex (some 14) (.bool false) rfl rfl (exec_eql _ _ _ _ rfl ((sqCode xp xn xm xk xq true)) 1 rfl rfl false Hx1.out) ?_
  go_frame
  refine ls_ex (some 15) (.bool false) rfl rfl (exec_move _ rfl (.bool false) rfl) ?_
  go_frame
  refine ls_ex_g (some 16) (.int .i64 (sqCode yp yn ym yk yq true)) rfl rfl (exec_move _ rfl (.int .i64 (sqCode yp yn ym yk yq true)) rfl) ?_
  go_frame
  refine ls_ex_g (some 17) (.bool false) rfl rfl (exec_eql _ _ _ _ rfl ((sqCode yp yn ym yk yq true)) 1 rfl rfl false Hy1.out) ?_
  go_frame
  refine ls_ex (some 18) (.bool false) rfl rfl (exec_pick _ _ _ rfl false rfl (.bool false) rfl) ?_
  go_frame
  refine ls_ex (some 12) (.bool false) rfl rfl (exec_assign _ rfl (.bool false) rfl) ?_
  go_frame
  refine wpList_nil ?_
  go_upto_region 4 with (fail)
  refine wp_region_lit ?_
  refine ls_ex (some 20) (.int .i64 (sqCode xp xn xm xk xq true)) rfl rfl (exec_move _ rfl (.int .i64 (sqCode xp xn xm xk xq true)) rfl) ?_
  go_frame
  refine ls_ex (some 21) (.bool true) rfl rfl (exec_neq _ _ _ _ rfl ((sqCode xp xn xm xk xq true)) 0 rfl rfl true Hx0.out) ?_
  go_frame
  refine ls_ex (some 22) (.bool true) rfl rfl (exec_move _ rfl (.bool true) rfl) ?_
  go_frame
  refine ls_skip_g (some 23) rfl rfl ?_
  go_frame
  refine ls_skip_g (some 24) rfl rfl ?_
  go_frame
  refine ls_ex (some 25) (.bool true) rfl rfl (exec_pick _ _ _ rfl true rfl (.bool true) rfl) ?_
  go_frame
  refine ls_ex (some 26) (.bool true) rfl rfl (exec_move _ rfl (.bool true) rfl) ?_
  go_frame
  refine ls_skip_g (some 27) rfl rfl ?_
  go_frame
  refine ls_skip_g (some 28) rfl rfl ?_
  go_frame
  refine ls_skip_g (some 29) rfl rfl ?_
  go_frame
  refine ls_skip_g (some 30) rfl rfl ?_
  go_frame
  refine ls_skip_g (some 31) rfl rfl ?_
  go_frame
  refine ls_ex (some 32) (.bool true) rfl rfl (exec_pick _ _ _ rfl true rfl (.bool true) rfl) ?_
  go_frame
  refine ls_ex (some 33) (.bool true) rfl rfl (exec_move _ rfl (.bool true) rfl) ?_
  go_frame
  refine ls_skip_g (some 34) rfl rfl ?_
  go_frame
  refine ls_skip_g (some 35) rfl rfl ?_
  go_frame
  refine ls_skip_g (some 36) rfl rfl ?_
  go_frame
  refine ls_skip_g (some 37) rfl rfl ?_
  go_frame
  refine ls_ex (some 38) (.bool true) rfl rfl (exec_pick _ _ _ rfl true rfl (.bool true) rfl) ?_
  go_frame
  refine ls_ex (some 39) (.bool true) rfl rfl (exec_move _ rfl (.bool true) rfl) ?_
  go_frame
  refine ls_skip_g (some 40) rfl rfl ?_
  go_frame
  refine ls_skip_g (some 41) rfl rfl ?_
  go_frame
  refine ls_skip_g (some 42) rfl rfl ?_
  go_frame
  refine ls_skip_g (some 43) rfl rfl ?_
  go_frame
  refine ls_ex (some 44) (.bool true) rfl rfl (exec_pick _ _ _ rfl true rfl (.bool true) rfl) ?_
  go_frame
  refine ls_ex (some 19) (.bool true) rfl rfl (exec_assign _ rfl (.bool true) rfl) ?_
  go_frame
  refine wpList_nil ?_
  go_upto_region 5 with (fail)
  refine wp_region_lit ?_
  refine ls_ex (some 4) (.int .i64 0) rfl rfl (exec_assign _ rfl (.int .i64 0) rfl) ?_
  go_frame
  refine ls_ex (some 5) (.int .i64 2) rfl rfl (exec_assign _ rfl (.int .i64 2) rfl) ?_
  go_frame
  refine wpList_nil ?_
  go_wp2_with fail
  go_ret2
  exact ⟨by rw [Hr.out, Hc.out]; rfl, hB⟩
set_option maxHeartbeats 4000000 in
theorem specCe_4 (xp xn xm xk : Int) (xA : Option Addr) (xc : Nat) (xq : List (List Nat)) (yp yn ym yk : Int) (yA : Option Addr) (yc : Nat) (yq : List (List Nat)) (w : World) (hX : Rd w xA xq) (hlx : xq.length ≤ 1048576) (hY : Rd w yA yq) (hly : yq.length ≤ 1048576) (hx0 : sqCode xp xn xm xk xq true = 0) (hy1 : sqCode yp yn ym yk yq true ≠ 1) (hy0 : sqCode yp yn ym yk yq true ≠ 0) :
    Calls Try.prog 16 #[.agg #[.int .i64 xp, .int .i64 xn, .int .i64 xm, .int .i64 xk, .slice xA xq.length xc], .agg #[.int .i64 yp, .int .i64 yn, .int .i64 ym, .int .i64 yk, .slice yA yq.length yc]] w (fun e w' => e = .returned (.tuple #[.int .i64 (ceR xp xn xm xk xq yp yn ym yk yq), .int .i64 (ceCode xp xn xm xk xq yp yn ym yk yq)]) ∧ Below w.heap.size w w') := by
  have hB := Below.refl w.heap.size w
  have Hx := Lib.hid hx0
  have Hy1 : Hid ((sqCode yp yn ym yk yq true == 1) = false) := Lib.hid (beq_eq_false_iff_ne.2 hy1)
  have Hy0 : Hid ((sqCode yp yn ym yk yq true != 0) = true) := Lib.hid (by simpa using hy0)
  have hx := (sq_facts hx0).1
  have hy := sq_scheme hy1
  have Hc : Hid (ceCode xp xn xm xk xq yp yn ym yk yq = 2) := Lib.hid (by unfold ceCode; rw [if_pos ⟨hx, hy⟩, show ceB xn xm xk yn ym yk xq yq = false from ce_sq (sq_two hy hy0)]; rfl)
  have Hr : Hid (ceR xp xn xm xk xq yp yn ym yk yq = 0) := Lib.hid (by unfold ceR; rw [Hc.out]; rfl)
  clear hx hy hy1 hy0 hx0
  go_enter Try.func16, Try.ntmps16
  go_upto_region 0 with (fail)
  refine wp_region_lit ?_
  refine ls_op rfl (fun K' hK' => ?_)
  have lz1 := hB.size
  refine wp_new (some 2) rfl (exec_box 30 _ rfl (#[.int .i64 xp, .int .i64 xn, .int .i64 xm, .int .i64 xk, .slice xA xq.length xc]) rfl) (fun Wz2 nnz3 => ?_)
  have bz4 := nnz3.below (Below.refl _ _) (Nat.le_refl _)
  replace hB := below_after hB bz4
  have hz5 : At Wz2 w.heap.size (.cells #[.int .i64 xp, .int .i64 xn, .int .i64 xm, .int .i64 xk, .slice xA xq.length xc] 30 (0, 0)) := nnz3.at_
  refine hK' _ _ ?_
  clear hK' K' nnz3 bz4
  go_frame
  refine ls_op rfl (fun K' hK' => ?_)
  have lz6 := hB.size
  have lz7 := hz5.lt
  refine wp_new (some 3) rfl (exec_box 30 _ rfl (#[.int .i64 yp, .int .i64 yn, .int .i64 ym, .int .i64 yk, .slice yA yq.length yc]) rfl) (fun Wz8 nnz9 => ?_)
  have bz10 := nnz9.below (Below.refl _ _) (Nat.le_refl _)
  replace hB := below_after hB bz10
  replace hz5 := hz5.after bz10
  have hz11 : At Wz8 Wz2.heap.size (.cells #[.int .i64 yp, .int .i64 yn, .int .i64 ym, .int .i64 yk, .slice yA yq.length yc] 30 (0, 0)) := nnz9.at_
  refine hK' _ _ ?_
  clear hK' K' nnz9 bz10
  go_frame
  refine ls_ex (some 4) (.int .i64 0) rfl rfl (exec_assign _ rfl (.int .i64 0) rfl) ?_
  go_frame
  refine ls_ex (some 5) (.int .i64 0) rfl rfl (exec_assign _ rfl (.int .i64 0) rfl) ?_
  go_frame
  refine wpList_nil ?_
  go_upto_region 1 with (fail)
  refine wp_region_y (zs := []) (S := fun w' => Below w.heap.size w w' ∧ At w' w.heap.size (.cells #[.int .i64 xp, .int .i64 xn, .int .i64 xm, .int .i64 xk, .slice xA xq.length xc] 30 (0, 0)) ∧ At w' Wz2.heap.size (.cells #[.int .i64 yp, .int .i64 yn, .int .i64 ym, .int .i64 yk, .slice yA yq.length yc] 30 (0, 0))) (S2 := fun w' => True) (by kernel_rfl) ?_
  change wpAnyY _ _ _ _ _ _ _ _ _ _ (World.drew _)
  generalize hwdz12 : World.drew _ = wdz12
  replace hB : Below w.heap.size w wdz12 := by rw [← hwdz12]; exact hB.drew
  replace hz5 : At wdz12 w.heap.size (.cells #[.int .i64 xp, .int .i64 xn, .int .i64 xm, .int .i64 xk, .slice xA xq.length xc] 30 (0, 0)) := by rw [← hwdz12]; exact hz5
  replace hz11 : At wdz12 Wz2.heap.size (.cells #[.int .i64 yp, .int .i64 yn, .int .i64 ym, .int .i64 yk, .slice yA yq.length yc] 30 (0, 0)) := by rw [← hwdz12]; exact hz11
  clear hwdz12
  refine y_yield 0 (some 8) (.agg #[.int .i64 xp, .int .i64 xn, .int .i64 xm, .int .i64 xk, .slice xA xq.length xc]) rfl (by kernel_rfl) (by kernel_rfl) (by kernel_rfl) (fun _ _ _ h => h) rfl rfl ⟨hB, hz5, hz11⟩ (fun w' h' => exec_load_all 30 _ rfl w.heap.size rfl _ _ _ h'.2.1 Try.underlying30 rfl 5 (by kernel_rfl) rfl) ?_
  go_frame
  refine y_yield 2 (some 10) (.agg #[.int .i64 yp, .int .i64 yn, .int .i64 ym, .int .i64 yk, .slice yA yq.length yc]) rfl (by kernel_rfl) (by kernel_rfl) (by kernel_rfl) (fun _ _ _ h => h) rfl rfl ⟨hB, hz5, hz11⟩ (fun w' h' => exec_load_all 30 _ rfl Wz2.heap.size rfl _ _ _ h'.2.2 Try.underlying30 rfl 5 (by kernel_rfl) rfl) ?_
  go_frame
  refine y_oper 1 (by kernel_rfl) rfl rfl (fun K' hK' => ?_)
  have lz15 := hB.size
  have lz16 := hz5.lt
  have lz17 := hz11.lt
  refine wp_call1 (some 9) rfl 29 _ _ rfl (fun args w => by kernel_rfl) _ rfl _ (l06Square_c xp xn xm xk xA xc xq _ (hX.keep hB) hlx) (fun e Wz13 h => ?_)
  obtain ⟨rfl, bz14⟩ := h
  replace hB := below_after hB bz14
  replace hz5 := hz5.after bz14
  replace hz11 := hz11.after bz14
  rw [Hx.out]
  clear bz14
  refine ⟨_, rfl, ?_⟩
  refine hK' _ _ ⟨hB, hz5, hz11⟩ (fun _ => trivial) ?_
  clear hK' K'
  go_frame
  refine y_oper 3 (by kernel_rfl) rfl rfl (fun K' hK' => ?_)
  have lz20 := hB.size
  have lz21 := hz5.lt
  have lz22 := hz11.lt
  refine wp_call1 (some 11) rfl 29 _ _ rfl (fun args w => by kernel_rfl) _ rfl _ (l06Square_c yp yn ym yk yA yc yq _ (hY.keep hB) hly) (fun e Wz18 h => ?_)
  obtain ⟨rfl, bz19⟩ := h
  replace hB := below_after hB bz19
  replace hz5 := hz5.after bz19
  replace hz11 := hz11.after bz19
  clear bz19
  refine ⟨_, rfl, ?_⟩
  refine hK' _ _ ⟨hB, hz5, hz11⟩ (fun _ => trivial) ?_
  clear hK' K'
  go_frame
  refine y_oper 4 (by kernel_rfl) rfl rfl (fun K' hK' => ?_)
  refine wp_exec (some 6) rfl (.int .i64 0) (exec_assign _ rfl (.int .i64 0) rfl) ?_
  refine hK' _ _ ⟨hB, hz5, hz11⟩ (fun _ => trivial) ?_
  clear hK' K'
  go_frame
  refine y_oper 5 (by kernel_rfl) rfl rfl (fun K' hK' => ?_)
  refine wp_exec (some 7) rfl (.int .i64 (sqCode yp yn ym yk yq true)) (exec_assign _ rfl (.int .i64 (sqCode yp yn ym yk yq true)) rfl) ?_
  refine hK' _ _ ⟨hB, hz5, hz11⟩ (fun _ => trivial) ?_
  clear hK' K'
  go_frame
  refine y_done (by kernel_rfl) ?_ _
  go_upto_region 2 with (fail)
  refine wp_region_lit ?_
  refine ls_ex (some 13) (.int .i64 0) rfl rfl (exec_move _ rfl (.int .i64 0) rfl) ?_
  go_frame
  refine ls_ex (some 14) (.bool false) rfl rfl (exec_eql _ _ _ _ rfl 0 1 rfl rfl false rfl) ?_
  go_frame
  refine ls_ex (some 15) (.bool false) rfl rfl (exec_move _ rfl (.bool false) rfl) ?_
  go_frame
  refine ls_ex_g (some 16) (.int .i64 (sqCode yp yn ym yk yq true)) rfl rfl (exec_move _ rfl (.int .i64 (sqCode yp yn ym yk yq true)) rfl) ?_
  go_frame
  refine ls_ex_g (some 17) (.bool false) rfl rfl (exec_eql _ _ _ _ rfl ((sqCode yp yn ym yk yq true)) 1 rfl rfl false Hy1.out) ?_
  go_frame
  refine ls_ex (some 18) (.bool false) rfl rfl (exec_pick _ _ _ rfl false rfl (.bool false) rfl) ?_
  go_frame
  refine ls_ex (some 12) (.bool false) rfl rfl (exec_assign _ rfl (.bool false) rfl) ?_
  go_frame
  refine wpList_nil ?_
  go_upto_region 4 with (fail)
  refine wp_region_lit ?_
  refine ls_ex (some 20) (.int .i64 0) rfl rfl (exec_move _ rfl (.int .i64 0) rfl) ?_
  go_frame
  refine ls_ex (some 21) (.bool false) rfl rfl (exec_neq _ _ _ _ rfl 0 0 rfl rfl false rfl) ?_
  go_frame
  refine ls_ex (some 22) (.bool false) rfl rfl (exec_move _ rfl (.bool false) rfl) ?_
  go_frame
  refine ls_ex_g (some 23) (.int .i64 (sqCode yp yn ym yk yq true)) rfl rfl (exec_move _ rfl (.int .i64 (sqCode yp yn ym yk yq true)) rfl) ?_
  go_frame
  refine ls_ex_g (some 24) (.bool true) rfl rfl (exec_neq _ _ _ _ rfl ((sqCode yp yn ym yk yq true)) 0 rfl rfl true Hy0.out) ?_
  go_frame
  refine ls_ex (some 25) (.bool true) rfl rfl (exec_pick _ _ _ rfl false rfl (.bool true) rfl) ?_
  go_frame
  refine ls_ex (some 26) (.bool true) rfl rfl (exec_move _ rfl (.bool true) rfl) ?_
  go_frame
  refine ls_skip_g (some 27) rfl rfl ?_
  go_frame
  refine ls_skip_g (some 28) rfl rfl ?_
  go_frame
  refine ls_skip_g (some 29) rfl rfl ?_
  go_frame
  refine ls_skip_g (some 30) rfl rfl ?_
  go_frame
  refine ls_skip_g (some 31) rfl rfl ?_
  go_frame
  refine ls_ex (some 32) (.bool true) rfl rfl (exec_pick _ _ _ rfl true rfl (.bool true) rfl) ?_
  go_frame
  refine ls_ex (some 33) (.bool true) rfl rfl (exec_move _ rfl (.bool true) rfl) ?_
  go_frame
  refine ls_skip_g (some 34) rfl rfl ?_
  go_frame
  refine ls_skip_g (some 35) rfl rfl ?_
  go_frame
  refine ls_skip_g (some 36) rfl rfl ?_
  go_frame
  refine ls_skip_g (some 37) rfl rfl ?_
  go_frame
  refine ls_ex (some 38) (.bool true) rfl rfl (exec_pick _ _ _ rfl true rfl (.bool true) rfl) ?_
  go_frame
  refine ls_ex (some 39) (.bool true) rfl rfl (exec_move _ rfl (.bool true) rfl) ?_
  go_frame
  refine ls_skip_g (some 40) rfl rfl ?_
  go_frame
  refine ls_skip_g (some 41) rfl rfl ?_
  go_frame
  refine ls_skip_g (some 42) rfl rfl ?_
  go_frame
  refine ls_skip_g (some 43) rfl rfl ?_
  go_frame
  refine ls_ex (some 44) (.bool true) rfl rfl (exec_pick _ _ _ rfl true rfl (.bool true) rfl) ?_
  go_frame
  refine ls_ex (some 19) (.bool true) rfl rfl (exec_assign _ rfl (.bool true) rfl) ?_
  go_frame
  refine wpList_nil ?_
  go_upto_region 5 with (fail)
  refine wp_region_lit ?_
  refine ls_ex (some 4) (.int .i64 0) rfl rfl (exec_assign _ rfl (.int .i64 0) rfl) ?_
  go_frame
  refine ls_ex (some 5) (.int .i64 2) rfl rfl (exec_assign _ rfl (.int .i64 2) rfl) ?_
  go_frame
  refine wpList_nil ?_
  go_wp2_with fail
  go_ret2
  exact ⟨by rw [Hr.out, Hc.out]; rfl, hB⟩
set_option maxHeartbeats 4000000 in
theorem specCe_5 (xp xn xm xk : Int) (xA : Option Addr) (xc : Nat) (xq : List (List Nat)) (yp yn ym yk : Int) (yA : Option Addr) (yc : Nat) (yq : List (List Nat)) (w : World) (hX : Rd w xA xq) (hlx : xq.length ≤ 1048576) (hY : Rd w yA yq) (hly : yq.length ≤ 1048576) (hx0 : sqCode xp xn xm xk xq true = 0) (hy0 : sqCode yp yn ym yk yq true = 0) (he : (xn != yn) = true) :
    Calls Try.prog 16 #[.agg #[.int .i64 xp, .int .i64 xn, .int .i64 xm, .int .i64 xk, .slice xA xq.length xc], .agg #[.int .i64 yp, .int .i64 yn, .int .i64 ym, .int .i64 yk, .slice yA yq.length yc]] w (fun e w' => e = .returned (.tuple #[.int .i64 (ceR xp xn xm xk xq yp yn ym yk yq), .int .i64 (ceCode xp xn xm xk xq yp yn ym yk yq)]) ∧ Below w.heap.size w w') := by
  have hB := Below.refl w.heap.size w
  have Hx := Lib.hid hx0
  have Hy := Lib.hid hy0
  have hx := (sq_facts hx0).1
  have hy := (sq_facts hy0).1
  have He := Lib.hid he
  have Hc : Hid (ceCode xp xn xm xk xq yp yn ym yk yq = 2) := Lib.hid (by unfold ceCode; rw [if_pos ⟨hx, hy⟩, show ceB xn xm xk yn ym yk xq yq = false by unfold ceB; rw [show (xn == yn) = false by simpa using he]; simp]; rfl)
  have Hr : Hid (ceR xp xn xm xk xq yp yn ym yk yq = 0) := Lib.hid (by unfold ceR; rw [Hc.out]; rfl)
  clear hx hy hx0 hy0 he
  go_enter Try.func16, Try.ntmps16
  go_upto_region 0 with (fail)
  refine wp_region_lit ?_
  refine ls_op rfl (fun K' hK' => ?_)
  have lz1 := hB.size
  refine wp_new (some 2) rfl (exec_box 30 _ rfl (#[.int .i64 xp, .int .i64 xn, .int .i64 xm, .int .i64 xk, .slice xA xq.length xc]) rfl) (fun Wz2 nnz3 => ?_)
  have bz4 := nnz3.below (Below.refl _ _) (Nat.le_refl _)
  replace hB := below_after hB bz4
  have hz5 : At Wz2 w.heap.size (.cells #[.int .i64 xp, .int .i64 xn, .int .i64 xm, .int .i64 xk, .slice xA xq.length xc] 30 (0, 0)) := nnz3.at_
  refine hK' _ _ ?_
  clear hK' K' nnz3 bz4
  go_frame
  refine ls_op rfl (fun K' hK' => ?_)
  have lz6 := hB.size
  have lz7 := hz5.lt
  refine wp_new (some 3) rfl (exec_box 30 _ rfl (#[.int .i64 yp, .int .i64 yn, .int .i64 ym, .int .i64 yk, .slice yA yq.length yc]) rfl) (fun Wz8 nnz9 => ?_)
  have bz10 := nnz9.below (Below.refl _ _) (Nat.le_refl _)
  replace hB := below_after hB bz10
  replace hz5 := hz5.after bz10
  have hz11 : At Wz8 Wz2.heap.size (.cells #[.int .i64 yp, .int .i64 yn, .int .i64 ym, .int .i64 yk, .slice yA yq.length yc] 30 (0, 0)) := nnz9.at_
  refine hK' _ _ ?_
  clear hK' K' nnz9 bz10
  go_frame
  refine ls_ex (some 4) (.int .i64 0) rfl rfl (exec_assign _ rfl (.int .i64 0) rfl) ?_
  go_frame
  refine ls_ex (some 5) (.int .i64 0) rfl rfl (exec_assign _ rfl (.int .i64 0) rfl) ?_
  go_frame
  refine wpList_nil ?_
  go_upto_region 1 with (fail)
  refine wp_region_y (zs := []) (S := fun w' => Below w.heap.size w w' ∧ At w' w.heap.size (.cells #[.int .i64 xp, .int .i64 xn, .int .i64 xm, .int .i64 xk, .slice xA xq.length xc] 30 (0, 0)) ∧ At w' Wz2.heap.size (.cells #[.int .i64 yp, .int .i64 yn, .int .i64 ym, .int .i64 yk, .slice yA yq.length yc] 30 (0, 0))) (S2 := fun w' => True) (by kernel_rfl) ?_
  change wpAnyY _ _ _ _ _ _ _ _ _ _ (World.drew _)
  generalize hwdz12 : World.drew _ = wdz12
  replace hB : Below w.heap.size w wdz12 := by rw [← hwdz12]; exact hB.drew
  replace hz5 : At wdz12 w.heap.size (.cells #[.int .i64 xp, .int .i64 xn, .int .i64 xm, .int .i64 xk, .slice xA xq.length xc] 30 (0, 0)) := by rw [← hwdz12]; exact hz5
  replace hz11 : At wdz12 Wz2.heap.size (.cells #[.int .i64 yp, .int .i64 yn, .int .i64 ym, .int .i64 yk, .slice yA yq.length yc] 30 (0, 0)) := by rw [← hwdz12]; exact hz11
  clear hwdz12
  refine y_yield 0 (some 8) (.agg #[.int .i64 xp, .int .i64 xn, .int .i64 xm, .int .i64 xk, .slice xA xq.length xc]) rfl (by kernel_rfl) (by kernel_rfl) (by kernel_rfl) (fun _ _ _ h => h) rfl rfl ⟨hB, hz5, hz11⟩ (fun w' h' => exec_load_all 30 _ rfl w.heap.size rfl _ _ _ h'.2.1 Try.underlying30 rfl 5 (by kernel_rfl) rfl) ?_
  go_frame
  refine y_yield 2 (some 10) (.agg #[.int .i64 yp, .int .i64 yn, .int .i64 ym, .int .i64 yk, .slice yA yq.length yc]) rfl (by kernel_rfl) (by kernel_rfl) (by kernel_rfl) (fun _ _ _ h => h) rfl rfl ⟨hB, hz5, hz11⟩ (fun w' h' => exec_load_all 30 _ rfl Wz2.heap.size rfl _ _ _ h'.2.2 Try.underlying30 rfl 5 (by kernel_rfl) rfl) ?_
  go_frame
  refine y_oper 1 (by kernel_rfl) rfl rfl (fun K' hK' => ?_)
  have lz15 := hB.size
  have lz16 := hz5.lt
  have lz17 := hz11.lt
  refine wp_call1 (some 9) rfl 29 _ _ rfl (fun args w => by kernel_rfl) _ rfl _ (l06Square_c xp xn xm xk xA xc xq _ (hX.keep hB) hlx) (fun e Wz13 h => ?_)
  obtain ⟨rfl, bz14⟩ := h
  replace hB := below_after hB bz14
  replace hz5 := hz5.after bz14
  replace hz11 := hz11.after bz14
  rw [Hx.out]
  clear bz14
  refine ⟨_, rfl, ?_⟩
  refine hK' _ _ ⟨hB, hz5, hz11⟩ (fun _ => trivial) ?_
  clear hK' K'
  go_frame
  refine y_oper 3 (by kernel_rfl) rfl rfl (fun K' hK' => ?_)
  have lz20 := hB.size
  have lz21 := hz5.lt
  have lz22 := hz11.lt
  refine wp_call1 (some 11) rfl 29 _ _ rfl (fun args w => by kernel_rfl) _ rfl _ (l06Square_c yp yn ym yk yA yc yq _ (hY.keep hB) hly) (fun e Wz18 h => ?_)
  obtain ⟨rfl, bz19⟩ := h
  replace hB := below_after hB bz19
  replace hz5 := hz5.after bz19
  replace hz11 := hz11.after bz19
  rw [Hy.out]
  clear bz19
  refine ⟨_, rfl, ?_⟩
  refine hK' _ _ ⟨hB, hz5, hz11⟩ (fun _ => trivial) ?_
  clear hK' K'
  go_frame
  refine y_oper 4 (by kernel_rfl) rfl rfl (fun K' hK' => ?_)
  refine wp_exec (some 6) rfl (.int .i64 0) (exec_assign _ rfl (.int .i64 0) rfl) ?_
  refine hK' _ _ ⟨hB, hz5, hz11⟩ (fun _ => trivial) ?_
  clear hK' K'
  go_frame
  refine y_oper 5 (by kernel_rfl) rfl rfl (fun K' hK' => ?_)
  refine wp_exec (some 7) rfl (.int .i64 0) (exec_assign _ rfl (.int .i64 0) rfl) ?_
  refine hK' _ _ ⟨hB, hz5, hz11⟩ (fun _ => trivial) ?_
  clear hK' K'
  go_frame
  refine y_done (by kernel_rfl) ?_ _
  go_upto_region 2 with (fail)
  refine wp_region_lit ?_
  refine ls_ex (some 13) (.int .i64 0) rfl rfl (exec_move _ rfl (.int .i64 0) rfl) ?_
  go_frame
  refine ls_ex (some 14) (.bool false) rfl rfl (exec_eql _ _ _ _ rfl 0 1 rfl rfl false rfl) ?_
  go_frame
  refine ls_ex (some 15) (.bool false) rfl rfl (exec_move _ rfl (.bool false) rfl) ?_
  go_frame
  refine ls_ex_g (some 16) (.int .i64 0) rfl rfl (exec_move _ rfl (.int .i64 0) rfl) ?_
  go_frame
  refine ls_ex_g (some 17) (.bool false) rfl rfl (exec_eql _ _ _ _ rfl 0 1 rfl rfl false rfl) ?_
  go_frame
  refine ls_ex (some 18) (.bool false) rfl rfl (exec_pick _ _ _ rfl false rfl (.bool false) rfl) ?_
  go_frame
  refine ls_ex (some 12) (.bool false) rfl rfl (exec_assign _ rfl (.bool false) rfl) ?_
  go_frame
  refine wpList_nil ?_
  go_upto_region 4 with (fail)
  refine wp_region_lit ?_
  refine ls_ex (some 20) (.int .i64 0) rfl rfl (exec_move _ rfl (.int .i64 0) rfl) ?_
  go_frame
  refine ls_ex (some 21) (.bool false) rfl rfl (exec_neq _ _ _ _ rfl 0 0 rfl rfl false rfl) ?_
  go_frame
  refine ls_ex (some 22) (.bool false) rfl rfl (exec_move _ rfl (.bool false) rfl) ?_
  go_frame
  refine ls_ex_g (some 23) (.int .i64 0) rfl rfl (exec_move _ rfl (.int .i64 0) rfl) ?_
  go_frame
  refine ls_ex_g (some 24) (.bool false) rfl rfl (exec_neq _ _ _ _ rfl 0 0 rfl rfl false rfl) ?_
  go_frame
  refine ls_ex (some 25) (.bool false) rfl rfl (exec_pick _ _ _ rfl false rfl (.bool false) rfl) ?_
  go_frame
  refine ls_ex (some 26) (.bool false) rfl rfl (exec_move _ rfl (.bool false) rfl) ?_
  go_frame
  refine ls_ex_g (some 27) (.pointer (some ⟨w.heap.size, 1, none⟩)) rfl rfl (exec_fieldAddr 30 _ 1 rfl _ (by kernel_rfl)) ?_
  go_frame
  refine ls_ex_g (some 28) (.int .i64 xn) rfl rfl (exec_load_one 2 _ rfl w.heap.size 1 rfl (.int .i64 xn) _ Try.underlying2 rfl (hz5.at_ 1)) ?_
  go_frame
  refine ls_ex_g (some 29) (.pointer (some ⟨Wz2.heap.size, 1, none⟩)) rfl rfl (exec_fieldAddr 30 _ 1 rfl _ (by kernel_rfl)) ?_
  go_frame
  refine ls_ex_g (some 30) (.int .i64 yn) rfl rfl (exec_load_one 2 _ rfl Wz2.heap.size 1 rfl (.int .i64 yn) _ Try.underlying2 rfl (hz11.at_ 1)) ?_
  go_frame
  refine ls_ex_g (some 31) (.bool true) rfl rfl (exec_neq _ _ _ _ rfl xn yn rfl rfl true He.out) ?_
  go_frame
  refine ls_ex (some 32) (.bool true) rfl rfl (exec_pick _ _ _ rfl false rfl (.bool true) rfl) ?_
  go_frame
  refine ls_ex (some 33) (.bool true) rfl rfl (exec_move _ rfl (.bool true) rfl) ?_
  go_frame
  refine ls_skip_g (some 34) rfl rfl ?_
  go_frame
  refine ls_skip_g (some 35) rfl rfl ?_
  go_frame
  refine ls_skip_g (some 36) rfl rfl ?_
  go_frame
  refine ls_skip_g (some 37) rfl rfl ?_
  go_frame
  refine ls_ex (some 38) (.bool true) rfl rfl (exec_pick _ _ _ rfl true rfl (.bool true) rfl) ?_
  go_frame
  refine ls_ex (some 39) (.bool true) rfl rfl (exec_move _ rfl (.bool true) rfl) ?_
  go_frame
  refine ls_skip_g (some 40) rfl rfl ?_
  go_frame
  refine ls_skip_g (some 41) rfl rfl ?_
  go_frame
  refine ls_skip_g (some 42) rfl rfl ?_
  go_frame
  refine ls_skip_g (some 43) rfl rfl ?_
  go_frame
  refine ls_ex (some 44) (.bool true) rfl rfl (exec_pick _ _ _ rfl true rfl (.bool true) rfl) ?_
  go_frame
  refine ls_ex (some 19) (.bool true) rfl rfl (exec_assign _ rfl (.bool true) rfl) ?_
  go_frame
  refine wpList_nil ?_
  go_upto_region 5 with (fail)
  refine wp_region_lit ?_
  refine ls_ex (some 4) (.int .i64 0) rfl rfl (exec_assign _ rfl (.int .i64 0) rfl) ?_
  go_frame
  refine ls_ex (some 5) (.int .i64 2) rfl rfl (exec_assign _ rfl (.int .i64 2) rfl) ?_
  go_frame
  refine wpList_nil ?_
  go_wp2_with fail
  go_ret2
  exact ⟨by rw [Hr.out, Hc.out]; rfl, hB⟩
set_option maxHeartbeats 4000000 in
theorem specCe_6 (xp xn xm xk : Int) (xA : Option Addr) (xc : Nat) (xq : List (List Nat)) (yp yn ym yk : Int) (yA : Option Addr) (yc : Nat) (yq : List (List Nat)) (w : World) (hX : Rd w xA xq) (hlx : xq.length ≤ 1048576) (hY : Rd w yA yq) (hly : yq.length ≤ 1048576) (hx0 : sqCode xp xn xm xk xq true = 0) (hy0 : sqCode yp yn ym yk yq true = 0) (he : (xn != yn) = false) (hl : xq.length ≤ 0) :
    Calls Try.prog 16 #[.agg #[.int .i64 xp, .int .i64 xn, .int .i64 xm, .int .i64 xk, .slice xA xq.length xc], .agg #[.int .i64 yp, .int .i64 yn, .int .i64 ym, .int .i64 yk, .slice yA yq.length yc]] w (fun e w' => e = .returned (.tuple #[.int .i64 (ceR xp xn xm xk xq yp yn ym yk yq), .int .i64 (ceCode xp xn xm xk xq yp yn ym yk yq)]) ∧ Below w.heap.size w w') := by
  have hB := Below.refl w.heap.size w
  have Hx := Lib.hid hx0
  have Hy := Lib.hid hy0
  have hx := (sq_facts hx0).1
  have hy := (sq_facts hy0).1
  have He := Lib.hid he
  have Hl : Hid (((xq.length : Int) == 0) = true) := Lib.hid (beq_iff_eq.2 (by omega))
  have Hc : Hid (ceCode xp xn xm xk xq yp yn ym yk yq = 2) := Lib.hid (by unfold ceCode; rw [if_pos ⟨hx, hy⟩, show ceB xn xm xk yn ym yk xq yq = false by unfold ceB; rw [decide_eq_false (show ¬ 0 < xq.length by omega)]; simp]; rfl)
  have Hr : Hid (ceR xp xn xm xk xq yp yn ym yk yq = 0) := Lib.hid (by unfold ceR; rw [Hc.out]; rfl)
  clear hx hy hx0 hy0 he
  go_enter Try.func16, Try.ntmps16
  go_upto_region 0 with (fail)
  refine wp_region_lit ?_
  refine ls_op rfl (fun K' hK' => ?_)
  have lz1 := hB.size
  refine wp_new (some 2) rfl (exec_box 30 _ rfl (#[.int .i64 xp, .int .i64 xn, .int .i64 xm, .int .i64 xk, .slice xA xq.length xc]) rfl) (fun Wz2 nnz3 => ?_)
  have bz4 := nnz3.below (Below.refl _ _) (Nat.le_refl _)
  replace hB := below_after hB bz4
  have hz5 : At Wz2 w.heap.size (.cells #[.int .i64 xp, .int .i64 xn, .int .i64 xm, .int .i64 xk, .slice xA xq.length xc] 30 (0, 0)) := nnz3.at_
  refine hK' _ _ ?_
  clear hK' K' nnz3 bz4
  go_frame
  refine ls_op rfl (fun K' hK' => ?_)
  have lz6 := hB.size
  have lz7 := hz5.lt
  refine wp_new (some 3) rfl (exec_box 30 _ rfl (#[.int .i64 yp, .int .i64 yn, .int .i64 ym, .int .i64 yk, .slice yA yq.length yc]) rfl) (fun Wz8 nnz9 => ?_)
  have bz10 := nnz9.below (Below.refl _ _) (Nat.le_refl _)
  replace hB := below_after hB bz10
  replace hz5 := hz5.after bz10
  have hz11 : At Wz8 Wz2.heap.size (.cells #[.int .i64 yp, .int .i64 yn, .int .i64 ym, .int .i64 yk, .slice yA yq.length yc] 30 (0, 0)) := nnz9.at_
  refine hK' _ _ ?_
  clear hK' K' nnz9 bz10
  go_frame
  refine ls_ex (some 4) (.int .i64 0) rfl rfl (exec_assign _ rfl (.int .i64 0) rfl) ?_
  go_frame
  refine ls_ex (some 5) (.int .i64 0) rfl rfl (exec_assign _ rfl (.int .i64 0) rfl) ?_
  go_frame
  refine wpList_nil ?_
  go_upto_region 1 with (fail)
  refine wp_region_y (zs := []) (S := fun w' => Below w.heap.size w w' ∧ At w' w.heap.size (.cells #[.int .i64 xp, .int .i64 xn, .int .i64 xm, .int .i64 xk, .slice xA xq.length xc] 30 (0, 0)) ∧ At w' Wz2.heap.size (.cells #[.int .i64 yp, .int .i64 yn, .int .i64 ym, .int .i64 yk, .slice yA yq.length yc] 30 (0, 0))) (S2 := fun w' => True) (by kernel_rfl) ?_
  change wpAnyY _ _ _ _ _ _ _ _ _ _ (World.drew _)
  generalize hwdz12 : World.drew _ = wdz12
  replace hB : Below w.heap.size w wdz12 := by rw [← hwdz12]; exact hB.drew
  replace hz5 : At wdz12 w.heap.size (.cells #[.int .i64 xp, .int .i64 xn, .int .i64 xm, .int .i64 xk, .slice xA xq.length xc] 30 (0, 0)) := by rw [← hwdz12]; exact hz5
  replace hz11 : At wdz12 Wz2.heap.size (.cells #[.int .i64 yp, .int .i64 yn, .int .i64 ym, .int .i64 yk, .slice yA yq.length yc] 30 (0, 0)) := by rw [← hwdz12]; exact hz11
  clear hwdz12
  refine y_yield 0 (some 8) (.agg #[.int .i64 xp, .int .i64 xn, .int .i64 xm, .int .i64 xk, .slice xA xq.length xc]) rfl (by kernel_rfl) (by kernel_rfl) (by kernel_rfl) (fun _ _ _ h => h) rfl rfl ⟨hB, hz5, hz11⟩ (fun w' h' => exec_load_all 30 _ rfl w.heap.size rfl _ _ _ h'.2.1 Try.underlying30 rfl 5 (by kernel_rfl) rfl) ?_
  go_frame
  refine y_yield 2 (some 10) (.agg #[.int .i64 yp, .int .i64 yn, .int .i64 ym, .int .i64 yk, .slice yA yq.length yc]) rfl (by kernel_rfl) (by kernel_rfl) (by kernel_rfl) (fun _ _ _ h => h) rfl rfl ⟨hB, hz5, hz11⟩ (fun w' h' => exec_load_all 30 _ rfl Wz2.heap.size rfl _ _ _ h'.2.2 Try.underlying30 rfl 5 (by kernel_rfl) rfl) ?_
  go_frame
  refine y_oper 1 (by kernel_rfl) rfl rfl (fun K' hK' => ?_)
  have lz15 := hB.size
  have lz16 := hz5.lt
  have lz17 := hz11.lt
  refine wp_call1 (some 9) rfl 29 _ _ rfl (fun args w => by kernel_rfl) _ rfl _ (l06Square_c xp xn xm xk xA xc xq _ (hX.keep hB) hlx) (fun e Wz13 h => ?_)
  obtain ⟨rfl, bz14⟩ := h
  replace hB := below_after hB bz14
  replace hz5 := hz5.after bz14
  replace hz11 := hz11.after bz14
  rw [Hx.out]
  clear bz14
  refine ⟨_, rfl, ?_⟩
  refine hK' _ _ ⟨hB, hz5, hz11⟩ (fun _ => trivial) ?_
  clear hK' K'
  go_frame
  refine y_oper 3 (by kernel_rfl) rfl rfl (fun K' hK' => ?_)
  have lz20 := hB.size
  have lz21 := hz5.lt
  have lz22 := hz11.lt
  refine wp_call1 (some 11) rfl 29 _ _ rfl (fun args w => by kernel_rfl) _ rfl _ (l06Square_c yp yn ym yk yA yc yq _ (hY.keep hB) hly) (fun e Wz18 h => ?_)
  obtain ⟨rfl, bz19⟩ := h
  replace hB := below_after hB bz19
  replace hz5 := hz5.after bz19
  replace hz11 := hz11.after bz19
  rw [Hy.out]
  clear bz19
  refine ⟨_, rfl, ?_⟩
  refine hK' _ _ ⟨hB, hz5, hz11⟩ (fun _ => trivial) ?_
  clear hK' K'
  go_frame
  refine y_oper 4 (by kernel_rfl) rfl rfl (fun K' hK' => ?_)
  refine wp_exec (some 6) rfl (.int .i64 0) (exec_assign _ rfl (.int .i64 0) rfl) ?_
  refine hK' _ _ ⟨hB, hz5, hz11⟩ (fun _ => trivial) ?_
  clear hK' K'
  go_frame
  refine y_oper 5 (by kernel_rfl) rfl rfl (fun K' hK' => ?_)
  refine wp_exec (some 7) rfl (.int .i64 0) (exec_assign _ rfl (.int .i64 0) rfl) ?_
  refine hK' _ _ ⟨hB, hz5, hz11⟩ (fun _ => trivial) ?_
  clear hK' K'
  go_frame
  refine y_done (by kernel_rfl) ?_ _
  go_upto_region 2 with (fail)
  refine wp_region_lit ?_
  refine ls_ex (some 13) (.int .i64 0) rfl rfl (exec_move _ rfl (.int .i64 0) rfl) ?_
  go_frame
  refine ls_ex (some 14) (.bool false) rfl rfl (exec_eql _ _ _ _ rfl 0 1 rfl rfl false rfl) ?_
  go_frame
  refine ls_ex (some 15) (.bool false) rfl rfl (exec_move _ rfl (.bool false) rfl) ?_
  go_frame
  refine ls_ex_g (some 16) (.int .i64 0) rfl rfl (exec_move _ rfl (.int .i64 0) rfl) ?_
  go_frame
  refine ls_ex_g (some 17) (.bool false) rfl rfl (exec_eql _ _ _ _ rfl 0 1 rfl rfl false rfl) ?_
  go_frame
  refine ls_ex (some 18) (.bool false) rfl rfl (exec_pick _ _ _ rfl false rfl (.bool false) rfl) ?_
  go_frame
  refine ls_ex (some 12) (.bool false) rfl rfl (exec_assign _ rfl (.bool false) rfl) ?_
  go_frame
  refine wpList_nil ?_
  go_upto_region 4 with (fail)
  refine wp_region_lit ?_
  refine ls_ex (some 20) (.int .i64 0) rfl rfl (exec_move _ rfl (.int .i64 0) rfl) ?_
  go_frame
  refine ls_ex (some 21) (.bool false) rfl rfl (exec_neq _ _ _ _ rfl 0 0 rfl rfl false rfl) ?_
  go_frame
  refine ls_ex (some 22) (.bool false) rfl rfl (exec_move _ rfl (.bool false) rfl) ?_
  go_frame
  refine ls_ex_g (some 23) (.int .i64 0) rfl rfl (exec_move _ rfl (.int .i64 0) rfl) ?_
  go_frame
  refine ls_ex_g (some 24) (.bool false) rfl rfl (exec_neq _ _ _ _ rfl 0 0 rfl rfl false rfl) ?_
  go_frame
  refine ls_ex (some 25) (.bool false) rfl rfl (exec_pick _ _ _ rfl false rfl (.bool false) rfl) ?_
  go_frame
  refine ls_ex (some 26) (.bool false) rfl rfl (exec_move _ rfl (.bool false) rfl) ?_
  go_frame
  refine ls_ex_g (some 27) (.pointer (some ⟨w.heap.size, 1, none⟩)) rfl rfl (exec_fieldAddr 30 _ 1 rfl _ (by kernel_rfl)) ?_
  go_frame
  refine ls_ex_g (some 28) (.int .i64 xn) rfl rfl (exec_load_one 2 _ rfl w.heap.size 1 rfl (.int .i64 xn) _ Try.underlying2 rfl (hz5.at_ 1)) ?_
  go_frame
  refine ls_ex_g (some 29) (.pointer (some ⟨Wz2.heap.size, 1, none⟩)) rfl rfl (exec_fieldAddr 30 _ 1 rfl _ (by kernel_rfl)) ?_
  go_frame
  refine ls_ex_g (some 30) (.int .i64 yn) rfl rfl (exec_load_one 2 _ rfl Wz2.heap.size 1 rfl (.int .i64 yn) _ Try.underlying2 rfl (hz11.at_ 1)) ?_
  go_frame
  refine ls_ex_g (some 31) (.bool false) rfl rfl (exec_neq _ _ _ _ rfl xn yn rfl rfl false He.out) ?_
  go_frame
  refine ls_ex (some 32) (.bool false) rfl rfl (exec_pick _ _ _ rfl false rfl (.bool false) rfl) ?_
  go_frame
  refine ls_ex (some 33) (.bool false) rfl rfl (exec_move _ rfl (.bool false) rfl) ?_
  go_frame
  refine ls_ex_g (some 34) (.pointer (some ⟨w.heap.size, 4, none⟩)) rfl rfl (exec_fieldAddr 30 _ 4 rfl _ (by kernel_rfl)) ?_
  go_frame
  refine ls_ex_g (some 35) (.slice xA xq.length xc) rfl rfl (exec_load_one 28 _ rfl w.heap.size 4 rfl (.slice xA xq.length xc) _ Try.underlying28 rfl (hz5.at_ 4)) ?_
  go_frame
  refine ls_ex_g (some 36) (.int .i64 xq.length) rfl rfl (exec_len _ 28 68 rfl xA xq.length xc rfl Try.underlying28) ?_
  go_frame
  refine ls_ex_g (some 37) (.bool true) rfl rfl (exec_eql _ _ _ _ rfl xq.length 0 rfl rfl true Hl.out) ?_
  go_frame
  refine ls_ex (some 38) (.bool true) rfl rfl (exec_pick _ _ _ rfl false rfl (.bool true) rfl) ?_
  go_frame
  refine ls_ex (some 39) (.bool true) rfl rfl (exec_move _ rfl (.bool true) rfl) ?_
  go_frame
  refine ls_skip_g (some 40) rfl rfl ?_
  go_frame
  refine ls_skip_g (some 41) rfl rfl ?_
  go_frame
  refine ls_skip_g (some 42) rfl rfl ?_
  go_frame
  refine ls_skip_g (some 43) rfl rfl ?_
  go_frame
  refine ls_ex (some 44) (.bool true) rfl rfl (exec_pick _ _ _ rfl true rfl (.bool true) rfl) ?_
  go_frame
  refine ls_ex (some 19) (.bool true) rfl rfl (exec_assign _ rfl (.bool true) rfl) ?_
  go_frame
  refine wpList_nil ?_
  go_upto_region 5 with (fail)
  refine wp_region_lit ?_
  refine ls_ex (some 4) (.int .i64 0) rfl rfl (exec_assign _ rfl (.int .i64 0) rfl) ?_
  go_frame
  refine ls_ex (some 5) (.int .i64 2) rfl rfl (exec_assign _ rfl (.int .i64 2) rfl) ?_
  go_frame
  refine wpList_nil ?_
  go_wp2_with fail
  go_ret2
  exact ⟨by rw [Hr.out, Hc.out]; rfl, hB⟩
set_option maxHeartbeats 4000000 in
theorem specCe_7 (xp xn xm xk : Int) (xA : Option Addr) (xc : Nat) (xq : List (List Nat)) (yp yn ym yk : Int) (yA : Option Addr) (yc : Nat) (yq : List (List Nat)) (w : World) (hX : Rd w xA xq) (hlx : xq.length ≤ 1048576) (hY : Rd w yA yq) (hly : yq.length ≤ 1048576) (hx0 : sqCode xp xn xm xk xq true = 0) (hy0 : sqCode yp yn ym yk yq true = 0) (he : (xn != yn) = false) (hl : 0 < xq.length) (hm : yq.length ≤ 0) :
    Calls Try.prog 16 #[.agg #[.int .i64 xp, .int .i64 xn, .int .i64 xm, .int .i64 xk, .slice xA xq.length xc], .agg #[.int .i64 yp, .int .i64 yn, .int .i64 ym, .int .i64 yk, .slice yA yq.length yc]] w (fun e w' => e = .returned (.tuple #[.int .i64 (ceR xp xn xm xk xq yp yn ym yk yq), .int .i64 (ceCode xp xn xm xk xq yp yn ym yk yq)]) ∧ Below w.heap.size w w') := by
  have hB := Below.refl w.heap.size w
  have Hx := Lib.hid hx0
  have Hy := Lib.hid hy0
  have hx := (sq_facts hx0).1
  have hy := (sq_facts hy0).1
  have He := Lib.hid he
  have Hl : Hid (((xq.length : Int) == 0) = false) := Lib.hid (beq_eq_false_iff_ne.2 (by omega))
  have Hm : Hid (((yq.length : Int) == 0) = true) := Lib.hid (beq_iff_eq.2 (by omega))
  have Hc : Hid (ceCode xp xn xm xk xq yp yn ym yk yq = 2) := Lib.hid (by unfold ceCode; rw [if_pos ⟨hx, hy⟩, show ceB xn xm xk yn ym yk xq yq = false by unfold ceB; rw [decide_eq_false (show ¬ 0 < yq.length by omega)]; simp]; rfl)
  have Hr : Hid (ceR xp xn xm xk xq yp yn ym yk yq = 0) := Lib.hid (by unfold ceR; rw [Hc.out]; rfl)
  clear hx hy hx0 hy0 he
  go_enter Try.func16, Try.ntmps16
  go_upto_region 0 with (fail)
  refine wp_region_lit ?_
  refine ls_op rfl (fun K' hK' => ?_)
  have lz1 := hB.size
  refine wp_new (some 2) rfl (exec_box 30 _ rfl (#[.int .i64 xp, .int .i64 xn, .int .i64 xm, .int .i64 xk, .slice xA xq.length xc]) rfl) (fun Wz2 nnz3 => ?_)
  have bz4 := nnz3.below (Below.refl _ _) (Nat.le_refl _)
  replace hB := below_after hB bz4
  have hz5 : At Wz2 w.heap.size (.cells #[.int .i64 xp, .int .i64 xn, .int .i64 xm, .int .i64 xk, .slice xA xq.length xc] 30 (0, 0)) := nnz3.at_
  refine hK' _ _ ?_
  clear hK' K' nnz3 bz4
  go_frame
  refine ls_op rfl (fun K' hK' => ?_)
  have lz6 := hB.size
  have lz7 := hz5.lt
  refine wp_new (some 3) rfl (exec_box 30 _ rfl (#[.int .i64 yp, .int .i64 yn, .int .i64 ym, .int .i64 yk, .slice yA yq.length yc]) rfl) (fun Wz8 nnz9 => ?_)
  have bz10 := nnz9.below (Below.refl _ _) (Nat.le_refl _)
  replace hB := below_after hB bz10
  replace hz5 := hz5.after bz10
  have hz11 : At Wz8 Wz2.heap.size (.cells #[.int .i64 yp, .int .i64 yn, .int .i64 ym, .int .i64 yk, .slice yA yq.length yc] 30 (0, 0)) := nnz9.at_
  refine hK' _ _ ?_
  clear hK' K' nnz9 bz10
  go_frame
  refine ls_ex (some 4) (.int .i64 0) rfl rfl (exec_assign _ rfl (.int .i64 0) rfl) ?_
  go_frame
  refine ls_ex (some 5) (.int .i64 0) rfl rfl (exec_assign _ rfl (.int .i64 0) rfl) ?_
  go_frame
  refine wpList_nil ?_
  go_upto_region 1 with (fail)
  refine wp_region_y (zs := []) (S := fun w' => Below w.heap.size w w' ∧ At w' w.heap.size (.cells #[.int .i64 xp, .int .i64 xn, .int .i64 xm, .int .i64 xk, .slice xA xq.length xc] 30 (0, 0)) ∧ At w' Wz2.heap.size (.cells #[.int .i64 yp, .int .i64 yn, .int .i64 ym, .int .i64 yk, .slice yA yq.length yc] 30 (0, 0))) (S2 := fun w' => True) (by kernel_rfl) ?_
  change wpAnyY _ _ _ _ _ _ _ _ _ _ (World.drew _)
  generalize hwdz12 : World.drew _ = wdz12
  replace hB : Below w.heap.size w wdz12 := by rw [← hwdz12]; exact hB.drew
  replace hz5 : At wdz12 w.heap.size (.cells #[.int .i64 xp, .int .i64 xn, .int .i64 xm, .int .i64 xk, .slice xA xq.length xc] 30 (0, 0)) := by rw [← hwdz12]; exact hz5
  replace hz11 : At wdz12 Wz2.heap.size (.cells #[.int .i64 yp, .int .i64 yn, .int .i64 ym, .int .i64 yk, .slice yA yq.length yc] 30 (0, 0)) := by rw [← hwdz12]; exact hz11
  clear hwdz12
  refine y_yield 0 (some 8) (.agg #[.int .i64 xp, .int .i64 xn, .int .i64 xm, .int .i64 xk, .slice xA xq.length xc]) rfl (by kernel_rfl) (by kernel_rfl) (by kernel_rfl) (fun _ _ _ h => h) rfl rfl ⟨hB, hz5, hz11⟩ (fun w' h' => exec_load_all 30 _ rfl w.heap.size rfl _ _ _ h'.2.1 Try.underlying30 rfl 5 (by kernel_rfl) rfl) ?_
  go_frame
  refine y_yield 2 (some 10) (.agg #[.int .i64 yp, .int .i64 yn, .int .i64 ym, .int .i64 yk, .slice yA yq.length yc]) rfl (by kernel_rfl) (by kernel_rfl) (by kernel_rfl) (fun _ _ _ h => h) rfl rfl ⟨hB, hz5, hz11⟩ (fun w' h' => exec_load_all 30 _ rfl Wz2.heap.size rfl _ _ _ h'.2.2 Try.underlying30 rfl 5 (by kernel_rfl) rfl) ?_
  go_frame
  refine y_oper 1 (by kernel_rfl) rfl rfl (fun K' hK' => ?_)
  have lz15 := hB.size
  have lz16 := hz5.lt
  have lz17 := hz11.lt
  refine wp_call1 (some 9) rfl 29 _ _ rfl (fun args w => by kernel_rfl) _ rfl _ (l06Square_c xp xn xm xk xA xc xq _ (hX.keep hB) hlx) (fun e Wz13 h => ?_)
  obtain ⟨rfl, bz14⟩ := h
  replace hB := below_after hB bz14
  replace hz5 := hz5.after bz14
  replace hz11 := hz11.after bz14
  rw [Hx.out]
  clear bz14
  refine ⟨_, rfl, ?_⟩
  refine hK' _ _ ⟨hB, hz5, hz11⟩ (fun _ => trivial) ?_
  clear hK' K'
  go_frame
  refine y_oper 3 (by kernel_rfl) rfl rfl (fun K' hK' => ?_)
  have lz20 := hB.size
  have lz21 := hz5.lt
  have lz22 := hz11.lt
  refine wp_call1 (some 11) rfl 29 _ _ rfl (fun args w => by kernel_rfl) _ rfl _ (l06Square_c yp yn ym yk yA yc yq _ (hY.keep hB) hly) (fun e Wz18 h => ?_)
  obtain ⟨rfl, bz19⟩ := h
  replace hB := below_after hB bz19
  replace hz5 := hz5.after bz19
  replace hz11 := hz11.after bz19
  rw [Hy.out]
  clear bz19
  refine ⟨_, rfl, ?_⟩
  refine hK' _ _ ⟨hB, hz5, hz11⟩ (fun _ => trivial) ?_
  clear hK' K'
  go_frame
  refine y_oper 4 (by kernel_rfl) rfl rfl (fun K' hK' => ?_)
  refine wp_exec (some 6) rfl (.int .i64 0) (exec_assign _ rfl (.int .i64 0) rfl) ?_
  refine hK' _ _ ⟨hB, hz5, hz11⟩ (fun _ => trivial) ?_
  clear hK' K'
  go_frame
  refine y_oper 5 (by kernel_rfl) rfl rfl (fun K' hK' => ?_)
  refine wp_exec (some 7) rfl (.int .i64 0) (exec_assign _ rfl (.int .i64 0) rfl) ?_
  refine hK' _ _ ⟨hB, hz5, hz11⟩ (fun _ => trivial) ?_
  clear hK' K'
  go_frame
  refine y_done (by kernel_rfl) ?_ _
  go_upto_region 2 with (fail)
  refine wp_region_lit ?_
  refine ls_ex (some 13) (.int .i64 0) rfl rfl (exec_move _ rfl (.int .i64 0) rfl) ?_
  go_frame
  refine ls_ex (some 14) (.bool false) rfl rfl (exec_eql _ _ _ _ rfl 0 1 rfl rfl false rfl) ?_
  go_frame
  refine ls_ex (some 15) (.bool false) rfl rfl (exec_move _ rfl (.bool false) rfl) ?_
  go_frame
  refine ls_ex_g (some 16) (.int .i64 0) rfl rfl (exec_move _ rfl (.int .i64 0) rfl) ?_
  go_frame
  refine ls_ex_g (some 17) (.bool false) rfl rfl (exec_eql _ _ _ _ rfl 0 1 rfl rfl false rfl) ?_
  go_frame
  refine ls_ex (some 18) (.bool false) rfl rfl (exec_pick _ _ _ rfl false rfl (.bool false) rfl) ?_
  go_frame
  refine ls_ex (some 12) (.bool false) rfl rfl (exec_assign _ rfl (.bool false) rfl) ?_
  go_frame
  refine wpList_nil ?_
  go_upto_region 4 with (fail)
  refine wp_region_lit ?_
  refine ls_ex (some 20) (.int .i64 0) rfl rfl (exec_move _ rfl (.int .i64 0) rfl) ?_
  go_frame
  refine ls_ex (some 21) (.bool false) rfl rfl (exec_neq _ _ _ _ rfl 0 0 rfl rfl false rfl) ?_
  go_frame
  refine ls_ex (some 22) (.bool false) rfl rfl (exec_move _ rfl (.bool false) rfl) ?_
  go_frame
  refine ls_ex_g (some 23) (.int .i64 0) rfl rfl (exec_move _ rfl (.int .i64 0) rfl) ?_
  go_frame
  refine ls_ex_g (some 24) (.bool false) rfl rfl (exec_neq _ _ _ _ rfl 0 0 rfl rfl false rfl) ?_
  go_frame
  refine ls_ex (some 25) (.bool false) rfl rfl (exec_pick _ _ _ rfl false rfl (.bool false) rfl) ?_
  go_frame
  refine ls_ex (some 26) (.bool false) rfl rfl (exec_move _ rfl (.bool false) rfl) ?_
  go_frame
  refine ls_ex_g (some 27) (.pointer (some ⟨w.heap.size, 1, none⟩)) rfl rfl (exec_fieldAddr 30 _ 1 rfl _ (by kernel_rfl)) ?_
  go_frame
  refine ls_ex_g (some 28) (.int .i64 xn) rfl rfl (exec_load_one 2 _ rfl w.heap.size 1 rfl (.int .i64 xn) _ Try.underlying2 rfl (hz5.at_ 1)) ?_
  go_frame
  refine ls_ex_g (some 29) (.pointer (some ⟨Wz2.heap.size, 1, none⟩)) rfl rfl (exec_fieldAddr 30 _ 1 rfl _ (by kernel_rfl)) ?_
  go_frame
  refine ls_ex_g (some 30) (.int .i64 yn) rfl rfl (exec_load_one 2 _ rfl Wz2.heap.size 1 rfl (.int .i64 yn) _ Try.underlying2 rfl (hz11.at_ 1)) ?_
  go_frame
  refine ls_ex_g (some 31) (.bool false) rfl rfl (exec_neq _ _ _ _ rfl xn yn rfl rfl false He.out) ?_
  go_frame
  refine ls_ex (some 32) (.bool false) rfl rfl (exec_pick _ _ _ rfl false rfl (.bool false) rfl) ?_
  go_frame
  refine ls_ex (some 33) (.bool false) rfl rfl (exec_move _ rfl (.bool false) rfl) ?_
  go_frame
  refine ls_ex_g (some 34) (.pointer (some ⟨w.heap.size, 4, none⟩)) rfl rfl (exec_fieldAddr 30 _ 4 rfl _ (by kernel_rfl)) ?_
  go_frame
  refine ls_ex_g (some 35) (.slice xA xq.length xc) rfl rfl (exec_load_one 28 _ rfl w.heap.size 4 rfl (.slice xA xq.length xc) _ Try.underlying28 rfl (hz5.at_ 4)) ?_
  go_frame
  refine ls_ex_g (some 36) (.int .i64 xq.length) rfl rfl (exec_len _ 28 68 rfl xA xq.length xc rfl Try.underlying28) ?_
  go_frame
  refine ls_ex_g (some 37) (.bool false) rfl rfl (exec_eql _ _ _ _ rfl xq.length 0 rfl rfl false Hl.out) ?_
  go_frame
  refine ls_ex (some 38) (.bool false) rfl rfl (exec_pick _ _ _ rfl false rfl (.bool false) rfl) ?_
  go_frame
  refine ls_ex (some 39) (.bool false) rfl rfl (exec_move _ rfl (.bool false) rfl) ?_
  go_frame
  refine ls_ex_g (some 40) (.pointer (some ⟨Wz2.heap.size, 4, none⟩)) rfl rfl (exec_fieldAddr 30 _ 4 rfl _ (by kernel_rfl)) ?_
  go_frame
  refine ls_ex_g (some 41) (.slice yA yq.length yc) rfl rfl (exec_load_one 28 _ rfl Wz2.heap.size 4 rfl (.slice yA yq.length yc) _ Try.underlying28 rfl (hz11.at_ 4)) ?_
  go_frame
  refine ls_ex_g (some 42) (.int .i64 yq.length) rfl rfl (exec_len _ 28 68 rfl yA yq.length yc rfl Try.underlying28) ?_
  go_frame
  refine ls_ex_g (some 43) (.bool true) rfl rfl (exec_eql _ _ _ _ rfl yq.length 0 rfl rfl true Hm.out) ?_
  go_frame
  refine ls_ex (some 44) (.bool true) rfl rfl (exec_pick _ _ _ rfl false rfl (.bool true) rfl) ?_
  go_frame
  refine ls_ex (some 19) (.bool true) rfl rfl (exec_assign _ rfl (.bool true) rfl) ?_
  go_frame
  refine wpList_nil ?_
  go_upto_region 5 with (fail)
  refine wp_region_lit ?_
  refine ls_ex (some 4) (.int .i64 0) rfl rfl (exec_assign _ rfl (.int .i64 0) rfl) ?_
  go_frame
  refine ls_ex (some 5) (.int .i64 2) rfl rfl (exec_assign _ rfl (.int .i64 2) rfl) ?_
  go_frame
  refine wpList_nil ?_
  go_wp2_with fail
  go_ret2
  exact ⟨by rw [Hr.out, Hc.out]; rfl, hB⟩
set_option maxHeartbeats 4000000 in
theorem specCe_8 (xp xn xm xk : Int) (xA : Option Addr) (xc : Nat) (xq : List (List Nat)) (yp yn ym yk : Int) (yA : Option Addr) (yc : Nat) (yq : List (List Nat)) (w : World) (hX : Rd w xA xq) (hlx : xq.length ≤ 1048576) (hY : Rd w yA yq) (hly : yq.length ≤ 1048576) (hx0 : sqCode xp xn xm xk xq true = 0) (hy0 : sqCode yp yn ym yk yq true = 0) (he : (xn != yn) = false) (hl : 0 < xq.length) (hm : 0 < yq.length) (h : xq.length < yq.length) :
    Calls Try.prog 16 #[.agg #[.int .i64 xp, .int .i64 xn, .int .i64 xm, .int .i64 xk, .slice xA xq.length xc], .agg #[.int .i64 yp, .int .i64 yn, .int .i64 ym, .int .i64 yk, .slice yA yq.length yc]] w (fun e w' => e = .returned (.tuple #[.int .i64 (ceR xp xn xm xk xq yp yn ym yk yq), .int .i64 (ceCode xp xn xm xk xq yp yn ym yk yq)]) ∧ Below w.heap.size w w') := by
  have hB := Below.refl w.heap.size w
  have Hx := Lib.hid hx0
  have Hy := Lib.hid hy0
  have hx := (sq_facts hx0).1
  have hy := (sq_facts hy0).1
  have hcb := ce_yes hx0 hy0 he hl hm
  have He := Lib.hid he
  have Hl : Hid (((xq.length : Int) == 0) = false) := Lib.hid (beq_eq_false_iff_ne.2 (by omega))
  have Hm : Hid (((yq.length : Int) == 0) = false) := Lib.hid (beq_eq_false_iff_ne.2 (by omega))
  have H8 : Hid (decide ((xq.length : Int) < (yq.length : Int)) = true) := Lib.hid (decide_eq_true (by omega))
  have Hc : Hid (ceCode xp xn xm xk xq yp yn ym yk yq = 0) := Lib.hid (by unfold ceCode; rw [if_pos ⟨hx, hy⟩, hcb]; rfl)
  have Hr : Hid (ceR xp xn xm xk xq yp yn ym yk yq = -1) := Lib.hid (by unfold ceR; rw [Hc.out, if_pos rfl]; unfold cmpI; rw [if_pos (by omega)])
  clear hx hy hx0 hy0 he hcb
  go_enter Try.func16, Try.ntmps16
  go_upto_region 0 with (fail)
  refine wp_region_lit ?_
  refine ls_op rfl (fun K' hK' => ?_)
  have lz1 := hB.size
  refine wp_new (some 2) rfl (exec_box 30 _ rfl (#[.int .i64 xp, .int .i64 xn, .int .i64 xm, .int .i64 xk, .slice xA xq.length xc]) rfl) (fun Wz2 nnz3 => ?_)
  have bz4 := nnz3.below (Below.refl _ _) (Nat.le_refl _)
  replace hB := below_after hB bz4
  have hz5 : At Wz2 w.heap.size (.cells #[.int .i64 xp, .int .i64 xn, .int .i64 xm, .int .i64 xk, .slice xA xq.length xc] 30 (0, 0)) := nnz3.at_
  refine hK' _ _ ?_
  clear hK' K' nnz3 bz4
  go_frame
  refine ls_op rfl (fun K' hK' => ?_)
  have lz6 := hB.size
  have lz7 := hz5.lt
  refine wp_new (some 3) rfl (exec_box 30 _ rfl (#[.int .i64 yp, .int .i64 yn, .int .i64 ym, .int .i64 yk, .slice yA yq.length yc]) rfl) (fun Wz8 nnz9 => ?_)
  have bz10 := nnz9.below (Below.refl _ _) (Nat.le_refl _)
  replace hB := below_after hB bz10
  replace hz5 := hz5.after bz10
  have hz11 : At Wz8 Wz2.heap.size (.cells #[.int .i64 yp, .int .i64 yn, .int .i64 ym, .int .i64 yk, .slice yA yq.length yc] 30 (0, 0)) := nnz9.at_
  refine hK' _ _ ?_
  clear hK' K' nnz9 bz10
  go_frame
  refine ls_ex (some 4) (.int .i64 0) rfl rfl (exec_assign _ rfl (.int .i64 0) rfl) ?_
  go_frame
  refine ls_ex (some 5) (.int .i64 0) rfl rfl (exec_assign _ rfl (.int .i64 0) rfl) ?_
  go_frame
  refine wpList_nil ?_
  go_upto_region 1 with (fail)
  refine wp_region_y (zs := []) (S := fun w' => Below w.heap.size w w' ∧ At w' w.heap.size (.cells #[.int .i64 xp, .int .i64 xn, .int .i64 xm, .int .i64 xk, .slice xA xq.length xc] 30 (0, 0)) ∧ At w' Wz2.heap.size (.cells #[.int .i64 yp, .int .i64 yn, .int .i64 ym, .int .i64 yk, .slice yA yq.length yc] 30 (0, 0))) (S2 := fun w' => True) (by kernel_rfl) ?_
  change wpAnyY _ _ _ _ _ _ _ _ _ _ (World.drew _)
  generalize hwdz12 : World.drew _ = wdz12
  replace hB : Below w.heap.size w wdz12 := by rw [← hwdz12]; exact hB.drew
  replace hz5 : At wdz12 w.heap.size (.cells #[.int .i64 xp, .int .i64 xn, .int .i64 xm, .int .i64 xk, .slice xA xq.length xc] 30 (0, 0)) := by rw [← hwdz12]; exact hz5
  replace hz11 : At wdz12 Wz2.heap.size (.cells #[.int .i64 yp, .int .i64 yn, .int .i64 ym, .int .i64 yk, .slice yA yq.length yc] 30 (0, 0)) := by rw [← hwdz12]; exact hz11
  clear hwdz12
  refine y_yield 0 (some 8) (.agg #[.int .i64 xp, .int .i64 xn, .int .i64 xm, .int .i64 xk, .slice xA xq.length xc]) rfl (by kernel_rfl) (by kernel_rfl) (by kernel_rfl) (fun _ _ _ h => h) rfl rfl ⟨hB, hz5, hz11⟩ (fun w' h' => exec_load_all 30 _ rfl w.heap.size rfl _ _ _ h'.2.1 Try.underlying30 rfl 5 (by kernel_rfl) rfl) ?_
  go_frame
  refine y_yield 2 (some 10) (.agg #[.int .i64 yp, .int .i64 yn, .int .i64 ym, .int .i64 yk, .slice yA yq.length yc]) rfl (by kernel_rfl) (by kernel_rfl) (by kernel_rfl) (fun _ _ _ h => h) rfl rfl ⟨hB, hz5, hz11⟩ (fun w' h' => exec_load_all 30 _ rfl Wz2.heap.size rfl _ _ _ h'.2.2 Try.underlying30 rfl 5 (by kernel_rfl) rfl) ?_
  go_frame
  refine y_oper 1 (by kernel_rfl) rfl rfl (fun K' hK' => ?_)
  have lz15 := hB.size
  have lz16 := hz5.lt
  have lz17 := hz11.lt
  refine wp_call1 (some 9) rfl 29 _ _ rfl (fun args w => by kernel_rfl) _ rfl _ (l06Square_c xp xn xm xk xA xc xq _ (hX.keep hB) hlx) (fun e Wz13 h => ?_)
  obtain ⟨rfl, bz14⟩ := h
  replace hB := below_after hB bz14
  replace hz5 := hz5.after bz14
  replace hz11 := hz11.after bz14
  rw [Hx.out]
  clear bz14
  refine ⟨_, rfl, ?_⟩
  refine hK' _ _ ⟨hB, hz5, hz11⟩ (fun _ => trivial) ?_
  clear hK' K'
  go_frame
  refine y_oper 3 (by kernel_rfl) rfl rfl (fun K' hK' => ?_)
  have lz20 := hB.size
  have lz21 := hz5.lt
  have lz22 := hz11.lt
  refine wp_call1 (some 11) rfl 29 _ _ rfl (fun args w => by kernel_rfl) _ rfl _ (l06Square_c yp yn ym yk yA yc yq _ (hY.keep hB) hly) (fun e Wz18 h => ?_)
  obtain ⟨rfl, bz19⟩ := h
  replace hB := below_after hB bz19
  replace hz5 := hz5.after bz19
  replace hz11 := hz11.after bz19
  rw [Hy.out]
  clear bz19
  refine ⟨_, rfl, ?_⟩
  refine hK' _ _ ⟨hB, hz5, hz11⟩ (fun _ => trivial) ?_
  clear hK' K'
  go_frame
  refine y_oper 4 (by kernel_rfl) rfl rfl (fun K' hK' => ?_)
  refine wp_exec (some 6) rfl (.int .i64 0) (exec_assign _ rfl (.int .i64 0) rfl) ?_
  refine hK' _ _ ⟨hB, hz5, hz11⟩ (fun _ => trivial) ?_
  clear hK' K'
  go_frame
  refine y_oper 5 (by kernel_rfl) rfl rfl (fun K' hK' => ?_)
  refine wp_exec (some 7) rfl (.int .i64 0) (exec_assign _ rfl (.int .i64 0) rfl) ?_
  refine hK' _ _ ⟨hB, hz5, hz11⟩ (fun _ => trivial) ?_
  clear hK' K'
  go_frame
  refine y_done (by kernel_rfl) ?_ _
  go_upto_region 2 with (fail)
  refine wp_region_lit ?_
  refine ls_ex (some 13) (.int .i64 0) rfl rfl (exec_move _ rfl (.int .i64 0) rfl) ?_
  go_frame
  refine ls_ex (some 14) (.bool false) rfl rfl (exec_eql _ _ _ _ rfl 0 1 rfl rfl false rfl) ?_
  go_frame
  refine ls_ex (some 15) (.bool false) rfl rfl (exec_move _ rfl (.bool false) rfl) ?_
  go_frame
  refine ls_ex_g (some 16) (.int .i64 0) rfl rfl (exec_move _ rfl (.int .i64 0) rfl) ?_
  go_frame
  refine ls_ex_g (some 17) (.bool false) rfl rfl (exec_eql _ _ _ _ rfl 0 1 rfl rfl false rfl) ?_
  go_frame
  refine ls_ex (some 18) (.bool false) rfl rfl (exec_pick _ _ _ rfl false rfl (.bool false) rfl) ?_
  go_frame
  refine ls_ex (some 12) (.bool false) rfl rfl (exec_assign _ rfl (.bool false) rfl) ?_
  go_frame
  refine wpList_nil ?_
  go_upto_region 4 with (fail)
  refine wp_region_lit ?_
  refine ls_ex (some 20) (.int .i64 0) rfl rfl (exec_move _ rfl (.int .i64 0) rfl) ?_
  go_frame
  refine ls_ex (some 21) (.bool false) rfl rfl (exec_neq _ _ _ _ rfl 0 0 rfl rfl false rfl) ?_
  go_frame
  refine ls_ex (some 22) (.bool false) rfl rfl (exec_move _ rfl (.bool false) rfl) ?_
  go_frame
  refine ls_ex_g (some 23) (.int .i64 0) rfl rfl (exec_move _ rfl (.int .i64 0) rfl) ?_
  go_frame
  refine ls_ex_g (some 24) (.bool false) rfl rfl (exec_neq _ _ _ _ rfl 0 0 rfl rfl false rfl) ?_
  go_frame
  refine ls_ex (some 25) (.bool false) rfl rfl (exec_pick _ _ _ rfl false rfl (.bool false) rfl) ?_
  go_frame
  refine ls_ex (some 26) (.bool false) rfl rfl (exec_move _ rfl (.bool false) rfl) ?_
  go_frame
  refine ls_ex_g (some 27) (.pointer (some ⟨w.heap.size, 1, none⟩)) rfl rfl (exec_fieldAddr 30 _ 1 rfl _ (by kernel_rfl)) ?_
  go_frame
  refine ls_ex_g (some 28) (.int .i64 xn) rfl rfl (exec_load_one 2 _ rfl w.heap.size 1 rfl (.int .i64 xn) _ Try.underlying2 rfl (hz5.at_ 1)) ?_
  go_frame
  refine ls_ex_g (some 29) (.pointer (some ⟨Wz2.heap.size, 1, none⟩)) rfl rfl (exec_fieldAddr 30 _ 1 rfl _ (by kernel_rfl)) ?_
  go_frame
  refine ls_ex_g (some 30) (.int .i64 yn) rfl rfl (exec_load_one 2 _ rfl Wz2.heap.size 1 rfl (.int .i64 yn) _ Try.underlying2 rfl (hz11.at_ 1)) ?_
  go_frame
  refine ls_ex_g (some 31) (.bool false) rfl rfl (exec_neq _ _ _ _ rfl xn yn rfl rfl false He.out) ?_
  go_frame
  refine ls_ex (some 32) (.bool false) rfl rfl (exec_pick _ _ _ rfl false rfl (.bool false) rfl) ?_
  go_frame
  refine ls_ex (some 33) (.bool false) rfl rfl (exec_move _ rfl (.bool false) rfl) ?_
  go_frame
  refine ls_ex_g (some 34) (.pointer (some ⟨w.heap.size, 4, none⟩)) rfl rfl (exec_fieldAddr 30 _ 4 rfl _ (by kernel_rfl)) ?_
  go_frame
  refine ls_ex_g (some 35) (.slice xA xq.length xc) rfl rfl (exec_load_one 28 _ rfl w.heap.size 4 rfl (.slice xA xq.length xc) _ Try.underlying28 rfl (hz5.at_ 4)) ?_
  go_frame
  refine ls_ex_g (some 36) (.int .i64 xq.length) rfl rfl (exec_len _ 28 68 rfl xA xq.length xc rfl Try.underlying28) ?_
  go_frame
  refine ls_ex_g (some 37) (.bool false) rfl rfl (exec_eql _ _ _ _ rfl xq.length 0 rfl rfl false Hl.out) ?_
  go_frame
  refine ls_ex (some 38) (.bool false) rfl rfl (exec_pick _ _ _ rfl false rfl (.bool false) rfl) ?_
  go_frame
  refine ls_ex (some 39) (.bool false) rfl rfl (exec_move _ rfl (.bool false) rfl) ?_
  go_frame
  refine ls_ex_g (some 40) (.pointer (some ⟨Wz2.heap.size, 4, none⟩)) rfl rfl (exec_fieldAddr 30 _ 4 rfl _ (by kernel_rfl)) ?_
  go_frame
  refine ls_ex_g (some 41) (.slice yA yq.length yc) rfl rfl (exec_load_one 28 _ rfl Wz2.heap.size 4 rfl (.slice yA yq.length yc) _ Try.underlying28 rfl (hz11.at_ 4)) ?_
  go_frame
  refine ls_ex_g (some 42) (.int .i64 yq.length) rfl rfl (exec_len _ 28 68 rfl yA yq.length yc rfl Try.underlying28) ?_
  go_frame
  refine ls_ex_g (some 43) (.bool false) rfl rfl (exec_eql _ _ _ _ rfl yq.length 0 rfl rfl false Hm.out) ?_
  go_frame
  refine ls_ex (some 44) (.bool false) rfl rfl (exec_pick _ _ _ rfl false rfl (.bool false) rfl) ?_
  go_frame
  refine ls_ex (some 19) (.bool false) rfl rfl (exec_assign _ rfl (.bool false) rfl) ?_
  go_frame
  refine wpList_nil ?_
  go_upto_region 6 with (fail)
  refine wp_region_lit ?_
  refine ls_ex (some 46) (.pointer (some ⟨w.heap.size, 4, none⟩)) rfl rfl (exec_fieldAddr 30 _ 4 rfl _ (by kernel_rfl)) ?_
  go_frame
  refine ls_ex (some 47) (.slice xA xq.length xc) rfl rfl (exec_load_one 28 _ rfl w.heap.size 4 rfl (.slice xA xq.length xc) _ Try.underlying28 rfl (hz5.at_ 4)) ?_
  go_frame
  refine ls_ex (some 48) (.int .i64 xq.length) rfl rfl (exec_len _ 28 68 rfl xA xq.length xc rfl Try.underlying28) ?_
  go_frame
  refine ls_ex (some 49) (.pointer (some ⟨Wz2.heap.size, 4, none⟩)) rfl rfl (exec_fieldAddr 30 _ 4 rfl _ (by kernel_rfl)) ?_
  go_frame
  refine ls_ex (some 50) (.slice yA yq.length yc) rfl rfl (exec_load_one 28 _ rfl Wz2.heap.size 4 rfl (.slice yA yq.length yc) _ Try.underlying28 rfl (hz11.at_ 4)) ?_
  go_frame
  refine ls_ex (some 51) (.int .i64 yq.length) rfl rfl (exec_len _ 28 68 rfl yA yq.length yc rfl Try.underlying28) ?_
  go_frame
  refine ls_ex (some 52) (.bool true) rfl rfl (exec_lss _ _ _ _ rfl xq.length yq.length rfl rfl true H8.out) ?_
  go_frame
  refine ls_ex (some 45) (.bool true) rfl rfl (exec_assign _ rfl (.bool true) rfl) ?_
  go_frame
  refine wpList_nil ?_
  go_upto_region 7 with (fail)
  refine wp_region_lit ?_
  refine ls_ex (some 4) (.int .i64 (-1)) rfl rfl (exec_assign _ rfl (.int .i64 (-1)) rfl) ?_
  go_frame
  refine ls_ex (some 5) (.int .i64 0) rfl rfl (exec_assign _ rfl (.int .i64 0) rfl) ?_
  go_frame
  refine wpList_nil ?_
  go_wp2_with fail
  go_ret2
  exact ⟨by rw [Hr.out, Hc.out]; rfl, hB⟩
set_option maxHeartbeats 4000000 in
theorem specCe_9 (xp xn xm xk : Int) (xA : Option Addr) (xc : Nat) (xq : List (List Nat)) (yp yn ym yk : Int) (yA : Option Addr) (yc : Nat) (yq : List (List Nat)) (w : World) (hX : Rd w xA xq) (hlx : xq.length ≤ 1048576) (hY : Rd w yA yq) (hly : yq.length ≤ 1048576) (hx0 : sqCode xp xn xm xk xq true = 0) (hy0 : sqCode yp yn ym yk yq true = 0) (he : (xn != yn) = false) (hl : 0 < xq.length) (hm : 0 < yq.length) (h : yq.length < xq.length) :
    Calls Try.prog 16 #[.agg #[.int .i64 xp, .int .i64 xn, .int .i64 xm, .int .i64 xk, .slice xA xq.length xc], .agg #[.int .i64 yp, .int .i64 yn, .int .i64 ym, .int .i64 yk, .slice yA yq.length yc]] w (fun e w' => e = .returned (.tuple #[.int .i64 (ceR xp xn xm xk xq yp yn ym yk yq), .int .i64 (ceCode xp xn xm xk xq yp yn ym yk yq)]) ∧ Below w.heap.size w w') := by
  have hB := Below.refl w.heap.size w
  have Hx := Lib.hid hx0
  have Hy := Lib.hid hy0
  have hx := (sq_facts hx0).1
  have hy := (sq_facts hy0).1
  have hcb := ce_yes hx0 hy0 he hl hm
  have He := Lib.hid he
  have Hl : Hid (((xq.length : Int) == 0) = false) := Lib.hid (beq_eq_false_iff_ne.2 (by omega))
  have Hm : Hid (((yq.length : Int) == 0) = false) := Lib.hid (beq_eq_false_iff_ne.2 (by omega))
  have H8 : Hid (decide ((xq.length : Int) < (yq.length : Int)) = false) := Lib.hid (decide_eq_false (by omega))
  have H9 : Hid (decide ((yq.length : Int) < (xq.length : Int)) = true) := Lib.hid (decide_eq_true (by omega))
  have Hc : Hid (ceCode xp xn xm xk xq yp yn ym yk yq = 0) := Lib.hid (by unfold ceCode; rw [if_pos ⟨hx, hy⟩, hcb]; rfl)
  have Hr : Hid (ceR xp xn xm xk xq yp yn ym yk yq = 1) := Lib.hid (by unfold ceR; rw [Hc.out, if_pos rfl]; unfold cmpI; rw [if_neg (by omega), if_pos (by omega)])
  clear hx hy hx0 hy0 he hcb
  go_enter Try.func16, Try.ntmps16
  go_upto_region 0 with (fail)
  refine wp_region_lit ?_
  refine ls_op rfl (fun K' hK' => ?_)
  have lz1 := hB.size
  refine wp_new (some 2) rfl (exec_box 30 _ rfl (#[.int .i64 xp, .int .i64 xn, .int .i64 xm, .int .i64 xk, .slice xA xq.length xc]) rfl) (fun Wz2 nnz3 => ?_)
  have bz4 := nnz3.below (Below.refl _ _) (Nat.le_refl _)
  replace hB := below_after hB bz4
  have hz5 : At Wz2 w.heap.size (.cells #[.int .i64 xp, .int .i64 xn, .int .i64 xm, .int .i64 xk, .slice xA xq.length xc] 30 (0, 0)) := nnz3.at_
  refine hK' _ _ ?_
  clear hK' K' nnz3 bz4
  go_frame
  refine ls_op rfl (fun K' hK' => ?_)
  have lz6 := hB.size
  have lz7 := hz5.lt
  refine wp_new (some 3) rfl (exec_box 30 _ rfl (#[.int .i64 yp, .int .i64 yn, .int .i64 ym, .int .i64 yk, .slice yA yq.length yc]) rfl) (fun Wz8 nnz9 => ?_)
  have bz10 := nnz9.below (Below.refl _ _) (Nat.le_refl _)
  replace hB := below_after hB bz10
  replace hz5 := hz5.after bz10
  have hz11 : At Wz8 Wz2.heap.size (.cells #[.int .i64 yp, .int .i64 yn, .int .i64 ym, .int .i64 yk, .slice yA yq.length yc] 30 (0, 0)) := nnz9.at_
  refine hK' _ _ ?_
  clear hK' K' nnz9 bz10
  go_frame
  refine ls_ex (some 4) (.int .i64 0) rfl rfl (exec_assign _ rfl (.int .i64 0) rfl) ?_
  go_frame
  refine ls_ex (some 5) (.int .i64 0) rfl rfl (exec_assign _ rfl (.int .i64 0) rfl) ?_
  go_frame
  refine wpList_nil ?_
  go_upto_region 1 with (fail)
  refine wp_region_y (zs := []) (S := fun w' => Below w.heap.size w w' ∧ At w' w.heap.size (.cells #[.int .i64 xp, .int .i64 xn, .int .i64 xm, .int .i64 xk, .slice xA xq.length xc] 30 (0, 0)) ∧ At w' Wz2.heap.size (.cells #[.int .i64 yp, .int .i64 yn, .int .i64 ym, .int .i64 yk, .slice yA yq.length yc] 30 (0, 0))) (S2 := fun w' => True) (by kernel_rfl) ?_
  change wpAnyY _ _ _ _ _ _ _ _ _ _ (World.drew _)
  generalize hwdz12 : World.drew _ = wdz12
  replace hB : Below w.heap.size w wdz12 := by rw [← hwdz12]; exact hB.drew
  replace hz5 : At wdz12 w.heap.size (.cells #[.int .i64 xp, .int .i64 xn, .int .i64 xm, .int .i64 xk, .slice xA xq.length xc] 30 (0, 0)) := by rw [← hwdz12]; exact hz5
  replace hz11 : At wdz12 Wz2.heap.size (.cells #[.int .i64 yp, .int .i64 yn, .int .i64 ym, .int .i64 yk, .slice yA yq.length yc] 30 (0, 0)) := by rw [← hwdz12]; exact hz11
  clear hwdz12
  refine y_yield 0 (some 8) (.agg #[.int .i64 xp, .int .i64 xn, .int .i64 xm, .int .i64 xk, .slice xA xq.length xc]) rfl (by kernel_rfl) (by kernel_rfl) (by kernel_rfl) (fun _ _ _ h => h) rfl rfl ⟨hB, hz5, hz11⟩ (fun w' h' => exec_load_all 30 _ rfl w.heap.size rfl _ _ _ h'.2.1 Try.underlying30 rfl 5 (by kernel_rfl) rfl) ?_
  go_frame
  refine y_yield 2 (some 10) (.agg #[.int .i64 yp, .int .i64 yn, .int .i64 ym, .int .i64 yk, .slice yA yq.length yc]) rfl (by kernel_rfl) (by kernel_rfl) (by kernel_rfl) (fun _ _ _ h => h) rfl rfl ⟨hB, hz5, hz11⟩ (fun w' h' => exec_load_all 30 _ rfl Wz2.heap.size rfl _ _ _ h'.2.2 Try.underlying30 rfl 5 (by kernel_rfl) rfl) ?_
  go_frame
  refine y_oper 1 (by kernel_rfl) rfl rfl (fun K' hK' => ?_)
  have lz15 := hB.size
  have lz16 := hz5.lt
  have lz17 := hz11.lt
  refine wp_call1 (some 9) rfl 29 _ _ rfl (fun args w => by kernel_rfl) _ rfl _ (l06Square_c xp xn xm xk xA xc xq _ (hX.keep hB) hlx) (fun e Wz13 h => ?_)
  obtain ⟨rfl, bz14⟩ := h
  replace hB := below_after hB bz14
  replace hz5 := hz5.after bz14
  replace hz11 := hz11.after bz14
  rw [Hx.out]
  clear bz14
  refine ⟨_, rfl, ?_⟩
  refine hK' _ _ ⟨hB, hz5, hz11⟩ (fun _ => trivial) ?_
  clear hK' K'
  go_frame
  refine y_oper 3 (by kernel_rfl) rfl rfl (fun K' hK' => ?_)
  have lz20 := hB.size
  have lz21 := hz5.lt
  have lz22 := hz11.lt
  refine wp_call1 (some 11) rfl 29 _ _ rfl (fun args w => by kernel_rfl) _ rfl _ (l06Square_c yp yn ym yk yA yc yq _ (hY.keep hB) hly) (fun e Wz18 h => ?_)
  obtain ⟨rfl, bz19⟩ := h
  replace hB := below_after hB bz19
  replace hz5 := hz5.after bz19
  replace hz11 := hz11.after bz19
  rw [Hy.out]
  clear bz19
  refine ⟨_, rfl, ?_⟩
  refine hK' _ _ ⟨hB, hz5, hz11⟩ (fun _ => trivial) ?_
  clear hK' K'
  go_frame
  refine y_oper 4 (by kernel_rfl) rfl rfl (fun K' hK' => ?_)
  refine wp_exec (some 6) rfl (.int .i64 0) (exec_assign _ rfl (.int .i64 0) rfl) ?_
  refine hK' _ _ ⟨hB, hz5, hz11⟩ (fun _ => trivial) ?_
  clear hK' K'
  go_frame
  refine y_oper 5 (by kernel_rfl) rfl rfl (fun K' hK' => ?_)
  refine wp_exec (some 7) rfl (.int .i64 0) (exec_assign _ rfl (.int .i64 0) rfl) ?_
  refine hK' _ _ ⟨hB, hz5, hz11⟩ (fun _ => trivial) ?_
  clear hK' K'
  go_frame
  refine y_done (by kernel_rfl) ?_ _
  go_upto_region 2 with (fail)
  refine wp_region_lit ?_
  refine ls_ex (some 13) (.int .i64 0) rfl rfl (exec_move _ rfl (.int .i64 0) rfl) ?_
  go_frame
  refine ls_ex (some 14) (.bool false) rfl rfl (exec_eql _ _ _ _ rfl 0 1 rfl rfl false rfl) ?_
  go_frame
  refine ls_ex (some 15) (.bool false) rfl rfl (exec_move _ rfl (.bool false) rfl) ?_
  go_frame
  refine ls_ex_g (some 16) (.int .i64 0) rfl rfl (exec_move _ rfl (.int .i64 0) rfl) ?_
  go_frame
  refine ls_ex_g (some 17) (.bool false) rfl rfl (exec_eql _ _ _ _ rfl 0 1 rfl rfl false rfl) ?_
  go_frame
  refine ls_ex (some 18) (.bool false) rfl rfl (exec_pick _ _ _ rfl false rfl (.bool false) rfl) ?_
  go_frame
  refine ls_ex (some 12) (.bool false) rfl rfl (exec_assign _ rfl (.bool false) rfl) ?_
  go_frame
  refine wpList_nil ?_
  go_upto_region 4 with (fail)
  refine wp_region_lit ?_
  refine ls_ex (some 20) (.int .i64 0) rfl rfl (exec_move _ rfl (.int .i64 0) rfl) ?_
  go_frame
  refine ls_ex (some 21) (.bool false) rfl rfl (exec_neq _ _ _ _ rfl 0 0 rfl rfl false rfl) ?_
  go_frame
  refine ls_ex (some 22) (.bool false) rfl rfl (exec_move _ rfl (.bool false) rfl) ?_
  go_frame
  refine ls_ex_g (some 23) (.int .i64 0) rfl rfl (exec_move _ rfl (.int .i64 0) rfl) ?_
  go_frame
  refine ls_ex_g (some 24) (.bool false) rfl rfl (exec_neq _ _ _ _ rfl 0 0 rfl rfl false rfl) ?_
  go_frame
  refine ls_ex (some 25) (.bool false) rfl rfl (exec_pick _ _ _ rfl false rfl (.bool false) rfl) ?_
  go_frame
  refine ls_ex (some 26) (.bool false) rfl rfl (exec_move _ rfl (.bool false) rfl) ?_
  go_frame
  refine ls_ex_g (some 27) (.pointer (some ⟨w.heap.size, 1, none⟩)) rfl rfl (exec_fieldAddr 30 _ 1 rfl _ (by kernel_rfl)) ?_
  go_frame
  refine ls_ex_g (some 28) (.int .i64 xn) rfl rfl (exec_load_one 2 _ rfl w.heap.size 1 rfl (.int .i64 xn) _ Try.underlying2 rfl (hz5.at_ 1)) ?_
  go_frame
  refine ls_ex_g (some 29) (.pointer (some ⟨Wz2.heap.size, 1, none⟩)) rfl rfl (exec_fieldAddr 30 _ 1 rfl _ (by kernel_rfl)) ?_
  go_frame
  refine ls_ex_g (some 30) (.int .i64 yn) rfl rfl (exec_load_one 2 _ rfl Wz2.heap.size 1 rfl (.int .i64 yn) _ Try.underlying2 rfl (hz11.at_ 1)) ?_
  go_frame
  refine ls_ex_g (some 31) (.bool false) rfl rfl (exec_neq _ _ _ _ rfl xn yn rfl rfl false He.out) ?_
  go_frame
  refine ls_ex (some 32) (.bool false) rfl rfl (exec_pick _ _ _ rfl false rfl (.bool false) rfl) ?_
  go_frame
  refine ls_ex (some 33) (.bool false) rfl rfl (exec_move _ rfl (.bool false) rfl) ?_
  go_frame
  refine ls_ex_g (some 34) (.pointer (some ⟨w.heap.size, 4, none⟩)) rfl rfl (exec_fieldAddr 30 _ 4 rfl _ (by kernel_rfl)) ?_
  go_frame
  refine ls_ex_g (some 35) (.slice xA xq.length xc) rfl rfl (exec_load_one 28 _ rfl w.heap.size 4 rfl (.slice xA xq.length xc) _ Try.underlying28 rfl (hz5.at_ 4)) ?_
  go_frame
  refine ls_ex_g (some 36) (.int .i64 xq.length) rfl rfl (exec_len _ 28 68 rfl xA xq.length xc rfl Try.underlying28) ?_
  go_frame
  refine ls_ex_g (some 37) (.bool false) rfl rfl (exec_eql _ _ _ _ rfl xq.length 0 rfl rfl false Hl.out) ?_
  go_frame
  refine ls_ex (some 38) (.bool false) rfl rfl (exec_pick _ _ _ rfl false rfl (.bool false) rfl) ?_
  go_frame
  refine ls_ex (some 39) (.bool false) rfl rfl (exec_move _ rfl (.bool false) rfl) ?_
  go_frame
  refine ls_ex_g (some 40) (.pointer (some ⟨Wz2.heap.size, 4, none⟩)) rfl rfl (exec_fieldAddr 30 _ 4 rfl _ (by kernel_rfl)) ?_
  go_frame
  refine ls_ex_g (some 41) (.slice yA yq.length yc) rfl rfl (exec_load_one 28 _ rfl Wz2.heap.size 4 rfl (.slice yA yq.length yc) _ Try.underlying28 rfl (hz11.at_ 4)) ?_
  go_frame
  refine ls_ex_g (some 42) (.int .i64 yq.length) rfl rfl (exec_len _ 28 68 rfl yA yq.length yc rfl Try.underlying28) ?_
  go_frame
  refine ls_ex_g (some 43) (.bool false) rfl rfl (exec_eql _ _ _ _ rfl yq.length 0 rfl rfl false Hm.out) ?_
  go_frame
  refine ls_ex (some 44) (.bool false) rfl rfl (exec_pick _ _ _ rfl false rfl (.bool false) rfl) ?_
  go_frame
  refine ls_ex (some 19) (.bool false) rfl rfl (exec_assign _ rfl (.bool false) rfl) ?_
  go_frame
  refine wpList_nil ?_
  go_upto_region 6 with (fail)
  refine wp_region_lit ?_
  refine ls_ex (some 46) (.pointer (some ⟨w.heap.size, 4, none⟩)) rfl rfl (exec_fieldAddr 30 _ 4 rfl _ (by kernel_rfl)) ?_
  go_frame
  refine ls_ex (some 47) (.slice xA xq.length xc) rfl rfl (exec_load_one 28 _ rfl w.heap.size 4 rfl (.slice xA xq.length xc) _ Try.underlying28 rfl (hz5.at_ 4)) ?_
  go_frame
  refine ls_ex (some 48) (.int .i64 xq.length) rfl rfl (exec_len _ 28 68 rfl xA xq.length xc rfl Try.underlying28) ?_
  go_frame
  refine ls_ex (some 49) (.pointer (some ⟨Wz2.heap.size, 4, none⟩)) rfl rfl (exec_fieldAddr 30 _ 4 rfl _ (by kernel_rfl)) ?_
  go_frame
  refine ls_ex (some 50) (.slice yA yq.length yc) rfl rfl (exec_load_one 28 _ rfl Wz2.heap.size 4 rfl (.slice yA yq.length yc) _ Try.underlying28 rfl (hz11.at_ 4)) ?_
  go_frame
  refine ls_ex (some 51) (.int .i64 yq.length) rfl rfl (exec_len _ 28 68 rfl yA yq.length yc rfl Try.underlying28) ?_
  go_frame
  refine ls_ex (some 52) (.bool false) rfl rfl (exec_lss _ _ _ _ rfl xq.length yq.length rfl rfl false H8.out) ?_
  go_frame
  refine ls_ex (some 45) (.bool false) rfl rfl (exec_assign _ rfl (.bool false) rfl) ?_
  go_frame
  refine wpList_nil ?_
  go_upto_region 8 with (fail)
  refine wp_region_lit ?_
  refine ls_ex (some 54) (.pointer (some ⟨w.heap.size, 4, none⟩)) rfl rfl (exec_fieldAddr 30 _ 4 rfl _ (by kernel_rfl)) ?_
  go_frame
  refine ls_ex (some 55) (.slice xA xq.length xc) rfl rfl (exec_load_one 28 _ rfl w.heap.size 4 rfl (.slice xA xq.length xc) _ Try.underlying28 rfl (hz5.at_ 4)) ?_
  go_frame
  refine ls_ex (some 56) (.int .i64 xq.length) rfl rfl (exec_len _ 28 68 rfl xA xq.length xc rfl Try.underlying28) ?_
  go_frame
  refine ls_ex (some 57) (.pointer (some ⟨Wz2.heap.size, 4, none⟩)) rfl rfl (exec_fieldAddr 30 _ 4 rfl _ (by kernel_rfl)) ?_
  go_frame
  refine ls_ex (some 58) (.slice yA yq.length yc) rfl rfl (exec_load_one 28 _ rfl Wz2.heap.size 4 rfl (.slice yA yq.length yc) _ Try.underlying28 rfl (hz11.at_ 4)) ?_
  go_frame
  refine ls_ex (some 59) (.int .i64 yq.length) rfl rfl (exec_len _ 28 68 rfl yA yq.length yc rfl Try.underlying28) ?_
  go_frame
  refine ls_ex (some 60) (.bool true) rfl rfl (exec_gtr _ _ _ _ rfl xq.length yq.length rfl rfl true H9.out) ?_
  go_frame
  refine ls_ex (some 53) (.bool true) rfl rfl (exec_assign _ rfl (.bool true) rfl) ?_
  go_frame
  refine wpList_nil ?_
  go_upto_region 9 with (fail)
  refine wp_region_lit ?_
  refine ls_ex (some 4) (.int .i64 1) rfl rfl (exec_assign _ rfl (.int .i64 1) rfl) ?_
  go_frame
  refine ls_ex (some 5) (.int .i64 0) rfl rfl (exec_assign _ rfl (.int .i64 0) rfl) ?_
  go_frame
  refine wpList_nil ?_
  go_wp2_with fail
  go_ret2
  exact ⟨by rw [Hr.out, Hc.out]; rfl, hB⟩
set_option maxHeartbeats 4000000 in
theorem specCe_t (xp xn xm xk : Int) (xA : Option Addr) (xc : Nat) (xq : List (List Nat)) (yp yn ym yk : Int) (yA : Option Addr) (yc : Nat) (yq : List (List Nat)) (w : World) (hX : Rd w xA xq) (hlx : xq.length ≤ 1048576) (hY : Rd w yA yq) (hly : yq.length ≤ 1048576) (hx0 : sqCode xp xn xm xk xq true = 0) (hy0 : sqCode yp yn ym yk yq true = 0) (he : (xn != yn) = false) (hl : 0 < xq.length) (hm : 0 < yq.length) (h : xq.length ≤ yq.length) (h2 : yq.length ≤ xq.length) :
    Calls Try.prog 16 #[.agg #[.int .i64 xp, .int .i64 xn, .int .i64 xm, .int .i64 xk, .slice xA xq.length xc], .agg #[.int .i64 yp, .int .i64 yn, .int .i64 ym, .int .i64 yk, .slice yA yq.length yc]] w (fun e w' => e = .returned (.tuple #[.int .i64 (ceR xp xn xm xk xq yp yn ym yk yq), .int .i64 (ceCode xp xn xm xk xq yp yn ym yk yq)]) ∧ Below w.heap.size w w') := by
  have hB := Below.refl w.heap.size w
  have Hx := Lib.hid hx0
  have Hy := Lib.hid hy0
  have hx := (sq_facts hx0).1
  have hy := (sq_facts hy0).1
  have hcb := ce_yes hx0 hy0 he hl hm
  have He := Lib.hid he
  have Hl : Hid (((xq.length : Int) == 0) = false) := Lib.hid (beq_eq_false_iff_ne.2 (by omega))
  have Hm : Hid (((yq.length : Int) == 0) = false) := Lib.hid (beq_eq_false_iff_ne.2 (by omega))
  have H8 : Hid (decide ((xq.length : Int) < (yq.length : Int)) = false) := Lib.hid (decide_eq_false (by omega))
  have H9 : Hid (decide ((yq.length : Int) < (xq.length : Int)) = false) := Lib.hid (decide_eq_false (by omega))
  have Hc : Hid (ceCode xp xn xm xk xq yp yn ym yk yq = 0) := Lib.hid (by unfold ceCode; rw [if_pos ⟨hx, hy⟩, hcb]; rfl)
  have Hr : Hid (ceR xp xn xm xk xq yp yn ym yk yq = 0) := Lib.hid (by unfold ceR; rw [Hc.out, if_pos rfl]; unfold cmpI; rw [if_neg (by omega), if_neg (by omega)])
  clear hx hy hx0 hy0 he hcb
  go_enter Try.func16, Try.ntmps16
  go_upto_region 0 with (fail)
  refine wp_region_lit ?_
  refine ls_op rfl (fun K' hK' => ?_)
  have lz1 := hB.size
  refine wp_new (some 2) rfl (exec_box 30 _ rfl (#[.int .i64 xp, .int .i64 xn, .int .i64 xm, .int .i64 xk, .slice xA xq.length xc]) rfl) (fun Wz2 nnz3 => ?_)
  have bz4 := nnz3.below (Below.refl _ _) (Nat.le_refl _)
  replace hB := below_after hB bz4
  have hz5 : At Wz2 w.heap.size (.cells #[.int .i64 xp, .int .i64 xn, .int .i64 xm, .int .i64 xk, .slice xA xq.length xc] 30 (0, 0)) := nnz3.at_
  refine hK' _ _ ?_
  clear hK' K' nnz3 bz4
  go_frame
  refine ls_op rfl (fun K' hK' => ?_)
  have lz6 := hB.size
  have lz7 := hz5.lt
  refine wp_new (some 3) rfl (exec_box 30 _ rfl (#[.int .i64 yp, .int .i64 yn, .int .i64 ym, .int .i64 yk, .slice yA yq.length yc]) rfl) (fun Wz8 nnz9 => ?_)
  have bz10 := nnz9.below (Below.refl _ _) (Nat.le_refl _)
  replace hB := below_after hB bz10
  replace hz5 := hz5.after bz10
  have hz11 : At Wz8 Wz2.heap.size (.cells #[.int .i64 yp, .int .i64 yn, .int .i64 ym, .int .i64 yk, .slice yA yq.length yc] 30 (0, 0)) := nnz9.at_
  refine hK' _ _ ?_
  clear hK' K' nnz9 bz10
  go_frame
  refine ls_ex (some 4) (.int .i64 0) rfl rfl (exec_assign _ rfl (.int .i64 0) rfl) ?_
  go_frame
  refine ls_ex (some 5) (.int .i64 0) rfl rfl (exec_assign _ rfl (.int .i64 0) rfl) ?_
  go_frame
  refine wpList_nil ?_
  go_upto_region 1 with (fail)
  refine wp_region_y (zs := []) (S := fun w' => Below w.heap.size w w' ∧ At w' w.heap.size (.cells #[.int .i64 xp, .int .i64 xn, .int .i64 xm, .int .i64 xk, .slice xA xq.length xc] 30 (0, 0)) ∧ At w' Wz2.heap.size (.cells #[.int .i64 yp, .int .i64 yn, .int .i64 ym, .int .i64 yk, .slice yA yq.length yc] 30 (0, 0))) (S2 := fun w' => True) (by kernel_rfl) ?_
  change wpAnyY _ _ _ _ _ _ _ _ _ _ (World.drew _)
  generalize hwdz12 : World.drew _ = wdz12
  replace hB : Below w.heap.size w wdz12 := by rw [← hwdz12]; exact hB.drew
  replace hz5 : At wdz12 w.heap.size (.cells #[.int .i64 xp, .int .i64 xn, .int .i64 xm, .int .i64 xk, .slice xA xq.length xc] 30 (0, 0)) := by rw [← hwdz12]; exact hz5
  replace hz11 : At wdz12 Wz2.heap.size (.cells #[.int .i64 yp, .int .i64 yn, .int .i64 ym, .int .i64 yk, .slice yA yq.length yc] 30 (0, 0)) := by rw [← hwdz12]; exact hz11
  clear hwdz12
  refine y_yield 0 (some 8) (.agg #[.int .i64 xp, .int .i64 xn, .int .i64 xm, .int .i64 xk, .slice xA xq.length xc]) rfl (by kernel_rfl) (by kernel_rfl) (by kernel_rfl) (fun _ _ _ h => h) rfl rfl ⟨hB, hz5, hz11⟩ (fun w' h' => exec_load_all 30 _ rfl w.heap.size rfl _ _ _ h'.2.1 Try.underlying30 rfl 5 (by kernel_rfl) rfl) ?_
  go_frame
  refine y_yield 2 (some 10) (.agg #[.int .i64 yp, .int .i64 yn, .int .i64 ym, .int .i64 yk, .slice yA yq.length yc]) rfl (by kernel_rfl) (by kernel_rfl) (by kernel_rfl) (fun _ _ _ h => h) rfl rfl ⟨hB, hz5, hz11⟩ (fun w' h' => exec_load_all 30 _ rfl Wz2.heap.size rfl _ _ _ h'.2.2 Try.underlying30 rfl 5 (by kernel_rfl) rfl) ?_
  go_frame
  refine y_oper 1 (by kernel_rfl) rfl rfl (fun K' hK' => ?_)
  have lz15 := hB.size
  have lz16 := hz5.lt
  have lz17 := hz11.lt
  refine wp_call1 (some 9) rfl 29 _ _ rfl (fun args w => by kernel_rfl) _ rfl _ (l06Square_c xp xn xm xk xA xc xq _ (hX.keep hB) hlx) (fun e Wz13 h => ?_)
  obtain ⟨rfl, bz14⟩ := h
  replace hB := below_after hB bz14
  replace hz5 := hz5.after bz14
  replace hz11 := hz11.after bz14
  rw [Hx.out]
  clear bz14
  refine ⟨_, rfl, ?_⟩
  refine hK' _ _ ⟨hB, hz5, hz11⟩ (fun _ => trivial) ?_
  clear hK' K'
  go_frame
  refine y_oper 3 (by kernel_rfl) rfl rfl (fun K' hK' => ?_)
  have lz20 := hB.size
  have lz21 := hz5.lt
  have lz22 := hz11.lt
  refine wp_call1 (some 11) rfl 29 _ _ rfl (fun args w => by kernel_rfl) _ rfl _ (l06Square_c yp yn ym yk yA yc yq _ (hY.keep hB) hly) (fun e Wz18 h => ?_)
  obtain ⟨rfl, bz19⟩ := h
  replace hB := below_after hB bz19
  replace hz5 := hz5.after bz19
  replace hz11 := hz11.after bz19
  rw [Hy.out]
  clear bz19
  refine ⟨_, rfl, ?_⟩
  refine hK' _ _ ⟨hB, hz5, hz11⟩ (fun _ => trivial) ?_
  clear hK' K'
  go_frame
  refine y_oper 4 (by kernel_rfl) rfl rfl (fun K' hK' => ?_)
  refine wp_exec (some 6) rfl (.int .i64 0) (exec_assign _ rfl (.int .i64 0) rfl) ?_
  refine hK' _ _ ⟨hB, hz5, hz11⟩ (fun _ => trivial) ?_
  clear hK' K'
  go_frame
  refine y_oper 5 (by kernel_rfl) rfl rfl (fun K' hK' => ?_)
  refine wp_exec (some 7) rfl (.int .i64 0) (exec_assign _ rfl (.int .i64 0) rfl) ?_
  refine hK' _ _ ⟨hB, hz5, hz11⟩ (fun _ => trivial) ?_
  clear hK' K'
  go_frame
  refine y_done (by kernel_rfl) ?_ _
  go_upto_region 2 with (fail)
  refine wp_region_lit ?_
  refine ls_ex (some 13) (.int .i64 0) rfl rfl (exec_move _ rfl (.int .i64 0) rfl) ?_
  go_frame
  refine ls_ex (some 14) (.bool false) rfl rfl (exec_eql _ _ _ _ rfl 0 1 rfl rfl false rfl) ?_
  go_frame
  refine ls_ex (some 15) (.bool false) rfl rfl (exec_move _ rfl (.bool false) rfl) ?_
  go_frame
  refine ls_ex_g (some 16) (.int .i64 0) rfl rfl (exec_move _ rfl (.int .i64 0) rfl) ?_
  go_frame
  refine ls_ex_g (some 17) (.bool false) rfl rfl (exec_eql _ _ _ _ rfl 0 1 rfl rfl false rfl) ?_
  go_frame
  refine ls_ex (some 18) (.bool false) rfl rfl (exec_pick _ _ _ rfl false rfl (.bool false) rfl) ?_
  go_frame
  refine ls_ex (some 12) (.bool false) rfl rfl (exec_assign _ rfl (.bool false) rfl) ?_
  go_frame
  refine wpList_nil ?_
  go_upto_region 4 with (fail)
  refine wp_region_lit ?_
  refine ls_ex (some 20) (.int .i64 0) rfl rfl (exec_move _ rfl (.int .i64 0) rfl) ?_
  go_frame
  refine ls_ex (some 21) (.bool false) rfl rfl (exec_neq _ _ _ _ rfl 0 0 rfl rfl false rfl) ?_
  go_frame
  refine ls_ex (some 22) (.bool false) rfl rfl (exec_move _ rfl (.bool false) rfl) ?_
  go_frame
  refine ls_ex_g (some 23) (.int .i64 0) rfl rfl (exec_move _ rfl (.int .i64 0) rfl) ?_
  go_frame
  refine ls_ex_g (some 24) (.bool false) rfl rfl (exec_neq _ _ _ _ rfl 0 0 rfl rfl false rfl) ?_
  go_frame
  refine ls_ex (some 25) (.bool false) rfl rfl (exec_pick _ _ _ rfl false rfl (.bool false) rfl) ?_
  go_frame
  refine ls_ex (some 26) (.bool false) rfl rfl (exec_move _ rfl (.bool false) rfl) ?_
  go_frame
  refine ls_ex_g (some 27) (.pointer (some ⟨w.heap.size, 1, none⟩)) rfl rfl (exec_fieldAddr 30 _ 1 rfl _ (by kernel_rfl)) ?_
  go_frame
  refine ls_ex_g (some 28) (.int .i64 xn) rfl rfl (exec_load_one 2 _ rfl w.heap.size 1 rfl (.int .i64 xn) _ Try.underlying2 rfl (hz5.at_ 1)) ?_
  go_frame
  refine ls_ex_g (some 29) (.pointer (some ⟨Wz2.heap.size, 1, none⟩)) rfl rfl (exec_fieldAddr 30 _ 1 rfl _ (by kernel_rfl)) ?_
  go_frame
  refine ls_ex_g (some 30) (.int .i64 yn) rfl rfl (exec_load_one 2 _ rfl Wz2.heap.size 1 rfl (.int .i64 yn) _ Try.underlying2 rfl (hz11.at_ 1)) ?_
  go_frame
  refine ls_ex_g (some 31) (.bool false) rfl rfl (exec_neq _ _ _ _ rfl xn yn rfl rfl false He.out) ?_
  go_frame
  refine ls_ex (some 32) (.bool false) rfl rfl (exec_pick _ _ _ rfl false rfl (.bool false) rfl) ?_
  go_frame
  refine ls_ex (some 33) (.bool false) rfl rfl (exec_move _ rfl (.bool false) rfl) ?_
  go_frame
  refine ls_ex_g (some 34) (.pointer (some ⟨w.heap.size, 4, none⟩)) rfl rfl (exec_fieldAddr 30 _ 4 rfl _ (by kernel_rfl)) ?_
  go_frame
  refine ls_ex_g (some 35) (.slice xA xq.length xc) rfl rfl (exec_load_one 28 _ rfl w.heap.size 4 rfl (.slice xA xq.length xc) _ Try.underlying28 rfl (hz5.at_ 4)) ?_
  go_frame
  refine ls_ex_g (some 36) (.int .i64 xq.length) rfl rfl (exec_len _ 28 68 rfl xA xq.length xc rfl Try.underlying28) ?_
  go_frame
  refine ls_ex_g (some 37) (.bool false) rfl rfl (exec_eql _ _ _ _ rfl xq.length 0 rfl rfl false Hl.out) ?_
  go_frame
  refine ls_ex (some 38) (.bool false) rfl rfl (exec_pick _ _ _ rfl false rfl (.bool false) rfl) ?_
  go_frame
  refine ls_ex (some 39) (.bool false) rfl rfl (exec_move _ rfl (.bool false) rfl) ?_
  go_frame
  refine ls_ex_g (some 40) (.pointer (some ⟨Wz2.heap.size, 4, none⟩)) rfl rfl (exec_fieldAddr 30 _ 4 rfl _ (by kernel_rfl)) ?_
  go_frame
  refine ls_ex_g (some 41) (.slice yA yq.length yc) rfl rfl (exec_load_one 28 _ rfl Wz2.heap.size 4 rfl (.slice yA yq.length yc) _ Try.underlying28 rfl (hz11.at_ 4)) ?_
  go_frame
  refine ls_ex_g (some 42) (.int .i64 yq.length) rfl rfl (exec_len _ 28 68 rfl yA yq.length yc rfl Try.underlying28) ?_
  go_frame
  refine ls_ex_g (some 43) (.bool false) rfl rfl (exec_eql _ _ _ _ rfl yq.length 0 rfl rfl false Hm.out) ?_
  go_frame
  refine ls_ex (some 44) (.bool false) rfl rfl (exec_pick _ _ _ rfl false rfl (.bool false) rfl) ?_
  go_frame
  refine ls_ex (some 19) (.bool false) rfl rfl (exec_assign _ rfl (.bool false) rfl) ?_
  go_frame
  refine wpList_nil ?_
  go_upto_region 6 with (fail)
  refine wp_region_lit ?_
  refine ls_ex (some 46) (.pointer (some ⟨w.heap.size, 4, none⟩)) rfl rfl (exec_fieldAddr 30 _ 4 rfl _ (by kernel_rfl)) ?_
  go_frame
  refine ls_ex (some 47) (.slice xA xq.length xc) rfl rfl (exec_load_one 28 _ rfl w.heap.size 4 rfl (.slice xA xq.length xc) _ Try.underlying28 rfl (hz5.at_ 4)) ?_
  go_frame
  refine ls_ex (some 48) (.int .i64 xq.length) rfl rfl (exec_len _ 28 68 rfl xA xq.length xc rfl Try.underlying28) ?_
  go_frame
  refine ls_ex (some 49) (.pointer (some ⟨Wz2.heap.size, 4, none⟩)) rfl rfl (exec_fieldAddr 30 _ 4 rfl _ (by kernel_rfl)) ?_
  go_frame
  refine ls_ex (some 50) (.slice yA yq.length yc) rfl rfl (exec_load_one 28 _ rfl Wz2.heap.size 4 rfl (.slice yA yq.length yc) _ Try.underlying28 rfl (hz11.at_ 4)) ?_
  go_frame
  refine ls_ex (some 51) (.int .i64 yq.length) rfl rfl (exec_len _ 28 68 rfl yA yq.length yc rfl Try.underlying28) ?_
  go_frame
  refine ls_ex (some 52) (.bool false) rfl rfl (exec_lss _ _ _ _ rfl xq.length yq.length rfl rfl false H8.out) ?_
  go_frame
  refine ls_ex (some 45) (.bool false) rfl rfl (exec_assign _ rfl (.bool false) rfl) ?_
  go_frame
  refine wpList_nil ?_
  go_upto_region 8 with (fail)
  refine wp_region_lit ?_
  refine ls_ex (some 54) (.pointer (some ⟨w.heap.size, 4, none⟩)) rfl rfl (exec_fieldAddr 30 _ 4 rfl _ (by kernel_rfl)) ?_
  go_frame
  refine ls_ex (some 55) (.slice xA xq.length xc) rfl rfl (exec_load_one 28 _ rfl w.heap.size 4 rfl (.slice xA xq.length xc) _ Try.underlying28 rfl (hz5.at_ 4)) ?_
  go_frame
  refine ls_ex (some 56) (.int .i64 xq.length) rfl rfl (exec_len _ 28 68 rfl xA xq.length xc rfl Try.underlying28) ?_
  go_frame
  refine ls_ex (some 57) (.pointer (some ⟨Wz2.heap.size, 4, none⟩)) rfl rfl (exec_fieldAddr 30 _ 4 rfl _ (by kernel_rfl)) ?_
  go_frame
  refine ls_ex (some 58) (.slice yA yq.length yc) rfl rfl (exec_load_one 28 _ rfl Wz2.heap.size 4 rfl (.slice yA yq.length yc) _ Try.underlying28 rfl (hz11.at_ 4)) ?_
  go_frame
  refine ls_ex (some 59) (.int .i64 yq.length) rfl rfl (exec_len _ 28 68 rfl yA yq.length yc rfl Try.underlying28) ?_
  go_frame
  refine ls_ex (some 60) (.bool false) rfl rfl (exec_gtr _ _ _ _ rfl xq.length yq.length rfl rfl false H9.out) ?_
  go_frame
  refine ls_ex (some 53) (.bool false) rfl rfl (exec_assign _ rfl (.bool false) rfl) ?_
  go_frame
  refine wpList_nil ?_
  go_upto_region 10 with (fail)
  refine wp_region_lit ?_
  refine ls_ex (some 4) (.int .i64 0) rfl rfl (exec_assign _ rfl (.int .i64 0) rfl) ?_
  go_frame
  refine ls_ex (some 5) (.int .i64 0) rfl rfl (exec_assign _ rfl (.int .i64 0) rfl) ?_
  go_frame
  refine wpList_nil ?_
  go_wp2_with fail
  go_ret2
  exact ⟨by rw [Hr.out, Hc.out]; rfl, hB⟩
theorem specCompareExponents_c (xp xn xm xk : Int) (xA : Option Addr) (xc : Nat) (xq : List (List Nat)) (yp yn ym yk : Int) (yA : Option Addr) (yc : Nat) (yq : List (List Nat)) (w : World) (hX : Rd w xA xq) (hlx : xq.length ≤ 1048576) (hY : Rd w yA yq) (hly : yq.length ≤ 1048576) : Calls Try.prog 16 #[.agg #[.int .i64 xp, .int .i64 xn, .int .i64 xm, .int .i64 xk, .slice xA xq.length xc], .agg #[.int .i64 yp, .int .i64 yn, .int .i64 ym, .int .i64 yk, .slice yA yq.length yc]] w (fun e w' => e = .returned (.tuple #[.int .i64 (ceR xp xn xm xk xq yp yn ym yk yq), .int .i64 (ceCode xp xn xm xk xq yp yn ym yk yq)]) ∧ Below w.heap.size w w') := by
  by_cases hx1 : sqCode xp xn xm xk xq true = 1
  · exact specCe_1 xp xn xm xk xA xc xq yp yn ym yk yA yc yq w hX hlx hY hly hx1
  · by_cases hy1 : sqCode yp yn ym yk yq true = 1
    · exact specCe_2 xp xn xm xk xA xc xq yp yn ym yk yA yc yq w hX hlx hY hly hx1 hy1
    · by_cases hx0 : sqCode xp xn xm xk xq true = 0
      · by_cases hy0 : sqCode yp yn ym yk yq true = 0
        · cases he : (xn != yn) with
          | true => exact specCe_5 xp xn xm xk xA xc xq yp yn ym yk yA yc yq w hX hlx hY hly hx0 hy0 he
          | false =>
            by_cases hl : 0 < xq.length
            · by_cases hm : 0 < yq.length
              · rcases Nat.lt_trichotomy xq.length yq.length with h | h | h
                · exact specCe_8 xp xn xm xk xA xc xq yp yn ym yk yA yc yq w hX hlx hY hly hx0 hy0 he hl hm h
                · exact specCe_t xp xn xm xk xA xc xq yp yn ym yk yA yc yq w hX hlx hY hly hx0 hy0 he hl hm (by omega) (by omega)
                · exact specCe_9 xp xn xm xk xA xc xq yp yn ym yk yA yc yq w hX hlx hY hly hx0 hy0 he hl hm h
              · exact specCe_7 xp xn xm xk xA xc xq yp yn ym yk yA yc yq w hX hlx hY hly hx0 hy0 he hl (by omega)
            · exact specCe_6 xp xn xm xk xA xc xq yp yn ym yk yA yc yq w hX hlx hY hly hx0 hy0 he (by omega)
        · exact specCe_4 xp xn xm xk xA xc xq yp yn ym yk yA yc yq w hX hlx hY hly hx0 hy1 hy0
      · exact specCe_3 xp xn xm xk xA xc xq yp yn ym yk yA yc yq w hX hlx hY hly hx1 hy1 hx0
end Go.Proofs.Ytphccbilldfdpaa
