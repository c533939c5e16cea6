/-
  Desks: toDesk, szDesk, eqDesk; IsDesk of spec and impl. (Made by mkdk.py.)
-/
import Derived.Test.YtgjcfgieecamdaaImplIs
import Derived.Test.YtgjcfgieecamdaaSx
namespace Go.Proofs.Ytgjcfgieecamdaa
open Go.RowKit
set_option maxRecDepth 100000
attribute [local irreducible] wpList
/-- A store of an aggregate into a part of a block. -/
theorem wp_store_lit {P : Program} {o : Oper} {a : Act} {w : World} {K : Act → World → Prop} {Q : Exit → Act → World → Prop} (ty : TypeId) (x y : Operand) (ho : o.op = .store ty x y) (hdst : o.dst = none) (g off : Nat) (hx : a.eval x = .pointer (some ⟨g, off, none⟩)) (vs : Array Value) (hy : a.eval y = .agg vs)
    (t : TypeId) (cs : Array Value) (hg : At w g (.cells cs t (0, 0))) (n : Nat) (hi : (P.info? ty).map (·.size) = some n) (hn : vs.size = n) (hl : off + vs.size ≤ cs.size) (h1 : ∀ v ∈ vs.toList, v.oneCell' = true)
    (new : Array Value) (hnew : splice cs off vs = new) (h : ∀ w', Put w w' g (.cells new t (0, 0)) → K a w') : Oper.wp P o a w K Q := by
  have hs := run_storeVar_part (P := P) w g off t ty cs vs hg (by rw [hn]; exact hi) hl h1
  rw [hnew] at hs
  unfold Oper.wp execOp
  simp only [ho, hx, hy, Instr.storeAt, Instr.sureAddr, Sem.run_bind, Sem.run_pure, Result.andThen_ok, hs]
  simp only [Oper.upon, hdst, Act.put]
  exact h _ ⟨setRow_heap _ _ _ _ _ _ hg, fun h' hk => (setRow_other _ _ _ _ hk).trans h', fun hs => (setRow_size _ _ _).trans hs, fun hb hB => below_setRow' hb hB _⟩
theorem al_impl_Desk {o : Oper} {a : Act} {w : World} (ho : o.op = .alloc 42) : (execOp a.eval o).run Try.prog w = .ok (.value (.pointer (some ⟨w.heap.size, 0, none⟩))) (w.alloc (.cells #[.int .i64 0, .int .i64 0, .int .i64 0, .int .i64 0, .slice none 0 0, .int .i64 0, .int .i64 0, .int .i64 0, .int .i64 0, .slice none 0 0] 42 (0, 0))) := by
  unfold execOp
  rw [ho]
  kernel_rfl
set_option maxHeartbeats 4000000 in
theorem toDesk_c (xp xn xm xk : Int) (xA : Option Addr) (xc : Nat) (xq : List (List Nat)) (yp yn ym yk : Int) (yA : Option Addr) (yc : Nat) (yq : List (List Nat)) (w : World) (hrx : Rd w xA xq) (hnx : xq.length ≤ 1048576) (hry : Rd w yA yq) (hny : yq.length ≤ 1048576) :
    Calls Try.prog 17 #[.agg #[.int .i64 xp, .int .i64 xn, .int .i64 xm, .int .i64 xk, .slice xA xq.length xc, .int .i64 yp, .int .i64 yn, .int .i64 ym, .int .i64 yk, .slice yA yq.length yc]] w (fun e w' => ∃ B C : Option Addr, e = .returned (.agg #[.int .i64 xp, .int .i64 xn, .int .i64 xm, .int .i64 xk, .slice B xq.length xq.length, .int .i64 yp, .int .i64 yn, .int .i64 ym, .int .i64 yk, .slice C yq.length yq.length]) ∧ Rd w' B xq ∧ Rd w' C yq ∧ Below w.heap.size w w') := by
  have hB := Below.refl w.heap.size w
  skip
  go_enter Try.func17, Try.ntmps17
  go_upto_region 0 with (fail)
  refine wp_region_lit ?_
  refine ls_op rfl (fun K' hK' => ?_)
  have lz1 := hB.size
  refine wp_new (some 1) rfl (exec_box 38 _ rfl (#[.int .i64 xp, .int .i64 xn, .int .i64 xm, .int .i64 xk, .slice xA xq.length xc, .int .i64 yp, .int .i64 yn, .int .i64 ym, .int .i64 yk, .slice yA yq.length yc]) rfl) (fun Wz2 nnz3 => ?_)
  have bz4 := nnz3.below (Below.refl _ _) (Nat.le_refl _)
  replace hB := below_after hB bz4
  have hz5 : At Wz2 w.heap.size (.cells #[.int .i64 xp, .int .i64 xn, .int .i64 xm, .int .i64 xk, .slice xA xq.length xc, .int .i64 yp, .int .i64 yn, .int .i64 ym, .int .i64 yk, .slice yA yq.length yc] 38 (0, 0)) := nnz3.at_
  refine hK' _ _ ?_
  clear hK' K' nnz3 bz4
  go_frame
  refine ls_op rfl (fun K' hK' => ?_)
  have lz6 := hB.size
  have lz7 := hz5.lt
  refine wp_new (some 2) rfl (al_impl_Desk rfl) (fun Wz8 nnz9 => ?_)
  have bz10 := nnz9.below (Below.refl _ _) (Nat.le_refl _)
  replace hB := below_after hB bz10
  replace hz5 := hz5.after bz10
  have hz11 : At Wz8 Wz2.heap.size (.cells #[.int .i64 0, .int .i64 0, .int .i64 0, .int .i64 0, .slice none 0 0, .int .i64 0, .int .i64 0, .int .i64 0, .int .i64 0, .slice none 0 0] 42 (0, 0)) := nnz9.at_
  refine hK' _ _ ?_
  clear hK' K' nnz9 bz10
  go_frame
  refine wpList_nil ?_
  go_upto_region 1 with (fail)
  refine wp_region_lit ?_
  refine ls_op rfl (fun K' hK' => ?_)
  have lz12 := hB.size
  have lz13 := hz5.lt
  have lz14 := hz11.lt
  refine wp_new (some 3) rfl (al_impl_Desk rfl) (fun Wz15 nnz16 => ?_)
  have bz17 := nnz16.below (Below.refl _ _) (Nat.le_refl _)
  replace hB := below_after hB bz17
  replace hz5 := hz5.after bz17
  replace hz11 := hz11.after bz17
  have hz18 : At Wz15 Wz8.heap.size (.cells #[.int .i64 0, .int .i64 0, .int .i64 0, .int .i64 0, .slice none 0 0, .int .i64 0, .int .i64 0, .int .i64 0, .int .i64 0, .slice none 0 0] 42 (0, 0)) := nnz16.at_
  refine hK' _ _ ?_
  clear hK' K' nnz16 bz17
  go_frame
  refine wpList_nil ?_
  go_upto_region 2 with (fail)
  refine wp_region_lit ?_
  refine ls_ex (some 4) (.pointer (some ⟨w.heap.size, 0, none⟩)) rfl rfl (exec_fieldAddr 38 _ 0 rfl _ (by kernel_rfl)) ?_
  go_frame
  refine ls_ex (some 5) (.agg #[.int .i64 xp, .int .i64 xn, .int .i64 xm, .int .i64 xk, .slice xA xq.length xc]) rfl rfl (exec_load_lit 24 _ rfl w.heap.size 0 rfl _ _ _ 5 hz5 Try.underlying24 rfl (by kernel_rfl) (by simp) #[.int .i64 xp, .int .i64 xn, .int .i64 xm, .int .i64 xk, .slice xA xq.length xc] rfl) ?_
  go_frame
  refine ls_op rfl (fun K' hK' => ?_)
  have lz21 := hB.size
  have lz22 := hz5.lt
  have lz23 := hz11.lt
  have lz24 := hz18.lt
  refine wp_call1 (some 6) rfl 8 _ _ rfl (fun args w => by kernel_rfl) _ rfl _ (toScheme_c xp xn xm xk xA xc xq _ (hrx.keep hB) hnx) (fun e Wz19 h => ?_)
  obtain ⟨gx, rfl, hgx, hAx, bz20⟩ := h
  replace hB := below_after hB bz20
  replace hz5 := hz5.after bz20
  replace hz11 := hz11.after bz20
  replace hz18 := hz18.after bz20
  clear bz20
  refine ⟨_, rfl, ?_⟩
  refine hK' _ _ ?_
  clear hK' K'
  go_frame
  refine ls_ex (some 7) (.pointer (some ⟨Wz8.heap.size, 0, none⟩)) rfl rfl (exec_fieldAddr 42 _ 0 rfl _ (by kernel_rfl)) ?_
  go_frame
  refine ls_op rfl (fun K' hK' => ?_)
  refine wp_store_lit 29 _ _ rfl rfl Wz8.heap.size 0 rfl #[.int .i64 xp, .int .i64 xn, .int .i64 xm, .int .i64 xk, .slice (some ⟨gx, 0, none⟩) xq.length xq.length] rfl _ _ hz18 5 (by kernel_rfl) rfl (by simp) (one5 _ _ _ _ _ _ _) #[.int .i64 xp, .int .i64 xn, .int .i64 xm, .int .i64 xk, .slice (some ⟨gx, 0, none⟩) xq.length xq.length, .int .i64 0, .int .i64 0, .int .i64 0, .int .i64 0, .slice none 0 0] rfl (fun Wz25 pz26 => ?_)
  replace hB := pz26.below hB (by omega)
  replace hz5 := pz26.other hz5 (by omega)
  replace hz11 := pz26.other hz11 (by omega)
  replace hAx := pz26.other hAx (by omega)
  replace hz18 : At Wz25 Wz8.heap.size (.cells #[.int .i64 xp, .int .i64 xn, .int .i64 xm, .int .i64 xk, .slice (some ⟨gx, 0, none⟩) xq.length xq.length, .int .i64 0, .int .i64 0, .int .i64 0, .int .i64 0, .slice none 0 0] 42 (0, 0)) := pz26.at_
  refine hK' _ _ ?_
  clear hK' K' pz26
  refine wpList_nil ?_
  go_upto_region 3 with (fail)
  refine wp_region_lit ?_
  refine ls_ex (some 8) (.pointer (some ⟨w.heap.size, 5, none⟩)) rfl rfl (exec_fieldAddr 38 _ 1 rfl _ (by kernel_rfl)) ?_
  go_frame
  refine ls_ex (some 9) (.agg #[.int .i64 yp, .int .i64 yn, .int .i64 ym, .int .i64 yk, .slice yA yq.length yc]) rfl rfl (exec_load_lit 24 _ rfl w.heap.size 5 rfl _ _ _ 5 hz5 Try.underlying24 rfl (by kernel_rfl) (by simp) #[.int .i64 yp, .int .i64 yn, .int .i64 ym, .int .i64 yk, .slice yA yq.length yc] rfl) ?_
  go_frame
  refine ls_op rfl (fun K' hK' => ?_)
  have lz29 := hB.size
  have lz30 := hz5.lt
  have lz31 := hz11.lt
  have lz32 := hz18.lt
  have lz33 := hAx.lt
  refine wp_call1 (some 10) rfl 8 _ _ rfl (fun args w => by kernel_rfl) _ rfl _ (toScheme_c yp yn ym yk yA yc yq _ (hry.keep hB) hny) (fun e Wz27 h => ?_)
  obtain ⟨gy, rfl, hgy, hAy, bz28⟩ := h
  replace hB := below_after hB bz28
  replace hz5 := hz5.after bz28
  replace hz11 := hz11.after bz28
  replace hz18 := hz18.after bz28
  replace hAx := hAx.after bz28
  clear bz28
  refine ⟨_, rfl, ?_⟩
  refine hK' _ _ ?_
  clear hK' K'
  go_frame
  refine ls_ex (some 11) (.pointer (some ⟨Wz8.heap.size, 5, none⟩)) rfl rfl (exec_fieldAddr 42 _ 1 rfl _ (by kernel_rfl)) ?_
  go_frame
  refine ls_op rfl (fun K' hK' => ?_)
  refine wp_store_lit 29 _ _ rfl rfl Wz8.heap.size 5 rfl #[.int .i64 yp, .int .i64 yn, .int .i64 ym, .int .i64 yk, .slice (some ⟨gy, 0, none⟩) yq.length yq.length] rfl _ _ hz18 5 (by kernel_rfl) rfl (by simp) (one5 _ _ _ _ _ _ _) #[.int .i64 xp, .int .i64 xn, .int .i64 xm, .int .i64 xk, .slice (some ⟨gx, 0, none⟩) xq.length xq.length, .int .i64 yp, .int .i64 yn, .int .i64 ym, .int .i64 yk, .slice (some ⟨gy, 0, none⟩) yq.length yq.length] rfl (fun Wz34 pz35 => ?_)
  replace hB := pz35.below hB (by omega)
  replace hz5 := pz35.other hz5 (by omega)
  replace hz11 := pz35.other hz11 (by omega)
  replace hAx := pz35.other hAx (by omega)
  replace hAy := pz35.other hAy (by omega)
  replace hz18 : At Wz34 Wz8.heap.size (.cells #[.int .i64 xp, .int .i64 xn, .int .i64 xm, .int .i64 xk, .slice (some ⟨gx, 0, none⟩) xq.length xq.length, .int .i64 yp, .int .i64 yn, .int .i64 ym, .int .i64 yk, .slice (some ⟨gy, 0, none⟩) yq.length yq.length] 42 (0, 0)) := pz35.at_
  refine hK' _ _ ?_
  clear hK' K' pz35
  refine wpList_nil ?_
  go_upto_region 4 with (fail)
  refine wp_region_lit ?_
  refine ls_ex (some 12) (.agg #[.int .i64 xp, .int .i64 xn, .int .i64 xm, .int .i64 xk, .slice (some ⟨gx, 0, none⟩) xq.length xq.length, .int .i64 yp, .int .i64 yn, .int .i64 ym, .int .i64 yk, .slice (some ⟨gy, 0, none⟩) yq.length yq.length]) rfl rfl (exec_load_all 42 _ rfl Wz8.heap.size rfl _ _ _ hz18 Try.underlying42 rfl 10 (by kernel_rfl) rfl) ?_
  go_frame
  refine ls_op rfl (fun K' hK' => ?_)
  refine wp_store_all 42 _ _ rfl rfl Wz2.heap.size rfl #[.int .i64 xp, .int .i64 xn, .int .i64 xm, .int .i64 xk, .slice (some ⟨gx, 0, none⟩) xq.length xq.length, .int .i64 yp, .int .i64 yn, .int .i64 ym, .int .i64 yk, .slice (some ⟨gy, 0, none⟩) yq.length yq.length] rfl _ _ hz11 10 (by kernel_rfl) rfl rfl (by intro x hx; simp at hx; rcases hx with rfl | rfl | rfl | rfl | rfl | rfl | rfl | rfl | rfl | rfl <;> rfl) (fun Wz36 pz37 => ?_)
  replace hB := pz37.below hB (by omega)
  replace hz5 := pz37.other hz5 (by omega)
  replace hz18 := pz37.other hz18 (by omega)
  replace hAx := pz37.other hAx (by omega)
  replace hAy := pz37.other hAy (by omega)
  replace hz11 : At Wz36 Wz2.heap.size (.cells #[.int .i64 xp, .int .i64 xn, .int .i64 xm, .int .i64 xk, .slice (some ⟨gx, 0, none⟩) xq.length xq.length, .int .i64 yp, .int .i64 yn, .int .i64 ym, .int .i64 yk, .slice (some ⟨gy, 0, none⟩) yq.length yq.length] 42 (0, 0)) := pz37.at_
  refine hK' _ _ ?_
  clear hK' K' pz37
  refine wpList_nil ?_
  go_wp2_with fail
  refine bodyPost_ret (results_at rfl _ _ Wz2.heap.size _ _ _ rfl hz11 Try.underlying42 rfl 10 (by kernel_rfl) rfl) rfl ?_
  exact ⟨_, _, rfl, Rd.of_at hAx hrx.good, Rd.of_at hAy hry.good, hB⟩
/-- What szDesk leaves of 1048576. -/
def szD (a b : Nat) : Int := if 1048576 < a then -1 else if 1048576 < a + b then -1 else 1048576 - a - b
set_option maxHeartbeats 4000000 in
theorem szDesk_a (xp xn xm xk : Int) (xA : Option Addr) (xc : Nat) (xq : List (List Nat)) (yp yn ym yk : Int) (yA : Option Addr) (yc : Nat) (yq : List (List Nat)) (w : World) (hnx : xq.length ≤ 9223372036854775807) (hny : yq.length ≤ 9223372036854775807) (h : 1048576 < xq.length) :
    Calls Try.prog 15 #[.agg #[.int .i64 xp, .int .i64 xn, .int .i64 xm, .int .i64 xk, .slice xA xq.length xc, .int .i64 yp, .int .i64 yn, .int .i64 ym, .int .i64 yk, .slice yA yq.length yc], .int .i64 1048576] w (fun e w' => e = .returned (.int .i64 (szD xq.length yq.length)) ∧ Below w.heap.size w w') := by
  have hB := Below.refl w.heap.size w
  have _u0 := hnx
  have _u1 := hny
  clear _u0 _u1
  have HX : Hid ((if (1048576 : Int) < (xq.length : Int) then (-1 : Int) else 1048576 - xq.length) = -1) := Lib.hid (if_pos (by omega))
  have HV : Hid (szD xq.length yq.length = -1) := Lib.hid (by simp [szD, h])
  go_enter Try.func15, Try.ntmps15
  go_upto_region 0 with (fail)
  refine wp_region_lit ?_
  refine ls_op rfl (fun K' hK' => ?_)
  have lz1 := hB.size
  refine wp_new (some 2) rfl (exec_box 38 _ rfl (#[.int .i64 xp, .int .i64 xn, .int .i64 xm, .int .i64 xk, .slice xA xq.length xc, .int .i64 yp, .int .i64 yn, .int .i64 ym, .int .i64 yk, .slice yA yq.length yc]) rfl) (fun Wz2 nnz3 => ?_)
  have bz4 := nnz3.below (Below.refl _ _) (Nat.le_refl _)
  replace hB := below_after hB bz4
  have hz5 : At Wz2 w.heap.size (.cells #[.int .i64 xp, .int .i64 xn, .int .i64 xm, .int .i64 xk, .slice xA xq.length xc, .int .i64 yp, .int .i64 yn, .int .i64 ym, .int .i64 yk, .slice yA yq.length yc] 38 (0, 0)) := nnz3.at_
  refine hK' _ _ ?_
  clear hK' K' nnz3 bz4
  go_frame
  refine ls_ex (some 4) (.int .i64 0) rfl rfl (exec_assign _ rfl (.int .i64 0) rfl) ?_
  go_frame
  refine wpList_nil ?_
  go_upto_region 1 with (fail)
  refine wp_region_lit ?_
  refine ls_ex (some 5) (.pointer (some ⟨w.heap.size, 0, none⟩)) rfl rfl (exec_fieldAddr 38 _ 0 rfl _ (by kernel_rfl)) ?_
  go_frame
  refine ls_ex (some 6) (.agg #[.int .i64 xp, .int .i64 xn, .int .i64 xm, .int .i64 xk, .slice xA xq.length xc]) rfl rfl (exec_load_lit 24 _ rfl w.heap.size 0 rfl _ _ _ 5 hz5 Try.underlying24 rfl (by kernel_rfl) (by simp) #[.int .i64 xp, .int .i64 xn, .int .i64 xm, .int .i64 xk, .slice xA xq.length xc] rfl) ?_
  go_frame
  refine ls_ex (some 7) (.int .i64 1048576) rfl rfl (exec_move _ rfl (.int .i64 1048576) rfl) ?_
  go_frame
  refine ls_op rfl (fun K' hK' => ?_)
  have lz8 := hB.size
  have lz9 := hz5.lt
  refine wp_call2 (some 8) rfl 6 _ _ _ rfl (fun args w => by kernel_rfl) _ _ rfl rfl _ (szScheme_c xp xn xm xk xA xq.length xc 1048576 _ (by omega) hnx (by omega)) (fun e Wz6 h => ?_)
  obtain ⟨rfl, bz7⟩ := h
  replace hB := below_after hB bz7
  replace hz5 := hz5.after bz7
  rw [HX.out]
  clear bz7
  refine ⟨_, rfl, ?_⟩
  refine hK' _ _ ?_
  clear hK' K'
  go_frame
  refine ls_ex (some 1) (.int .i64 (-1)) rfl rfl (exec_assign _ rfl (.int .i64 (-1)) rfl) ?_
  go_frame
  refine wpList_nil ?_
  go_upto_region 2 with (fail)
  refine wp_region_lit ?_
  refine ls_ex (some 9) (.int .i64 (-1)) rfl rfl (exec_move _ rfl (.int .i64 (-1)) rfl) ?_
  go_frame
  refine ls_ex (some 10) (.bool true) rfl rfl (exec_lss _ _ _ _ rfl ((-1)) 0 rfl rfl true rfl) ?_
  go_frame
  refine wpList_nil ?_
  go_upto_region 3 with (fail)
  refine wp_region_lit ?_
  refine ls_ex (some 4) (.int .i64 (-1)) rfl rfl (exec_assign _ rfl (.int .i64 (-1)) rfl) ?_
  go_frame
  refine wpList_nil ?_
  go_wp2_with fail
  go_ret
  exact ⟨by rw [HV.out]; rfl, hB⟩
set_option maxHeartbeats 4000000 in
theorem szDesk_b (xp xn xm xk : Int) (xA : Option Addr) (xc : Nat) (xq : List (List Nat)) (yp yn ym yk : Int) (yA : Option Addr) (yc : Nat) (yq : List (List Nat)) (w : World) (hnx : xq.length ≤ 9223372036854775807) (hny : yq.length ≤ 9223372036854775807) (h0 : xq.length ≤ 1048576) (h : 1048576 < xq.length + yq.length) :
    Calls Try.prog 15 #[.agg #[.int .i64 xp, .int .i64 xn, .int .i64 xm, .int .i64 xk, .slice xA xq.length xc, .int .i64 yp, .int .i64 yn, .int .i64 ym, .int .i64 yk, .slice yA yq.length yc], .int .i64 1048576] w (fun e w' => e = .returned (.int .i64 (szD xq.length yq.length)) ∧ Below w.heap.size w w') := by
  have hB := Below.refl w.heap.size w
  have _u0 := hnx
  have _u1 := hny
  clear _u0 _u1
  have HX : Hid ((if (1048576 : Int) < (xq.length : Int) then (-1 : Int) else 1048576 - xq.length) = 1048576 - (xq.length : Int)) := Lib.hid (if_neg (by omega))
  have HY : Hid ((if (1048576 - (xq.length : Int)) < (yq.length : Int) then (-1 : Int) else (1048576 - (xq.length : Int)) - yq.length) = -1) := Lib.hid (if_pos (by omega))
  have HV : Hid (szD xq.length yq.length = -1) := Lib.hid (by simp [szD, h])
  go_enter Try.func15, Try.ntmps15
  go_upto_region 0 with (fail)
  refine wp_region_lit ?_
  refine ls_op rfl (fun K' hK' => ?_)
  have lz1 := hB.size
  refine wp_new (some 2) rfl (exec_box 38 _ rfl (#[.int .i64 xp, .int .i64 xn, .int .i64 xm, .int .i64 xk, .slice xA xq.length xc, .int .i64 yp, .int .i64 yn, .int .i64 ym, .int .i64 yk, .slice yA yq.length yc]) rfl) (fun Wz2 nnz3 => ?_)
  have bz4 := nnz3.below (Below.refl _ _) (Nat.le_refl _)
  replace hB := below_after hB bz4
  have hz5 : At Wz2 w.heap.size (.cells #[.int .i64 xp, .int .i64 xn, .int .i64 xm, .int .i64 xk, .slice xA xq.length xc, .int .i64 yp, .int .i64 yn, .int .i64 ym, .int .i64 yk, .slice yA yq.length yc] 38 (0, 0)) := nnz3.at_
  refine hK' _ _ ?_
  clear hK' K' nnz3 bz4
  go_frame
  refine ls_ex (some 4) (.int .i64 0) rfl rfl (exec_assign _ rfl (.int .i64 0) rfl) ?_
  go_frame
  refine wpList_nil ?_
  go_upto_region 1 with (fail)
  refine wp_region_lit ?_
  refine ls_ex (some 5) (.pointer (some ⟨w.heap.size, 0, none⟩)) rfl rfl (exec_fieldAddr 38 _ 0 rfl _ (by kernel_rfl)) ?_
  go_frame
  refine ls_ex (some 6) (.agg #[.int .i64 xp, .int .i64 xn, .int .i64 xm, .int .i64 xk, .slice xA xq.length xc]) rfl rfl (exec_load_lit 24 _ rfl w.heap.size 0 rfl _ _ _ 5 hz5 Try.underlying24 rfl (by kernel_rfl) (by simp) #[.int .i64 xp, .int .i64 xn, .int .i64 xm, .int .i64 xk, .slice xA xq.length xc] rfl) ?_
  go_frame
  refine ls_ex (some 7) (.int .i64 1048576) rfl rfl (exec_move _ rfl (.int .i64 1048576) rfl) ?_
  go_frame
  refine ls_op rfl (fun K' hK' => ?_)
  have lz8 := hB.size
  have lz9 := hz5.lt
  refine wp_call2 (some 8) rfl 6 _ _ _ rfl (fun args w => by kernel_rfl) _ _ rfl rfl _ (szScheme_c xp xn xm xk xA xq.length xc 1048576 _ (by omega) hnx (by omega)) (fun e Wz6 h => ?_)
  obtain ⟨rfl, bz7⟩ := h
  replace hB := below_after hB bz7
  replace hz5 := hz5.after bz7
  rw [HX.out]
  clear bz7
  refine ⟨_, rfl, ?_⟩
  refine hK' _ _ ?_
  clear hK' K'
  go_frame
  refine ls_ex (some 1) (.int .i64 (1048576 - (xq.length : Int))) rfl rfl (exec_assign _ rfl (.int .i64 (1048576 - (xq.length : Int))) rfl) ?_
  go_frame
  refine wpList_nil ?_
  go_upto_region 2 with (fail)
  refine wp_region_lit ?_
  refine ls_ex (some 9) (.int .i64 (1048576 - (xq.length : Int))) rfl rfl (exec_move _ rfl (.int .i64 (1048576 - (xq.length : Int))) rfl) ?_
  go_frame
  refine ls_ex (some 10) (.bool false) rfl rfl (exec_lss _ _ _ _ rfl ((1048576 - (xq.length : Int))) 0 rfl rfl false (decide_eq_false (by omega))) ?_
  go_frame
  refine wpList_nil ?_
  go_upto_region 4 with (fail)
  refine wp_region_lit ?_
  refine ls_ex (some 11) (.pointer (some ⟨w.heap.size, 5, none⟩)) rfl rfl (exec_fieldAddr 38 _ 1 rfl _ (by kernel_rfl)) ?_
  go_frame
  refine ls_ex (some 12) (.agg #[.int .i64 yp, .int .i64 yn, .int .i64 ym, .int .i64 yk, .slice yA yq.length yc]) rfl rfl (exec_load_lit 24 _ rfl w.heap.size 5 rfl _ _ _ 5 hz5 Try.underlying24 rfl (by kernel_rfl) (by simp) #[.int .i64 yp, .int .i64 yn, .int .i64 ym, .int .i64 yk, .slice yA yq.length yc] rfl) ?_
  go_frame
  refine ls_ex (some 13) (.int .i64 (1048576 - (xq.length : Int))) rfl rfl (exec_move _ rfl (.int .i64 (1048576 - (xq.length : Int))) rfl) ?_
  go_frame
  refine ls_op rfl (fun K' hK' => ?_)
  have lz12 := hB.size
  have lz13 := hz5.lt
  refine wp_call2 (some 14) rfl 6 _ _ _ rfl (fun args w => by kernel_rfl) _ _ rfl rfl _ (szScheme_c yp yn ym yk yA yq.length yc ((1048576 - (xq.length : Int))) _ (by omega) hny (by omega)) (fun e Wz10 h => ?_)
  obtain ⟨rfl, bz11⟩ := h
  replace hB := below_after hB bz11
  replace hz5 := hz5.after bz11
  rw [HY.out]
  clear bz11
  refine ⟨_, rfl, ?_⟩
  refine hK' _ _ ?_
  clear hK' K'
  go_frame
  refine ls_ex (some 1) (.int .i64 (-1)) rfl rfl (exec_assign _ rfl (.int .i64 (-1)) rfl) ?_
  go_frame
  refine wpList_nil ?_
  go_upto_region 5 with (fail)
  refine wp_region_lit ?_
  refine ls_ex (some 15) (.int .i64 (-1)) rfl rfl (exec_move _ rfl (.int .i64 (-1)) rfl) ?_
  go_frame
  refine ls_ex (some 16) (.bool true) rfl rfl (exec_lss _ _ _ _ rfl ((-1)) 0 rfl rfl true rfl) ?_
  go_frame
  refine wpList_nil ?_
  go_upto_region 6 with (fail)
  refine wp_region_lit ?_
  refine ls_ex (some 4) (.int .i64 (-1)) rfl rfl (exec_assign _ rfl (.int .i64 (-1)) rfl) ?_
  go_frame
  refine wpList_nil ?_
  go_wp2_with fail
  go_ret
  exact ⟨by rw [HV.out]; rfl, hB⟩
set_option maxHeartbeats 4000000 in
theorem szDesk_c' (xp xn xm xk : Int) (xA : Option Addr) (xc : Nat) (xq : List (List Nat)) (yp yn ym yk : Int) (yA : Option Addr) (yc : Nat) (yq : List (List Nat)) (w : World) (hnx : xq.length ≤ 9223372036854775807) (hny : yq.length ≤ 9223372036854775807) (h : xq.length + yq.length ≤ 1048576) :
    Calls Try.prog 15 #[.agg #[.int .i64 xp, .int .i64 xn, .int .i64 xm, .int .i64 xk, .slice xA xq.length xc, .int .i64 yp, .int .i64 yn, .int .i64 ym, .int .i64 yk, .slice yA yq.length yc], .int .i64 1048576] w (fun e w' => e = .returned (.int .i64 (szD xq.length yq.length)) ∧ Below w.heap.size w w') := by
  have hB := Below.refl w.heap.size w
  have _u0 := hnx
  have _u1 := hny
  clear _u0 _u1
  have HX : Hid ((if (1048576 : Int) < (xq.length : Int) then (-1 : Int) else 1048576 - xq.length) = 1048576 - (xq.length : Int)) := Lib.hid (if_neg (by omega))
  have HY : Hid ((if (1048576 - (xq.length : Int)) < (yq.length : Int) then (-1 : Int) else (1048576 - (xq.length : Int)) - yq.length) = (1048576 - (xq.length : Int)) - (yq.length : Int)) := Lib.hid (if_neg (by omega))
  have HV : Hid (szD xq.length yq.length = 1048576 - (xq.length : Int) - (yq.length : Int)) := Lib.hid (by unfold szD; rw [if_neg (by omega), if_neg (by omega)])
  go_enter Try.func15, Try.ntmps15
  go_upto_region 0 with (fail)
  refine wp_region_lit ?_
  refine ls_op rfl (fun K' hK' => ?_)
  have lz1 := hB.size
  refine wp_new (some 2) rfl (exec_box 38 _ rfl (#[.int .i64 xp, .int .i64 xn, .int .i64 xm, .int .i64 xk, .slice xA xq.length xc, .int .i64 yp, .int .i64 yn, .int .i64 ym, .int .i64 yk, .slice yA yq.length yc]) rfl) (fun Wz2 nnz3 => ?_)
  have bz4 := nnz3.below (Below.refl _ _) (Nat.le_refl _)
  replace hB := below_after hB bz4
  have hz5 : At Wz2 w.heap.size (.cells #[.int .i64 xp, .int .i64 xn, .int .i64 xm, .int .i64 xk, .slice xA xq.length xc, .int .i64 yp, .int .i64 yn, .int .i64 ym, .int .i64 yk, .slice yA yq.length yc] 38 (0, 0)) := nnz3.at_
  refine hK' _ _ ?_
  clear hK' K' nnz3 bz4
  go_frame
  refine ls_ex (some 4) (.int .i64 0) rfl rfl (exec_assign _ rfl (.int .i64 0) rfl) ?_
  go_frame
  refine wpList_nil ?_
  go_upto_region 1 with (fail)
  refine wp_region_lit ?_
  refine ls_ex (some 5) (.pointer (some ⟨w.heap.size, 0, none⟩)) rfl rfl (exec_fieldAddr 38 _ 0 rfl _ (by kernel_rfl)) ?_
  go_frame
  refine ls_ex (some 6) (.agg #[.int .i64 xp, .int .i64 xn, .int .i64 xm, .int .i64 xk, .slice xA xq.length xc]) rfl rfl (exec_load_lit 24 _ rfl w.heap.size 0 rfl _ _ _ 5 hz5 Try.underlying24 rfl (by kernel_rfl) (by simp) #[.int .i64 xp, .int .i64 xn, .int .i64 xm, .int .i64 xk, .slice xA xq.length xc] rfl) ?_
  go_frame
  refine ls_ex (some 7) (.int .i64 1048576) rfl rfl (exec_move _ rfl (.int .i64 1048576) rfl) ?_
  go_frame
  refine ls_op rfl (fun K' hK' => ?_)
  have lz8 := hB.size
  have lz9 := hz5.lt
  refine wp_call2 (some 8) rfl 6 _ _ _ rfl (fun args w => by kernel_rfl) _ _ rfl rfl _ (szScheme_c xp xn xm xk xA xq.length xc 1048576 _ (by omega) hnx (by omega)) (fun e Wz6 h => ?_)
  obtain ⟨rfl, bz7⟩ := h
  replace hB := below_after hB bz7
  replace hz5 := hz5.after bz7
  rw [HX.out]
  clear bz7
  refine ⟨_, rfl, ?_⟩
  refine hK' _ _ ?_
  clear hK' K'
  go_frame
  refine ls_ex (some 1) (.int .i64 (1048576 - (xq.length : Int))) rfl rfl (exec_assign _ rfl (.int .i64 (1048576 - (xq.length : Int))) rfl) ?_
  go_frame
  refine wpList_nil ?_
  go_upto_region 2 with (fail)
  refine wp_region_lit ?_
  refine ls_ex (some 9) (.int .i64 (1048576 - (xq.length : Int))) rfl rfl (exec_move _ rfl (.int .i64 (1048576 - (xq.length : Int))) rfl) ?_
  go_frame
  refine ls_ex (some 10) (.bool false) rfl rfl (exec_lss _ _ _ _ rfl ((1048576 - (xq.length : Int))) 0 rfl rfl false (decide_eq_false (by omega))) ?_
  go_frame
  refine wpList_nil ?_
  go_upto_region 4 with (fail)
  refine wp_region_lit ?_
  refine ls_ex (some 11) (.pointer (some ⟨w.heap.size, 5, none⟩)) rfl rfl (exec_fieldAddr 38 _ 1 rfl _ (by kernel_rfl)) ?_
  go_frame
  refine ls_ex (some 12) (.agg #[.int .i64 yp, .int .i64 yn, .int .i64 ym, .int .i64 yk, .slice yA yq.length yc]) rfl rfl (exec_load_lit 24 _ rfl w.heap.size 5 rfl _ _ _ 5 hz5 Try.underlying24 rfl (by kernel_rfl) (by simp) #[.int .i64 yp, .int .i64 yn, .int .i64 ym, .int .i64 yk, .slice yA yq.length yc] rfl) ?_
  go_frame
  refine ls_ex (some 13) (.int .i64 (1048576 - (xq.length : Int))) rfl rfl (exec_move _ rfl (.int .i64 (1048576 - (xq.length : Int))) rfl) ?_
  go_frame
  refine ls_op rfl (fun K' hK' => ?_)
  have lz12 := hB.size
  have lz13 := hz5.lt
  refine wp_call2 (some 14) rfl 6 _ _ _ rfl (fun args w => by kernel_rfl) _ _ rfl rfl _ (szScheme_c yp yn ym yk yA yq.length yc ((1048576 - (xq.length : Int))) _ (by omega) hny (by omega)) (fun e Wz10 h => ?_)
  obtain ⟨rfl, bz11⟩ := h
  replace hB := below_after hB bz11
  replace hz5 := hz5.after bz11
  rw [HY.out]
  clear bz11
  refine ⟨_, rfl, ?_⟩
  refine hK' _ _ ?_
  clear hK' K'
  go_frame
  refine ls_ex (some 1) (.int .i64 ((1048576 - (xq.length : Int)) - (yq.length : Int))) rfl rfl (exec_assign _ rfl (.int .i64 ((1048576 - (xq.length : Int)) - (yq.length : Int))) rfl) ?_
  go_frame
  refine wpList_nil ?_
  go_upto_region 5 with (fail)
  refine wp_region_lit ?_
  refine ls_ex (some 15) (.int .i64 ((1048576 - (xq.length : Int)) - (yq.length : Int))) rfl rfl (exec_move _ rfl (.int .i64 ((1048576 - (xq.length : Int)) - (yq.length : Int))) rfl) ?_
  go_frame
  refine ls_ex (some 16) (.bool false) rfl rfl (exec_lss _ _ _ _ rfl (((1048576 - (xq.length : Int)) - (yq.length : Int))) 0 rfl rfl false (decide_eq_false (by omega))) ?_
  go_frame
  refine wpList_nil ?_
  go_upto_region 7 with (fail)
  refine wp_region_lit ?_
  refine ls_ex (some 17) (.int .i64 ((1048576 - (xq.length : Int)) - (yq.length : Int))) rfl rfl (exec_move _ rfl (.int .i64 ((1048576 - (xq.length : Int)) - (yq.length : Int))) rfl) ?_
  go_frame
  refine ls_ex (some 4) (.int .i64 ((1048576 - (xq.length : Int)) - (yq.length : Int))) rfl rfl (exec_assign _ rfl (.int .i64 ((1048576 - (xq.length : Int)) - (yq.length : Int))) rfl) ?_
  go_frame
  refine wpList_nil ?_
  go_wp2_with fail
  go_ret
  exact ⟨by rw [HV.out]; rfl, hB⟩
theorem szDesk_c (xp xn xm xk : Int) (xA : Option Addr) (xc : Nat) (xq : List (List Nat)) (yp yn ym yk : Int) (yA : Option Addr) (yc : Nat) (yq : List (List Nat)) (w : World) (hnx : xq.length ≤ 9223372036854775807) (hny : yq.length ≤ 9223372036854775807) :
    Calls Try.prog 15 #[.agg #[.int .i64 xp, .int .i64 xn, .int .i64 xm, .int .i64 xk, .slice xA xq.length xc, .int .i64 yp, .int .i64 yn, .int .i64 ym, .int .i64 yk, .slice yA yq.length yc], .int .i64 1048576] w (fun e w' => e = .returned (.int .i64 (szD xq.length yq.length)) ∧ Below w.heap.size w w') := by
  by_cases h0 : 1048576 < xq.length
  · exact szDesk_a xp xn xm xk xA xc xq yp yn ym yk yA yc yq w hnx hny h0
  · by_cases h : 1048576 < xq.length + yq.length
    · exact szDesk_b xp xn xm xk xA xc xq yp yn ym yk yA yc yq w hnx hny (by omega) h
    · exact szDesk_c' xp xn xm xk xA xc xq yp yn ym yk yA yc yq w hnx hny (by omega)
set_option maxHeartbeats 4000000 in
theorem eqDesk_c (xp xn xm xk : Int) (xA : Option Addr) (xc : Nat) (xq : List (List Nat)) (yp yn ym yk : Int) (yA : Option Addr) (yc : Nat) (yq : List (List Nat)) (xB yB : Option Addr) (xd yd : Nat) (w : World) (hrx : Rd w xA xq) (hnx : xq.length ≤ 1048576) (hry : Rd w yA yq) (hny : yq.length ≤ 1048576) (hsx : Rd w xB xq) (hsy : Rd w yB yq) :
    Calls Try.prog 19 #[.agg #[.int .i64 xp, .int .i64 xn, .int .i64 xm, .int .i64 xk, .slice xA xq.length xc, .int .i64 yp, .int .i64 yn, .int .i64 ym, .int .i64 yk, .slice yA yq.length yc], .agg #[.int .i64 xp, .int .i64 xn, .int .i64 xm, .int .i64 xk, .slice xB xq.length xd, .int .i64 yp, .int .i64 yn, .int .i64 ym, .int .i64 yk, .slice yB yq.length yd]] w (fun e w' => e = .returned (.bool true) ∧ Below w.heap.size w w') := by
  have hB := Below.refl w.heap.size w
  skip
  go_enter Try.func19, Try.ntmps19
  go_upto_region 0 with (fail)
  refine wp_region_lit ?_
  refine ls_op rfl (fun K' hK' => ?_)
  have lz1 := hB.size
  refine wp_new (some 2) rfl (exec_box 42 _ rfl (#[.int .i64 xp, .int .i64 xn, .int .i64 xm, .int .i64 xk, .slice xA xq.length xc, .int .i64 yp, .int .i64 yn, .int .i64 ym, .int .i64 yk, .slice yA yq.length yc]) rfl) (fun Wz2 nnz3 => ?_)
  have bz4 := nnz3.below (Below.refl _ _) (Nat.le_refl _)
  replace hB := below_after hB bz4
  have hz5 : At Wz2 w.heap.size (.cells #[.int .i64 xp, .int .i64 xn, .int .i64 xm, .int .i64 xk, .slice xA xq.length xc, .int .i64 yp, .int .i64 yn, .int .i64 ym, .int .i64 yk, .slice yA yq.length yc] 42 (0, 0)) := nnz3.at_
  refine hK' _ _ ?_
  clear hK' K' nnz3 bz4
  go_frame
  refine ls_op rfl (fun K' hK' => ?_)
  have lz6 := hB.size
  have lz7 := hz5.lt
  refine wp_new (some 3) rfl (exec_box 42 _ rfl (#[.int .i64 xp, .int .i64 xn, .int .i64 xm, .int .i64 xk, .slice xB xq.length xd, .int .i64 yp, .int .i64 yn, .int .i64 ym, .int .i64 yk, .slice yB yq.length yd]) rfl) (fun Wz8 nnz9 => ?_)
  have bz10 := nnz9.below (Below.refl _ _) (Nat.le_refl _)
  replace hB := below_after hB bz10
  replace hz5 := hz5.after bz10
  have hz11 : At Wz8 Wz2.heap.size (.cells #[.int .i64 xp, .int .i64 xn, .int .i64 xm, .int .i64 xk, .slice xB xq.length xd, .int .i64 yp, .int .i64 yn, .int .i64 ym, .int .i64 yk, .slice yB yq.length yd] 42 (0, 0)) := nnz9.at_
  refine hK' _ _ ?_
  clear hK' K' nnz9 bz10
  go_frame
  refine ls_ex (some 4) (.bool false) rfl rfl (exec_assign _ rfl (.bool false) rfl) ?_
  go_frame
  refine wpList_nil ?_
  go_upto_region 1 with (fail)
  refine wp_region_lit ?_
  refine ls_ex (some 5) (.pointer (some ⟨w.heap.size, 0, none⟩)) rfl rfl (exec_fieldAddr 42 _ 0 rfl _ (by kernel_rfl)) ?_
  go_frame
  refine ls_ex (some 6) (.agg #[.int .i64 xp, .int .i64 xn, .int .i64 xm, .int .i64 xk, .slice xA xq.length xc]) rfl rfl (exec_load_lit 29 _ rfl w.heap.size 0 rfl _ _ _ 5 hz5 Try.underlying29 rfl (by kernel_rfl) (by simp) #[.int .i64 xp, .int .i64 xn, .int .i64 xm, .int .i64 xk, .slice xA xq.length xc] rfl) ?_
  go_frame
  refine ls_ex (some 7) (.pointer (some ⟨Wz2.heap.size, 0, none⟩)) rfl rfl (exec_fieldAddr 42 _ 0 rfl _ (by kernel_rfl)) ?_
  go_frame
  refine ls_ex (some 8) (.agg #[.int .i64 xp, .int .i64 xn, .int .i64 xm, .int .i64 xk, .slice xB xq.length xd]) rfl rfl (exec_load_lit 29 _ rfl Wz2.heap.size 0 rfl _ _ _ 5 hz11 Try.underlying29 rfl (by kernel_rfl) (by simp) #[.int .i64 xp, .int .i64 xn, .int .i64 xm, .int .i64 xk, .slice xB xq.length xd] rfl) ?_
  go_frame
  refine ls_op rfl (fun K' hK' => ?_)
  have lz14 := hB.size
  have lz15 := hz5.lt
  have lz16 := hz11.lt
  refine wp_call2 (some 9) rfl 10 _ _ _ rfl (fun args w => by kernel_rfl) _ _ rfl rfl _ (eqScheme_c xp xn xm xk xA xB xc xd xq _ (hrx.keep hB) (hsx.keep hB) (by omega)) (fun e Wz12 h => ?_)
  obtain ⟨rfl, bz13⟩ := h
  replace hB := below_after hB bz13
  replace hz5 := hz5.after bz13
  replace hz11 := hz11.after bz13
  clear bz13
  refine ⟨_, rfl, ?_⟩
  refine hK' _ _ ?_
  clear hK' K'
  go_frame
  refine ls_ex (some 10) (.bool false) rfl rfl (exec_not _ _ rfl true rfl) ?_
  go_frame
  refine wpList_nil ?_
  go_upto_region 3 with (fail)
  refine wp_region_lit ?_
  refine ls_ex (some 11) (.pointer (some ⟨w.heap.size, 5, none⟩)) rfl rfl (exec_fieldAddr 42 _ 1 rfl _ (by kernel_rfl)) ?_
  go_frame
  refine ls_ex (some 12) (.agg #[.int .i64 yp, .int .i64 yn, .int .i64 ym, .int .i64 yk, .slice yA yq.length yc]) rfl rfl (exec_load_lit 29 _ rfl w.heap.size 5 rfl _ _ _ 5 hz5 Try.underlying29 rfl (by kernel_rfl) (by simp) #[.int .i64 yp, .int .i64 yn, .int .i64 ym, .int .i64 yk, .slice yA yq.length yc] rfl) ?_
  go_frame
  refine ls_ex (some 13) (.pointer (some ⟨Wz2.heap.size, 5, none⟩)) rfl rfl (exec_fieldAddr 42 _ 1 rfl _ (by kernel_rfl)) ?_
  go_frame
  refine ls_ex (some 14) (.agg #[.int .i64 yp, .int .i64 yn, .int .i64 ym, .int .i64 yk, .slice yB yq.length yd]) rfl rfl (exec_load_lit 29 _ rfl Wz2.heap.size 5 rfl _ _ _ 5 hz11 Try.underlying29 rfl (by kernel_rfl) (by simp) #[.int .i64 yp, .int .i64 yn, .int .i64 ym, .int .i64 yk, .slice yB yq.length yd] rfl) ?_
  go_frame
  refine ls_op rfl (fun K' hK' => ?_)
  have lz19 := hB.size
  have lz20 := hz5.lt
  have lz21 := hz11.lt
  refine wp_call2 (some 15) rfl 10 _ _ _ rfl (fun args w => by kernel_rfl) _ _ rfl rfl _ (eqScheme_c yp yn ym yk yA yB yc yd yq _ (hry.keep hB) (hsy.keep hB) (by omega)) (fun e Wz17 h => ?_)
  obtain ⟨rfl, bz18⟩ := h
  replace hB := below_after hB bz18
  replace hz5 := hz5.after bz18
  replace hz11 := hz11.after bz18
  clear bz18
  refine ⟨_, rfl, ?_⟩
  refine hK' _ _ ?_
  clear hK' K'
  go_frame
  refine ls_ex (some 16) (.bool false) rfl rfl (exec_not _ _ rfl true rfl) ?_
  go_frame
  refine wpList_nil ?_
  go_upto_region 5 with (fail)
  refine wp_region_lit ?_
  refine ls_ex (some 4) (.bool true) rfl rfl (exec_assign _ rfl (.bool true) rfl) ?_
  go_frame
  refine wpList_nil ?_
  go_wp2_with fail
  go_ret
  exact ⟨rfl, hB⟩
def deskB (xp xn xm xk : Int) (xq : List (List Nat)) (yp yn ym yk : Int) (yq : List (List Nat)) : Bool := schemeB xp xn xm xk xq && schemeB yp yn ym yk yq
set_option maxHeartbeats 4000000 in
theorem specIsDesk_false (xp xn xm xk : Int) (xA : Option Addr) (xc : Nat) (xq : List (List Nat)) (yp yn ym yk : Int) (yA : Option Addr) (yc : Nat) (yq : List (List Nat)) (w : World) (hrx : Rd w xA xq) (hnx : xq.length ≤ 1048576) (hry : Rd w yA yq) (hny : yq.length ≤ 1048576) (h : schemeB xp xn xm xk xq = false) :
    Calls Try.prog 16 #[.agg #[.int .i64 xp, .int .i64 xn, .int .i64 xm, .int .i64 xk, .slice xA xq.length xc, .int .i64 yp, .int .i64 yn, .int .i64 ym, .int .i64 yk, .slice yA yq.length yc]] w (fun e w' => e = .returned (.bool (deskB xp xn xm xk xq yp yn ym yk yq)) ∧ Below w.heap.size w w') := by
  have hB := Below.refl w.heap.size w
  have _u0 := hry
  have _u1 := hny
  clear _u0 _u1
  have HX := Lib.hid h
  have HV : Hid (deskB xp xn xm xk xq yp yn ym yk yq = false) := Lib.hid (by unfold deskB; rw [h]; rfl)
  clear h
  go_enter Try.func16, Try.ntmps16
  go_upto_region 0 with (fail)
  refine wp_region_lit ?_
  refine ls_op rfl (fun K' hK' => ?_)
  have lz1 := hB.size
  refine wp_new (some 1) rfl (exec_box 42 _ rfl (#[.int .i64 xp, .int .i64 xn, .int .i64 xm, .int .i64 xk, .slice xA xq.length xc, .int .i64 yp, .int .i64 yn, .int .i64 ym, .int .i64 yk, .slice yA yq.length yc]) rfl) (fun Wz2 nnz3 => ?_)
  have bz4 := nnz3.below (Below.refl _ _) (Nat.le_refl _)
  replace hB := below_after hB bz4
  have hz5 : At Wz2 w.heap.size (.cells #[.int .i64 xp, .int .i64 xn, .int .i64 xm, .int .i64 xk, .slice xA xq.length xc, .int .i64 yp, .int .i64 yn, .int .i64 ym, .int .i64 yk, .slice yA yq.length yc] 42 (0, 0)) := nnz3.at_
  refine hK' _ _ ?_
  clear hK' K' nnz3 bz4
  go_frame
  refine ls_ex (some 2) (.bool false) rfl rfl (exec_assign _ rfl (.bool false) rfl) ?_
  go_frame
  refine wpList_nil ?_
  go_upto_region 1 with (fail)
  refine wp_region_lit ?_
  refine ls_ex (some 3) (.pointer (some ⟨w.heap.size, 0, none⟩)) rfl rfl (exec_fieldAddr 42 _ 0 rfl _ (by kernel_rfl)) ?_
  go_frame
  refine ls_ex (some 4) (.agg #[.int .i64 xp, .int .i64 xn, .int .i64 xm, .int .i64 xk, .slice xA xq.length xc]) rfl rfl (exec_load_lit 29 _ rfl w.heap.size 0 rfl _ _ _ 5 hz5 Try.underlying29 rfl (by kernel_rfl) (by simp) #[.int .i64 xp, .int .i64 xn, .int .i64 xm, .int .i64 xk, .slice xA xq.length xc] rfl) ?_
  go_frame
  refine ls_op rfl (fun K' hK' => ?_)
  have lz8 := hB.size
  have lz9 := hz5.lt
  refine wp_call1 (some 5) rfl 21 _ _ rfl (fun args w => by kernel_rfl) _ rfl _ (l01Is_c xp xn xm xk xA xc xq _ (hrx.keep hB) hnx) (fun e Wz6 h => ?_)
  obtain ⟨rfl, bz7⟩ := h
  replace hB := below_after hB bz7
  replace hz5 := hz5.after bz7
  rw [HX.out]
  clear bz7
  refine ⟨_, rfl, ?_⟩
  refine hK' _ _ ?_
  clear hK' K'
  go_frame
  refine ls_ex (some 6) (.bool false) rfl rfl (exec_move _ rfl (.bool false) rfl) ?_
  go_frame
  refine ls_skip_g (some 7) rfl rfl ?_
  go_frame
  refine ls_skip_g (some 8) rfl rfl ?_
  go_frame
  refine ls_skip_g (some 9) rfl rfl ?_
  go_frame
  refine ls_ex (some 10) (.bool false) rfl rfl (exec_pick _ _ _ rfl false rfl (.bool false) rfl) ?_
  go_frame
  refine ls_ex (some 2) (.bool false) rfl rfl (exec_assign _ rfl (.bool false) rfl) ?_
  go_frame
  refine wpList_nil ?_
  go_wp2_with fail
  go_ret
  exact ⟨by rw [HV.out]; rfl, hB⟩
set_option maxHeartbeats 4000000 in
theorem specIsDesk_true (xp xn xm xk : Int) (xA : Option Addr) (xc : Nat) (xq : List (List Nat)) (yp yn ym yk : Int) (yA : Option Addr) (yc : Nat) (yq : List (List Nat)) (w : World) (hrx : Rd w xA xq) (hnx : xq.length ≤ 1048576) (hry : Rd w yA yq) (hny : yq.length ≤ 1048576) (h : schemeB xp xn xm xk xq = true) :
    Calls Try.prog 16 #[.agg #[.int .i64 xp, .int .i64 xn, .int .i64 xm, .int .i64 xk, .slice xA xq.length xc, .int .i64 yp, .int .i64 yn, .int .i64 ym, .int .i64 yk, .slice yA yq.length yc]] w (fun e w' => e = .returned (.bool (deskB xp xn xm xk xq yp yn ym yk yq)) ∧ Below w.heap.size w w') := by
  have hB := Below.refl w.heap.size w
  have HX := Lib.hid h
  have HV : Hid (deskB xp xn xm xk xq yp yn ym yk yq = schemeB yp yn ym yk yq) := Lib.hid (by unfold deskB; rw [h]; rfl)
  clear h
  go_enter Try.func16, Try.ntmps16
  go_upto_region 0 with (fail)
  refine wp_region_lit ?_
  refine ls_op rfl (fun K' hK' => ?_)
  have lz1 := hB.size
  refine wp_new (some 1) rfl (exec_box 42 _ rfl (#[.int .i64 xp, .int .i64 xn, .int .i64 xm, .int .i64 xk, .slice xA xq.length xc, .int .i64 yp, .int .i64 yn, .int .i64 ym, .int .i64 yk, .slice yA yq.length yc]) rfl) (fun Wz2 nnz3 => ?_)
  have bz4 := nnz3.below (Below.refl _ _) (Nat.le_refl _)
  replace hB := below_after hB bz4
  have hz5 : At Wz2 w.heap.size (.cells #[.int .i64 xp, .int .i64 xn, .int .i64 xm, .int .i64 xk, .slice xA xq.length xc, .int .i64 yp, .int .i64 yn, .int .i64 ym, .int .i64 yk, .slice yA yq.length yc] 42 (0, 0)) := nnz3.at_
  refine hK' _ _ ?_
  clear hK' K' nnz3 bz4
  go_frame
  refine ls_ex (some 2) (.bool false) rfl rfl (exec_assign _ rfl (.bool false) rfl) ?_
  go_frame
  refine wpList_nil ?_
  go_upto_region 1 with (fail)
  refine wp_region_lit ?_
  refine ls_ex (some 3) (.pointer (some ⟨w.heap.size, 0, none⟩)) rfl rfl (exec_fieldAddr 42 _ 0 rfl _ (by kernel_rfl)) ?_
  go_frame
  refine ls_ex (some 4) (.agg #[.int .i64 xp, .int .i64 xn, .int .i64 xm, .int .i64 xk, .slice xA xq.length xc]) rfl rfl (exec_load_lit 29 _ rfl w.heap.size 0 rfl _ _ _ 5 hz5 Try.underlying29 rfl (by kernel_rfl) (by simp) #[.int .i64 xp, .int .i64 xn, .int .i64 xm, .int .i64 xk, .slice xA xq.length xc] rfl) ?_
  go_frame
  refine ls_op rfl (fun K' hK' => ?_)
  have lz8 := hB.size
  have lz9 := hz5.lt
  refine wp_call1 (some 5) rfl 21 _ _ rfl (fun args w => by kernel_rfl) _ rfl _ (l01Is_c xp xn xm xk xA xc xq _ (hrx.keep hB) hnx) (fun e Wz6 h => ?_)
  obtain ⟨rfl, bz7⟩ := h
  replace hB := below_after hB bz7
  replace hz5 := hz5.after bz7
  rw [HX.out]
  clear bz7
  refine ⟨_, rfl, ?_⟩
  refine hK' _ _ ?_
  clear hK' K'
  go_frame
  refine ls_ex (some 6) (.bool true) rfl rfl (exec_move _ rfl (.bool true) rfl) ?_
  go_frame
  refine ls_ex_g (some 7) (.pointer (some ⟨w.heap.size, 5, none⟩)) rfl rfl (exec_fieldAddr 42 _ 1 rfl _ (by kernel_rfl)) ?_
  go_frame
  refine ls_ex_g (some 8) (.agg #[.int .i64 yp, .int .i64 yn, .int .i64 ym, .int .i64 yk, .slice yA yq.length yc]) rfl rfl (exec_load_lit 29 _ rfl w.heap.size 5 rfl _ _ _ 5 hz5 Try.underlying29 rfl (by kernel_rfl) (by simp) #[.int .i64 yp, .int .i64 yn, .int .i64 ym, .int .i64 yk, .slice yA yq.length yc] rfl) ?_
  go_frame
  refine ls_op_g rfl (fun K' hK' => ?_)
  have lz12 := hB.size
  have lz13 := hz5.lt
  refine wp_call1 (some 9) rfl 21 _ _ rfl (fun args w => by kernel_rfl) _ rfl _ (l01Is_c yp yn ym yk yA yc yq _ (hry.keep hB) hny) (fun e Wz10 h => ?_)
  obtain ⟨rfl, bz11⟩ := h
  replace hB := below_after hB bz11
  replace hz5 := hz5.after bz11
  clear bz11
  refine ⟨_, rfl, ?_⟩
  refine hK' _ _ ?_
  clear hK' K'
  go_frame
  refine ls_ex (some 10) (.bool (schemeB yp yn ym yk yq)) rfl rfl (exec_pick _ _ _ rfl true rfl (.bool (schemeB yp yn ym yk yq)) rfl) ?_
  go_frame
  refine ls_ex (some 2) (.bool (schemeB yp yn ym yk yq)) rfl rfl (exec_assign _ rfl (.bool (schemeB yp yn ym yk yq)) rfl) ?_
  go_frame
  refine wpList_nil ?_
  go_wp2_with fail
  go_ret
  exact ⟨by rw [HV.out]; rfl, hB⟩
theorem specIsDesk_c (xp xn xm xk : Int) (xA : Option Addr) (xc : Nat) (xq : List (List Nat)) (yp yn ym yk : Int) (yA : Option Addr) (yc : Nat) (yq : List (List Nat)) (w : World) (hrx : Rd w xA xq) (hnx : xq.length ≤ 1048576) (hry : Rd w yA yq) (hny : yq.length ≤ 1048576) :
    Calls Try.prog 16 #[.agg #[.int .i64 xp, .int .i64 xn, .int .i64 xm, .int .i64 xk, .slice xA xq.length xc, .int .i64 yp, .int .i64 yn, .int .i64 ym, .int .i64 yk, .slice yA yq.length yc]] w (fun e w' => e = .returned (.bool (deskB xp xn xm xk xq yp yn ym yk yq)) ∧ Below w.heap.size w w') := by
  rcases Bool.eq_false_or_eq_true (schemeB xp xn xm xk xq) with h | h
  · exact specIsDesk_true xp xn xm xk xA xc xq yp yn ym yk yA yc yq w hrx hnx hry hny h
  · exact specIsDesk_false xp xn xm xk xA xc xq yp yn ym yk yA yc yq w hrx hnx hry hny h
set_option maxHeartbeats 4000000 in
theorem implIsDesk_false (xp xn xm xk : Int) (xA : Option Addr) (xc : Nat) (xq : List (List Nat)) (yp yn ym yk : Int) (yA : Option Addr) (yc : Nat) (yq : List (List Nat)) (w : World) (hrx : Rd w xA xq) (hnx : xq.length ≤ 1048576) (hry : Rd w yA yq) (hny : yq.length ≤ 1048576) (h : schemeB xp xn xm xk xq = false) :
    Calls Try.prog 18 #[.agg #[.int .i64 xp, .int .i64 xn, .int .i64 xm, .int .i64 xk, .slice xA xq.length xc, .int .i64 yp, .int .i64 yn, .int .i64 ym, .int .i64 yk, .slice yA yq.length yc]] w (fun e w' => e = .returned (.bool (deskB xp xn xm xk xq yp yn ym yk yq)) ∧ Below w.heap.size w w') := by
  have hB := Below.refl w.heap.size w
  have _u0 := hry
  have _u1 := hny
  clear _u0 _u1
  have HX := Lib.hid h
  have HV : Hid (deskB xp xn xm xk xq yp yn ym yk yq = false) := Lib.hid (by unfold deskB; rw [h]; rfl)
  clear h
  go_enter Try.func18, Try.ntmps18
  go_upto_region 0 with (fail)
  refine wp_region_lit ?_
  refine ls_op rfl (fun K' hK' => ?_)
  have lz1 := hB.size
  refine wp_new (some 1) rfl (exec_box 42 _ rfl (#[.int .i64 xp, .int .i64 xn, .int .i64 xm, .int .i64 xk, .slice xA xq.length xc, .int .i64 yp, .int .i64 yn, .int .i64 ym, .int .i64 yk, .slice yA yq.length yc]) rfl) (fun Wz2 nnz3 => ?_)
  have bz4 := nnz3.below (Below.refl _ _) (Nat.le_refl _)
  replace hB := below_after hB bz4
  have hz5 : At Wz2 w.heap.size (.cells #[.int .i64 xp, .int .i64 xn, .int .i64 xm, .int .i64 xk, .slice xA xq.length xc, .int .i64 yp, .int .i64 yn, .int .i64 ym, .int .i64 yk, .slice yA yq.length yc] 42 (0, 0)) := nnz3.at_
  refine hK' _ _ ?_
  clear hK' K' nnz3 bz4
  go_frame
  refine ls_ex (some 2) (.bool false) rfl rfl (exec_assign _ rfl (.bool false) rfl) ?_
  go_frame
  refine wpList_nil ?_
  go_upto_region 1 with (fail)
  refine wp_region_lit ?_
  refine ls_ex (some 3) (.pointer (some ⟨w.heap.size, 0, none⟩)) rfl rfl (exec_fieldAddr 42 _ 0 rfl _ (by kernel_rfl)) ?_
  go_frame
  refine ls_ex (some 4) (.agg #[.int .i64 xp, .int .i64 xn, .int .i64 xm, .int .i64 xk, .slice xA xq.length xc]) rfl rfl (exec_load_lit 29 _ rfl w.heap.size 0 rfl _ _ _ 5 hz5 Try.underlying29 rfl (by kernel_rfl) (by simp) #[.int .i64 xp, .int .i64 xn, .int .i64 xm, .int .i64 xk, .slice xA xq.length xc] rfl) ?_
  go_frame
  refine ls_op rfl (fun K' hK' => ?_)
  have lz8 := hB.size
  have lz9 := hz5.lt
  refine wp_call1 (some 5) rfl 9 _ _ rfl (fun args w => by kernel_rfl) _ rfl _ (implIsScheme_c xp xn xm xk xA xc xq _ (hrx.keep hB) hnx) (fun e Wz6 h => ?_)
  obtain ⟨rfl, bz7⟩ := h
  replace hB := below_after hB bz7
  replace hz5 := hz5.after bz7
  rw [HX.out]
  clear bz7
  refine ⟨_, rfl, ?_⟩
  refine hK' _ _ ?_
  clear hK' K'
  go_frame
  refine ls_ex (some 6) (.bool false) rfl rfl (exec_move _ rfl (.bool false) rfl) ?_
  go_frame
  refine ls_skip_g (some 7) rfl rfl ?_
  go_frame
  refine ls_skip_g (some 8) rfl rfl ?_
  go_frame
  refine ls_skip_g (some 9) rfl rfl ?_
  go_frame
  refine ls_ex (some 10) (.bool false) rfl rfl (exec_pick _ _ _ rfl false rfl (.bool false) rfl) ?_
  go_frame
  refine ls_ex (some 2) (.bool false) rfl rfl (exec_assign _ rfl (.bool false) rfl) ?_
  go_frame
  refine wpList_nil ?_
  go_wp2_with fail
  go_ret
  exact ⟨by rw [HV.out]; rfl, hB⟩
set_option maxHeartbeats 4000000 in
theorem implIsDesk_true (xp xn xm xk : Int) (xA : Option Addr) (xc : Nat) (xq : List (List Nat)) (yp yn ym yk : Int) (yA : Option Addr) (yc : Nat) (yq : List (List Nat)) (w : World) (hrx : Rd w xA xq) (hnx : xq.length ≤ 1048576) (hry : Rd w yA yq) (hny : yq.length ≤ 1048576) (h : schemeB xp xn xm xk xq = true) :
    Calls Try.prog 18 #[.agg #[.int .i64 xp, .int .i64 xn, .int .i64 xm, .int .i64 xk, .slice xA xq.length xc, .int .i64 yp, .int .i64 yn, .int .i64 ym, .int .i64 yk, .slice yA yq.length yc]] w (fun e w' => e = .returned (.bool (deskB xp xn xm xk xq yp yn ym yk yq)) ∧ Below w.heap.size w w') := by
  have hB := Below.refl w.heap.size w
  have HX := Lib.hid h
  have HV : Hid (deskB xp xn xm xk xq yp yn ym yk yq = schemeB yp yn ym yk yq) := Lib.hid (by unfold deskB; rw [h]; rfl)
  clear h
  go_enter Try.func18, Try.ntmps18
  go_upto_region 0 with (fail)
  refine wp_region_lit ?_
  refine ls_op rfl (fun K' hK' => ?_)
  have lz1 := hB.size
  refine wp_new (some 1) rfl (exec_box 42 _ rfl (#[.int .i64 xp, .int .i64 xn, .int .i64 xm, .int .i64 xk, .slice xA xq.length xc, .int .i64 yp, .int .i64 yn, .int .i64 ym, .int .i64 yk, .slice yA yq.length yc]) rfl) (fun Wz2 nnz3 => ?_)
  have bz4 := nnz3.below (Below.refl _ _) (Nat.le_refl _)
  replace hB := below_after hB bz4
  have hz5 : At Wz2 w.heap.size (.cells #[.int .i64 xp, .int .i64 xn, .int .i64 xm, .int .i64 xk, .slice xA xq.length xc, .int .i64 yp, .int .i64 yn, .int .i64 ym, .int .i64 yk, .slice yA yq.length yc] 42 (0, 0)) := nnz3.at_
  refine hK' _ _ ?_
  clear hK' K' nnz3 bz4
  go_frame
  refine ls_ex (some 2) (.bool false) rfl rfl (exec_assign _ rfl (.bool false) rfl) ?_
  go_frame
  refine wpList_nil ?_
  go_upto_region 1 with (fail)
  refine wp_region_lit ?_
  refine ls_ex (some 3) (.pointer (some ⟨w.heap.size, 0, none⟩)) rfl rfl (exec_fieldAddr 42 _ 0 rfl _ (by kernel_rfl)) ?_
  go_frame
  refine ls_ex (some 4) (.agg #[.int .i64 xp, .int .i64 xn, .int .i64 xm, .int .i64 xk, .slice xA xq.length xc]) rfl rfl (exec_load_lit 29 _ rfl w.heap.size 0 rfl _ _ _ 5 hz5 Try.underlying29 rfl (by kernel_rfl) (by simp) #[.int .i64 xp, .int .i64 xn, .int .i64 xm, .int .i64 xk, .slice xA xq.length xc] rfl) ?_
  go_frame
  refine ls_op rfl (fun K' hK' => ?_)
  have lz8 := hB.size
  have lz9 := hz5.lt
  refine wp_call1 (some 5) rfl 9 _ _ rfl (fun args w => by kernel_rfl) _ rfl _ (implIsScheme_c xp xn xm xk xA xc xq _ (hrx.keep hB) hnx) (fun e Wz6 h => ?_)
  obtain ⟨rfl, bz7⟩ := h
  replace hB := below_after hB bz7
  replace hz5 := hz5.after bz7
  rw [HX.out]
  clear bz7
  refine ⟨_, rfl, ?_⟩
  refine hK' _ _ ?_
  clear hK' K'
  go_frame
  refine ls_ex (some 6) (.bool true) rfl rfl (exec_move _ rfl (.bool true) rfl) ?_
  go_frame
  refine ls_ex_g (some 7) (.pointer (some ⟨w.heap.size, 5, none⟩)) rfl rfl (exec_fieldAddr 42 _ 1 rfl _ (by kernel_rfl)) ?_
  go_frame
  refine ls_ex_g (some 8) (.agg #[.int .i64 yp, .int .i64 yn, .int .i64 ym, .int .i64 yk, .slice yA yq.length yc]) rfl rfl (exec_load_lit 29 _ rfl w.heap.size 5 rfl _ _ _ 5 hz5 Try.underlying29 rfl (by kernel_rfl) (by simp) #[.int .i64 yp, .int .i64 yn, .int .i64 ym, .int .i64 yk, .slice yA yq.length yc] rfl) ?_
  go_frame
  refine ls_op_g rfl (fun K' hK' => ?_)
  have lz12 := hB.size
  have lz13 := hz5.lt
  refine wp_call1 (some 9) rfl 9 _ _ rfl (fun args w => by kernel_rfl) _ rfl _ (implIsScheme_c yp yn ym yk yA yc yq _ (hry.keep hB) hny) (fun e Wz10 h => ?_)
  obtain ⟨rfl, bz11⟩ := h
  replace hB := below_after hB bz11
  replace hz5 := hz5.after bz11
  clear bz11
  refine ⟨_, rfl, ?_⟩
  refine hK' _ _ ?_
  clear hK' K'
  go_frame
  refine ls_ex (some 10) (.bool (schemeB yp yn ym yk yq)) rfl rfl (exec_pick _ _ _ rfl true rfl (.bool (schemeB yp yn ym yk yq)) rfl) ?_
  go_frame
  refine ls_ex (some 2) (.bool (schemeB yp yn ym yk yq)) rfl rfl (exec_assign _ rfl (.bool (schemeB yp yn ym yk yq)) rfl) ?_
  go_frame
  refine wpList_nil ?_
  go_wp2_with fail
  go_ret
  exact ⟨by rw [HV.out]; rfl, hB⟩
theorem implIsDesk_c (xp xn xm xk : Int) (xA : Option Addr) (xc : Nat) (xq : List (List Nat)) (yp yn ym yk : Int) (yA : Option Addr) (yc : Nat) (yq : List (List Nat)) (w : World) (hrx : Rd w xA xq) (hnx : xq.length ≤ 1048576) (hry : Rd w yA yq) (hny : yq.length ≤ 1048576) :
    Calls Try.prog 18 #[.agg #[.int .i64 xp, .int .i64 xn, .int .i64 xm, .int .i64 xk, .slice xA xq.length xc, .int .i64 yp, .int .i64 yn, .int .i64 ym, .int .i64 yk, .slice yA yq.length yc]] w (fun e w' => e = .returned (.bool (deskB xp xn xm xk xq yp yn ym yk yq)) ∧ Below w.heap.size w w') := by
  rcases Bool.eq_false_or_eq_true (schemeB xp xn xm xk xq) with h | h
  · exact implIsDesk_true xp xn xm xk xA xc xq yp yn ym yk yA yc yq w hrx hnx hry hny h
  · exact implIsDesk_false xp xn xm xk xA xc xq yp yn ym yk yA yc yq w hrx hnx hry hny h
end Go.Proofs.Ytgjcfgieecamdaa
