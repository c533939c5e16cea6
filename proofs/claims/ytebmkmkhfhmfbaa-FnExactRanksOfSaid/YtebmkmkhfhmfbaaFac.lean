/-
  impl.isFactor. (Made by mkfac.py.)
-/
import Derived.Test.YtebmkmkhfhmfbaaOk
import Derived.Test.YtebmkmkhfhmfbaaSx
namespace Go.Proofs.Ytebmkmkhfhmfbaa
open Go.RowKit
set_option maxRecDepth 100000
attribute [local irreducible] wpList
theorem exec_neqFc {o : Oper} {a : Act} {w : World} (x y : Operand) (t' : TypeId) (ho : o.op = .binOp .neq 45 x y t') (f g : List Nat) (hx : a.eval x = .agg (u8s f)) (hy : a.eval y = .agg (u8s g)) (hf : f.length = 9) (hg : g.length = 9) (b : Bool) (hb : (!(f == g)) = b) :
    (execOp a.eval o).run Try.prog w = .ok (.value (.bool b)) w := by
  have hm : Try.prog.eqGuardType Try.prog.depth 45 = false := by kernel_rfl
  have h1 := run_equalIn_u8s (P := Try.prog) w 9998 45 5 9 Try.underlying45 Try.underlying5 (by kernel_rfl) f g hf hg
  unfold execOp
  subst hb
  simp [ho, hx, hy, Sem.run_bind, run_eqGuard_agg w .neq _ x y _ _ hm, run_neq_struct, h1]
set_option maxHeartbeats 4000000 in
theorem isFactor_z (p r c : Int) (f : List Nat) (hp : 0 < p) (hP : ∀ w : World, Calls Try.prog 54 #[.agg #[.int .i64 r, .int .i64 c]] w fun e w' => e = .returned (.int .i64 (r * c)) ∧ Below w.heap.size w w') (hf : Bytes 9 f) (w : World) (hz : zeroB f = true) :
    Calls Try.prog 80 #[.int .i64 p, .agg #[.int .i64 r, .int .i64 c], .agg (u8s f)] w (fun e w' => e = .returned (.bool (!zeroB f && formB p f (r * c))) ∧ Below w.heap.size w w') := by
  have hB := Below.refl w.heap.size w
  have HZ : Hid ((!(f == List.replicate 9 0)) = false) := Lib.hid (by rw [show (f == List.replicate 9 0) = true from hz]; rfl)
  have HV : Hid ((!zeroB f && formB p f (r * c)) = false) := Lib.hid (by rw [hz]; rfl)
  clear hz
  go_enter Try.func80, Try.ntmps80
  go_upto_region 0 with (fail)
  refine wp_region_lit ?_
  refine ls_op rfl (fun K' hK' => ?_)
  have lz1 := hB.size
  refine wp_new (some 4) rfl (exec_box 52 _ rfl (#[.int .i64 r, .int .i64 c]) rfl) (fun Wz2 nnz3 => ?_)
  have bz4 := nnz3.below (Below.refl _ _) (Nat.le_refl _)
  replace hB := below_after hB bz4
  have hz5 : At Wz2 w.heap.size (.cells #[.int .i64 r, .int .i64 c] 52 (0, 0)) := nnz3.at_
  refine hK' _ _ ?_
  clear hK' K' nnz3 bz4
  go_frame
  refine ls_op rfl (fun K' hK' => ?_)
  have lz6 := hB.size
  have lz7 := hz5.lt
  refine wp_new (some 5) rfl (exec_box 45 _ rfl (u8s (f)) rfl) (fun Wz8 nnz9 => ?_)
  have bz10 := nnz9.below (Below.refl _ _) (Nat.le_refl _)
  replace hB := below_after hB bz10
  replace hz5 := hz5.after bz10
  have hz11 : At Wz8 Wz2.heap.size (.cells (u8s (f)) 45 (0, 0)) := nnz9.at_
  refine hK' _ _ ?_
  clear hK' K' nnz9 bz10
  go_frame
  refine ls_ex (some 6) (.bool false) rfl rfl (exec_assign _ rfl (.bool false) rfl) ?_
  go_frame
  refine wpList_nil ?_
  go_upto_region 1 with (fail)
  refine wp_region_lit ?_
  refine ls_ex (some 7) (.agg (u8s (f))) rfl rfl (exec_load_all 45 _ rfl Wz2.heap.size rfl _ _ _ hz11 Try.underlying45 rfl 9 (by kernel_rfl) ((u8s_size _).trans hf.len)) ?_
  go_frame
  refine ls_ex (some 8) (.agg (u8s (List.replicate 9 0))) rfl rfl (exec_build_nil 45 rfl _ (by kernel_rfl)) ?_
  go_frame
  refine ls_ex (some 9) (.bool false) rfl rfl (exec_neqFc _ _ _ rfl (f) (List.replicate 9 0) rfl rfl hf.len (by simp) false HZ.out) ?_
  go_frame
  refine ls_ex (some 10) (.bool false) rfl rfl (exec_move _ rfl (.bool false) rfl) ?_
  go_frame
  refine ls_skip_g (some 11) rfl rfl ?_
  go_frame
  refine ls_skip_g (some 12) rfl rfl ?_
  go_frame
  refine ls_skip_g (some 13) rfl rfl ?_
  go_frame
  refine ls_skip_g (some 14) rfl rfl ?_
  go_frame
  refine ls_ex (some 15) (.bool false) rfl rfl (exec_pick _ _ _ rfl false rfl (.bool false) rfl) ?_
  go_frame
  refine ls_ex (some 6) (.bool false) rfl rfl (exec_assign _ rfl (.bool false) rfl) ?_
  go_frame
  refine wpList_nil ?_
  go_wp2_with fail
  go_ret
  exact ⟨by rw [HV.out]; rfl, hB⟩
set_option maxHeartbeats 4000000 in
theorem isFactor_n (p r c : Int) (f : List Nat) (hp : 0 < p) (hP : ∀ w : World, Calls Try.prog 54 #[.agg #[.int .i64 r, .int .i64 c]] w fun e w' => e = .returned (.int .i64 (r * c)) ∧ Below w.heap.size w w') (hf : Bytes 9 f) (w : World) (hz : zeroB f = false) :
    Calls Try.prog 80 #[.int .i64 p, .agg #[.int .i64 r, .int .i64 c], .agg (u8s f)] w (fun e w' => e = .returned (.bool (!zeroB f && formB p f (r * c))) ∧ Below w.heap.size w w') := by
  have hB := Below.refl w.heap.size w
  have HZ : Hid ((!(f == List.replicate 9 0)) = true) := Lib.hid (by rw [show (f == List.replicate 9 0) = false from hz]; rfl)
  have HV : Hid ((!zeroB f && formB p f (r * c)) = formB p f (r * c)) := Lib.hid (by rw [hz]; simp)
  clear hz
  go_enter Try.func80, Try.ntmps80
  go_upto_region 0 with (fail)
  refine wp_region_lit ?_
  refine ls_op rfl (fun K' hK' => ?_)
  have lz1 := hB.size
  refine wp_new (some 4) rfl (exec_box 52 _ rfl (#[.int .i64 r, .int .i64 c]) rfl) (fun Wz2 nnz3 => ?_)
  have bz4 := nnz3.below (Below.refl _ _) (Nat.le_refl _)
  replace hB := below_after hB bz4
  have hz5 : At Wz2 w.heap.size (.cells #[.int .i64 r, .int .i64 c] 52 (0, 0)) := nnz3.at_
  refine hK' _ _ ?_
  clear hK' K' nnz3 bz4
  go_frame
  refine ls_op rfl (fun K' hK' => ?_)
  have lz6 := hB.size
  have lz7 := hz5.lt
  refine wp_new (some 5) rfl (exec_box 45 _ rfl (u8s (f)) rfl) (fun Wz8 nnz9 => ?_)
  have bz10 := nnz9.below (Below.refl _ _) (Nat.le_refl _)
  replace hB := below_after hB bz10
  replace hz5 := hz5.after bz10
  have hz11 : At Wz8 Wz2.heap.size (.cells (u8s (f)) 45 (0, 0)) := nnz9.at_
  refine hK' _ _ ?_
  clear hK' K' nnz9 bz10
  go_frame
  refine ls_ex (some 6) (.bool false) rfl rfl (exec_assign _ rfl (.bool false) rfl) ?_
  go_frame
  refine wpList_nil ?_
  go_upto_region 1 with (fail)
  refine wp_region_lit ?_
  refine ls_ex (some 7) (.agg (u8s (f))) rfl rfl (exec_load_all 45 _ rfl Wz2.heap.size rfl _ _ _ hz11 Try.underlying45 rfl 9 (by kernel_rfl) ((u8s_size _).trans hf.len)) ?_
  go_frame
  refine ls_ex (some 8) (.agg (u8s (List.replicate 9 0))) rfl rfl (exec_build_nil 45 rfl _ (by kernel_rfl)) ?_
  go_frame
  refine ls_ex (some 9) (.bool true) rfl rfl (exec_neqFc _ _ _ rfl (f) (List.replicate 9 0) rfl rfl hf.len (by simp) true HZ.out) ?_
  go_frame
  refine ls_ex (some 10) (.bool true) rfl rfl (exec_move _ rfl (.bool true) rfl) ?_
  go_frame
  refine ls_ex_g (some 11) (.int .i64 p) rfl rfl (exec_move _ rfl (.int .i64 p) rfl) ?_
  go_frame
  refine ls_ex_g (some 12) (.agg #[.int .i64 r, .int .i64 c]) rfl rfl (exec_load_all 52 _ rfl w.heap.size rfl _ _ _ hz5 Try.underlying52 rfl 2 (by kernel_rfl) rfl) ?_
  go_frame
  refine ls_ex_g (some 13) (.agg (u8s (f))) rfl rfl (exec_load_all 45 _ rfl Wz2.heap.size rfl _ _ _ hz11 Try.underlying45 rfl 9 (by kernel_rfl) ((u8s_size _).trans hf.len)) ?_
  go_frame
  refine ls_op_g rfl (fun K' hK' => ?_)
  have lz14 := hB.size
  have lz15 := hz5.lt
  have lz16 := hz11.lt
  refine wp_call3 (some 14) rfl 82 _ _ _ _ rfl (fun args w => by kernel_rfl) _ _ _ rfl rfl rfl _ (isForm_g p r c f hp hP hf _) (fun e Wz12 h => ?_)
  obtain ⟨rfl, bz13⟩ := h
  replace hB := below_after hB bz13
  replace hz5 := hz5.after bz13
  replace hz11 := hz11.after bz13
  clear bz13
  refine ⟨_, rfl, ?_⟩
  refine hK' _ _ ?_
  clear hK' K'
  go_frame
  refine ls_ex (some 15) (.bool (formB p f (r * c))) rfl rfl (exec_pick _ _ _ rfl true rfl (.bool (formB p f (r * c))) rfl) ?_
  go_frame
  refine ls_ex (some 6) (.bool (formB p f (r * c))) rfl rfl (exec_assign _ rfl (.bool (formB p f (r * c))) rfl) ?_
  go_frame
  refine wpList_nil ?_
  go_wp2_with fail
  go_ret
  exact ⟨by rw [HV.out]; rfl, hB⟩
theorem isFactor_c (p r c : Int) (f : List Nat) (hp : 0 < p) (hP : ∀ w : World, Calls Try.prog 54 #[.agg #[.int .i64 r, .int .i64 c]] w fun e w' => e = .returned (.int .i64 (r * c)) ∧ Below w.heap.size w w') (hf : Bytes 9 f) (w : World) :
    Calls Try.prog 80 #[.int .i64 p, .agg #[.int .i64 r, .int .i64 c], .agg (u8s f)] w fun e w' => e = .returned (.bool (!zeroB f && formB p f (r * c))) ∧ Below w.heap.size w w' := by
  rcases Bool.eq_false_or_eq_true (zeroB f) with hz | hz
  · exact isFactor_z p r c f hp hP hf w hz
  · exact isFactor_n p r c f hp hP hf w hz
end Go.Proofs.Ytebmkmkhfhmfbaa
