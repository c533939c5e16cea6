/-
  impl.productOf. (Made by mkpo.py.)
-/
import Derived.Test.YtopdfblfhdooaaaSx
import Derived.Test.YtopdfblfhdooaaaNrm0
namespace Go.Proofs.Ytopdfblfhdooaaa
open Go.RowKit
set_option maxRecDepth 100000
theorem al_impl_Product {o : Oper} {a : Act} {w : World} (ho : o.op = .alloc 53) : (execOp a.eval o).run Try.prog w = .ok (.value (.pointer (some ⟨w.heap.size, 0, none⟩))) (w.alloc (.cells (u8s (List.replicate 27 0)) 53 (0, 0))) := by
  unfold execOp
  rw [ho]
  kernel_rfl
theorem productOf_c (q : List Nat) (hq : Bytes 27 q) (w : World) : Calls Try.prog 67 #[.agg (u8s q)] w fun e w' => e = .returned (.agg (u8s q)) ∧ Below w.heap.size w w' := by
  obtain ⟨QA, QB, QC, rfl, hQA, hQB, hQC⟩ := parts3 hq
  have hB := Below.refl w.heap.size w
  go_enter Try.func67, Try.ntmps67
  go_upto_region 0 with (fail)
  refine wp_region_lit ?_
  refine ls_op rfl (fun K' hK' => ?_)
  have la1 := hB.size
  refine wp_new (some 1) rfl (exec_box 100 _ rfl (u8s (cat3 QA QB QC)) rfl) (fun Wa2 nna3 => ?_)
  have ba4 := nna3.below (Below.refl _ _) (Nat.le_refl _)
  replace hB := below_after hB ba4
  have ha5 : At Wa2 w.heap.size (.cells (u8s (cat3 QA QB QC)) 100 (0, 0)) := nna3.at_
  refine hK' _ _  ?_
  clear hK' K' nna3 ba4
  go_frame
  refine ls_op rfl (fun K' hK' => ?_)
  have la6 := hB.size
  have la7 := ha5.lt
  refine wp_new (some 2) rfl (al_impl_Product rfl) (fun Wa8 nna9 => ?_)
  have ba10 := nna9.below (Below.refl _ _) (Nat.le_refl _)
  replace hB := below_after hB ba10
  replace ha5 := ha5.after ba10
  have ha11 : At Wa8 Wa2.heap.size (.cells (u8s (List.replicate 27 0)) 53 (0, 0)) := nna9.at_
  refine hK' _ _  ?_
  clear hK' K' nna9 ba10
  go_frame
  refine wpList_nil ?_
  go_upto_region 1 with (fail)
  refine wp_region_lit ?_
  refine ls_ex (some 3) (.pointer (some ⟨w.heap.size, 0, none⟩)) rfl rfl (exec_index_arr _ 51 _ _ rfl w.heap.size 0 3 0 9 rfl rfl Try.underlying100 (by kernel_rfl) (by omega)) ?_
  go_frame
  refine ls_ex (some 4) (.agg (u8s (QA))) rfl rfl (exec_load_seg 51 _ rfl w.heap.size (0) rfl _ (cat3 QA QB QC) _ 9 ha5 Try.underlying51 rfl (by kernel_rfl) (by rw [hq.len]; omega) (QA) (segm_a hQA.len)) ?_
  go_frame
  refine ls_ex (some 5) (.pointer (some ⟨w.heap.size, 9, none⟩)) rfl rfl (exec_index_arr _ 51 _ _ rfl w.heap.size 0 3 1 9 rfl rfl Try.underlying100 (by kernel_rfl) (by omega)) ?_
  go_frame
  refine ls_ex (some 6) (.agg (u8s (QB))) rfl rfl (exec_load_seg 51 _ rfl w.heap.size (9) rfl _ (cat3 QA QB QC) _ 9 ha5 Try.underlying51 rfl (by kernel_rfl) (by rw [hq.len]; omega) (QB) (segm_b hQA.len hQB.len)) ?_
  go_frame
  refine ls_ex (some 7) (.pointer (some ⟨w.heap.size, 18, none⟩)) rfl rfl (exec_index_arr _ 51 _ _ rfl w.heap.size 0 3 2 9 rfl rfl Try.underlying100 (by kernel_rfl) (by omega)) ?_
  go_frame
  refine ls_ex (some 8) (.agg (u8s (QC))) rfl rfl (exec_load_seg 51 _ rfl w.heap.size (18) rfl _ (cat3 QA QB QC) _ 9 ha5 Try.underlying51 rfl (by kernel_rfl) (by rw [hq.len]; omega) (QC) (segm_c hQA.len hQB.len hQC.len)) ?_
  go_frame
  refine ls_ex (some 9) (.agg (u8s (cat3 QA QB QC))) rfl rfl (exec_prod _ _ _ rfl (QA) (QB) (QC) rfl rfl rfl hQA.len hQB.len hQC.len) ?_
  go_frame
  refine ls_op rfl (fun K' hK' => ?_)
  refine wp_store_bytes 53 _ _ rfl rfl Wa2.heap.size rfl (cat3 QA QB QC) rfl _ _ ha11 27 (by kernel_rfl) hq.len (by simp) (fun Wa12 pa13 => ?_)
  replace hB := pa13.below hB (by omega)
  replace ha5 := pa13.other ha5 (by omega)
  replace ha11 : At Wa12 Wa2.heap.size (.cells (u8s (cat3 QA QB QC)) 53 (0, 0)) := pa13.at_
  refine hK' _ _  ?_
  clear hK' K' pa13
  refine wpList_nil ?_
  go_wp2_with fail
  refine bodyPost_ret (results_at rfl _ _ (Wa2.heap.size) _ _ _ rfl ha11 Try.underlying53 rfl 27 (by kernel_rfl) ((u8s_size _).trans hq.len)) rfl ?_
  exact ⟨rfl, hB⟩
end Go.Proofs.Ytopdfblfhdooaaa
