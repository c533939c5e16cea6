/-
  impl.factorReaders, (impl.flip).isOf. (Made by mkfl.py.)
-/
import Derived.Test.YtemkhlokpinecaaMv1
import Derived.Test.YtemkhlokpinecaaSx
namespace Go.Proofs.Ytemkhlokpinecaa
open Go.RowKit
set_option maxRecDepth 100000
attribute [local irreducible] wpList
theorem wp_callv1 {P : Program} {Q : Exit → Act → World → Prop} {o : Oper} {a : Act} {w : World} {K : Act → World → Prop} (d : Option Tmp) (hd : o.dst = d) (fv x : Operand) (ts : Array TypeId) (ho : o.op = .call { callee := .value fv, args := #[x], argTypes := ts }) (f : Nat) (caps : Array Value) (hf : a.eval fv = .func (.func f) #[] caps) (hcall : ∀ args w, (callFunc f args).run P w = .ok (.enter f args) w)
    (v1 : Value) (hx : a.eval x = v1) (post : Ending → World → Prop) (hc : Calls P f (#[v1] ++ caps) w post) (h : ∀ e w', post e w' → ∃ v, e = .returned v ∧ K (a.put d v) w') : Oper.wp P o a w K Q := by
  subst hd
  have hm : #[x].map a.eval = #[v1] := by simp [hx]
  unfold Oper.wp execOp
  simp only [ho, resolve, hf, Deferred.ofValue, Sem.run_bind, Sem.run_pure, Result.andThen_ok, invoke, hcall, Array.empty_append, hm]
  rw [Oper.upon_enter]
  refine hc.mono fun e w' hp => ?_
  obtain ⟨v, rfl, hk⟩ := h e w' hp
  exact hk
theorem wp_call0 {P : Program} {Q : Exit → Act → World → Prop} {o : Oper} {a : Act} {w : World} {K : Act → World → Prop} (d : Option Tmp) (hd : o.dst = d) (f : Nat) (ts : Array TypeId) (ho : o.op = .call { callee := .value (.func f), args := #[], argTypes := ts }) (hcall : ∀ args w, (callFunc f args).run P w = .ok (.enter f args) w)
    (post : Ending → World → Prop) (hc : Calls P f #[] w post) (h : ∀ e w', post e w' → ∃ v, e = .returned v ∧ K (a.put d v) w') : Oper.wp P o a w K Q :=
  wp_call d hd f #[] ts ho hcall #[] (by simp) post hc h
/-- The reader of the factor f of a product. -/
def rdF (f : Nat) : Nat := if f = 0 then 114 else if f = 1 then 115 else 116
theorem call_rdF {f : Nat} (hf : f < 3) : ∀ args w, (callFunc (rdF f) args).run Try.prog w = .ok (.enter (rdF f) args) w := by
  obtain rfl | rfl | rfl : f = 0 ∨ f = 1 ∨ f = 2 := by omega
  all_goals exact fun args w => by kernel_rfl
theorem al__3_func_impl_Product__impl_Form {o : Oper} {a : Act} {w : World} (ho : o.op = .alloc 131) : (execOp a.eval o).run Try.prog w = .ok (.value (.pointer (some ⟨w.heap.size, 0, none⟩))) (w.alloc (.cells #[.nilFunc, .nilFunc, .nilFunc] 131 (0, 0))) := by
  unfold execOp
  rw [ho]
  kernel_rfl
theorem al_impl_Form {o : Oper} {a : Act} {w : World} (ho : o.op = .alloc 51) : (execOp a.eval o).run Try.prog w = .ok (.value (.pointer (some ⟨w.heap.size, 0, none⟩))) (w.alloc (.cells (u8s (List.replicate 9 0)) 51 (0, 0))) := by
  unfold execOp
  rw [ho]
  kernel_rfl
set_option maxHeartbeats 4000000 in
theorem readerA_c (q : List Nat) (hq : Bytes 27 q) (w : World) :
    Calls Try.prog 114 #[.agg (u8s q)] w (fun e w' => e = .returned (.agg (u8s (facQ q 0))) ∧ Below w.heap.size w w') := by
  have hB := Below.refl w.heap.size w
  skip
  go_enter Try.func114, Try.ntmps114
  go_upto_region 0 with (fail)
  refine wp_region_lit ?_
  refine ls_op rfl (fun K' hK' => ?_)
  have lz1 := hB.size
  refine wp_new (some 1) rfl (exec_box 53 _ rfl (u8s (q)) rfl) (fun Wz2 nnz3 => ?_)
  have bz4 := nnz3.below (Below.refl _ _) (Nat.le_refl _)
  replace hB := below_after hB bz4
  have hz5 : At Wz2 w.heap.size (.cells (u8s (q)) 53 (0, 0)) := nnz3.at_
  refine hK' _ _ ?_
  clear hK' K' nnz3 bz4
  go_frame
  refine ls_op rfl (fun K' hK' => ?_)
  have lz6 := hB.size
  have lz7 := hz5.lt
  refine wp_new (some 2) rfl (al_impl_Form rfl) (fun Wz8 nnz9 => ?_)
  have bz10 := nnz9.below (Below.refl _ _) (Nat.le_refl _)
  replace hB := below_after hB bz10
  replace hz5 := hz5.after bz10
  have hz11 : At Wz8 Wz2.heap.size (.cells (u8s (List.replicate 9 0)) 51 (0, 0)) := nnz9.at_
  refine hK' _ _ ?_
  clear hK' K' nnz9 bz10
  go_frame
  refine wpList_nil ?_
  go_upto_region 1 with (fail)
  refine wp_region_lit ?_
  refine ls_ex (some 3) (.pointer (some ⟨w.heap.size, 0, none⟩)) rfl rfl (exec_fieldAddr 53 _ 0 rfl _ (by kernel_rfl)) ?_
  go_frame
  refine ls_ex (some 4) (.agg (u8s (segm (q) 0 9))) rfl rfl (exec_load_seg 51 _ rfl w.heap.size (0) rfl _ (q) _ 9 hz5 Try.underlying51 rfl (by kernel_rfl) (by rw [hq.len]; omega) (segm (q) 0 9) rfl) ?_
  go_frame
  refine ls_op rfl (fun K' hK' => ?_)
  refine wp_store_bytes 51 _ _ rfl rfl Wz2.heap.size rfl (segm (q) 0 9) rfl _ _ hz11 9 (by kernel_rfl) (segm_len (by rw [hq.len]; omega)) (by simp) (fun Wz12 pz13 => ?_)
  replace hB := pz13.below hB (by omega)
  replace hz5 := pz13.other hz5 (by omega)
  replace hz11 : At Wz12 Wz2.heap.size (.cells (u8s (segm (q) 0 9)) 51 (0, 0)) := pz13.at_
  refine hK' _ _ ?_
  clear hK' K' pz13
  refine wpList_nil ?_
  go_wp2_with fail
  refine bodyPost_ret (results_at rfl _ _ Wz2.heap.size _ _ _ rfl hz11 Try.underlying51 rfl 9 (by kernel_rfl) ((u8s_size _).trans (segm_len (by rw [hq.len]; omega)))) rfl ?_
  exact ⟨rfl, hB⟩
set_option maxHeartbeats 4000000 in
theorem readerB_c (q : List Nat) (hq : Bytes 27 q) (w : World) :
    Calls Try.prog 115 #[.agg (u8s q)] w (fun e w' => e = .returned (.agg (u8s (facQ q 1))) ∧ Below w.heap.size w w') := by
  have hB := Below.refl w.heap.size w
  skip
  go_enter Try.func115, Try.ntmps115
  go_upto_region 0 with (fail)
  refine wp_region_lit ?_
  refine ls_op rfl (fun K' hK' => ?_)
  have lz1 := hB.size
  refine wp_new (some 1) rfl (exec_box 53 _ rfl (u8s (q)) rfl) (fun Wz2 nnz3 => ?_)
  have bz4 := nnz3.below (Below.refl _ _) (Nat.le_refl _)
  replace hB := below_after hB bz4
  have hz5 : At Wz2 w.heap.size (.cells (u8s (q)) 53 (0, 0)) := nnz3.at_
  refine hK' _ _ ?_
  clear hK' K' nnz3 bz4
  go_frame
  refine ls_op rfl (fun K' hK' => ?_)
  have lz6 := hB.size
  have lz7 := hz5.lt
  refine wp_new (some 2) rfl (al_impl_Form rfl) (fun Wz8 nnz9 => ?_)
  have bz10 := nnz9.below (Below.refl _ _) (Nat.le_refl _)
  replace hB := below_after hB bz10
  replace hz5 := hz5.after bz10
  have hz11 : At Wz8 Wz2.heap.size (.cells (u8s (List.replicate 9 0)) 51 (0, 0)) := nnz9.at_
  refine hK' _ _ ?_
  clear hK' K' nnz9 bz10
  go_frame
  refine wpList_nil ?_
  go_upto_region 1 with (fail)
  refine wp_region_lit ?_
  refine ls_ex (some 3) (.pointer (some ⟨w.heap.size, 9, none⟩)) rfl rfl (exec_fieldAddr 53 _ 1 rfl _ (by kernel_rfl)) ?_
  go_frame
  refine ls_ex (some 4) (.agg (u8s (segm (q) 9 9))) rfl rfl (exec_load_seg 51 _ rfl w.heap.size (9) rfl _ (q) _ 9 hz5 Try.underlying51 rfl (by kernel_rfl) (by rw [hq.len]; omega) (segm (q) 9 9) rfl) ?_
  go_frame
  refine ls_op rfl (fun K' hK' => ?_)
  refine wp_store_bytes 51 _ _ rfl rfl Wz2.heap.size rfl (segm (q) 9 9) rfl _ _ hz11 9 (by kernel_rfl) (segm_len (by rw [hq.len]; omega)) (by simp) (fun Wz12 pz13 => ?_)
  replace hB := pz13.below hB (by omega)
  replace hz5 := pz13.other hz5 (by omega)
  replace hz11 : At Wz12 Wz2.heap.size (.cells (u8s (segm (q) 9 9)) 51 (0, 0)) := pz13.at_
  refine hK' _ _ ?_
  clear hK' K' pz13
  refine wpList_nil ?_
  go_wp2_with fail
  refine bodyPost_ret (results_at rfl _ _ Wz2.heap.size _ _ _ rfl hz11 Try.underlying51 rfl 9 (by kernel_rfl) ((u8s_size _).trans (segm_len (by rw [hq.len]; omega)))) rfl ?_
  exact ⟨rfl, hB⟩
set_option maxHeartbeats 4000000 in
theorem readerC_c (q : List Nat) (hq : Bytes 27 q) (w : World) :
    Calls Try.prog 116 #[.agg (u8s q)] w (fun e w' => e = .returned (.agg (u8s (facQ q 2))) ∧ Below w.heap.size w w') := by
  have hB := Below.refl w.heap.size w
  skip
  go_enter Try.func116, Try.ntmps116
  go_upto_region 0 with (fail)
  refine wp_region_lit ?_
  refine ls_op rfl (fun K' hK' => ?_)
  have lz1 := hB.size
  refine wp_new (some 1) rfl (exec_box 53 _ rfl (u8s (q)) rfl) (fun Wz2 nnz3 => ?_)
  have bz4 := nnz3.below (Below.refl _ _) (Nat.le_refl _)
  replace hB := below_after hB bz4
  have hz5 : At Wz2 w.heap.size (.cells (u8s (q)) 53 (0, 0)) := nnz3.at_
  refine hK' _ _ ?_
  clear hK' K' nnz3 bz4
  go_frame
  refine ls_op rfl (fun K' hK' => ?_)
  have lz6 := hB.size
  have lz7 := hz5.lt
  refine wp_new (some 2) rfl (al_impl_Form rfl) (fun Wz8 nnz9 => ?_)
  have bz10 := nnz9.below (Below.refl _ _) (Nat.le_refl _)
  replace hB := below_after hB bz10
  replace hz5 := hz5.after bz10
  have hz11 : At Wz8 Wz2.heap.size (.cells (u8s (List.replicate 9 0)) 51 (0, 0)) := nnz9.at_
  refine hK' _ _ ?_
  clear hK' K' nnz9 bz10
  go_frame
  refine wpList_nil ?_
  go_upto_region 1 with (fail)
  refine wp_region_lit ?_
  refine ls_ex (some 3) (.pointer (some ⟨w.heap.size, 18, none⟩)) rfl rfl (exec_fieldAddr 53 _ 2 rfl _ (by kernel_rfl)) ?_
  go_frame
  refine ls_ex (some 4) (.agg (u8s (segm (q) 18 9))) rfl rfl (exec_load_seg 51 _ rfl w.heap.size (18) rfl _ (q) _ 9 hz5 Try.underlying51 rfl (by kernel_rfl) (by rw [hq.len]; omega) (segm (q) 18 9) rfl) ?_
  go_frame
  refine ls_op rfl (fun K' hK' => ?_)
  refine wp_store_bytes 51 _ _ rfl rfl Wz2.heap.size rfl (segm (q) 18 9) rfl _ _ hz11 9 (by kernel_rfl) (segm_len (by rw [hq.len]; omega)) (by simp) (fun Wz12 pz13 => ?_)
  replace hB := pz13.below hB (by omega)
  replace hz5 := pz13.other hz5 (by omega)
  replace hz11 : At Wz12 Wz2.heap.size (.cells (u8s (segm (q) 18 9)) 51 (0, 0)) := pz13.at_
  refine hK' _ _ ?_
  clear hK' K' pz13
  refine wpList_nil ?_
  go_wp2_with fail
  refine bodyPost_ret (results_at rfl _ _ Wz2.heap.size _ _ _ rfl hz11 Try.underlying51 rfl 9 (by kernel_rfl) ((u8s_size _).trans (segm_len (by rw [hq.len]; omega)))) rfl ?_
  exact ⟨rfl, hB⟩
theorem reader_c (q : List Nat) (f : Nat) (hq : Bytes 27 q) (hf : f < 3) (w : World) : Calls Try.prog (rdF f) #[.agg (u8s q)] w (fun e w' => e = .returned (.agg (u8s (facQ q f))) ∧ Below w.heap.size w w') := by
  obtain rfl | rfl | rfl : f = 0 ∨ f = 1 ∨ f = 2 := by omega
  · exact readerA_c q hq w
  · exact readerB_c q hq w
  · exact readerC_c q hq w
theorem exec_build_rds {o : Oper} {a : Act} {w : World} (ho : o.op = .build 131 #[(0, .func 114), (1, .func 115), (2, .func 116)]) : (execOp a.eval o).run Try.prog w = .ok (.value (.agg #[.func (.func 114) #[] #[], .func (.func 115) #[] #[], .func (.func 116) #[] #[]])) w := by
  unfold execOp
  rw [ho]
  kernel_rfl
set_option maxHeartbeats 4000000 in
theorem factorReaders_c (w : World) :
    Calls Try.prog 102 #[] w (fun e w' => e = .returned (.agg #[.func (.func 114) #[] #[], .func (.func 115) #[] #[], .func (.func 116) #[] #[]]) ∧ Below w.heap.size w w') := by
  have hB := Below.refl w.heap.size w
  skip
  go_enter Try.func102, Try.ntmps102
  go_upto_region 0 with (fail)
  refine wp_region_lit ?_
  refine ls_op rfl (fun K' hK' => ?_)
  have lz1 := hB.size
  refine wp_new (some 0) rfl (al__3_func_impl_Product__impl_Form rfl) (fun Wz2 nnz3 => ?_)
  have bz4 := nnz3.below (Below.refl _ _) (Nat.le_refl _)
  replace hB := below_after hB bz4
  have hz5 : At Wz2 w.heap.size (.cells #[.nilFunc, .nilFunc, .nilFunc] 131 (0, 0)) := nnz3.at_
  refine hK' _ _ ?_
  clear hK' K' nnz3 bz4
  go_frame
  refine wpList_nil ?_
  go_upto_region 1 with (fail)
  refine wp_region_lit ?_
  refine ls_ex (some 1) (.agg #[.func (.func 114) #[] #[], .func (.func 115) #[] #[], .func (.func 116) #[] #[]]) rfl rfl (exec_build_rds rfl) ?_
  go_frame
  refine ls_op rfl (fun K' hK' => ?_)
  refine wp_store_all 131 _ _ rfl rfl w.heap.size rfl #[.func (.func 114) #[] #[], .func (.func 115) #[] #[], .func (.func 116) #[] #[]] rfl _ _ hz5 3 (by kernel_rfl) rfl rfl (by intro x hx; simp at hx; rcases hx with rfl | rfl | rfl <;> rfl) (fun Wz6 pz7 => ?_)
  replace hB := pz7.below hB (by omega)
  replace hz5 : At Wz6 w.heap.size (.cells #[.func (.func 114) #[] #[], .func (.func 115) #[] #[], .func (.func 116) #[] #[]] 131 (0, 0)) := pz7.at_
  refine hK' _ _ ?_
  clear hK' K' pz7
  refine wpList_nil ?_
  go_wp2_with fail
  refine bodyPost_ret (results_at rfl _ _ w.heap.size _ _ _ rfl hz5 Try.underlying131 rfl 3 (by kernel_rfl) rfl) rfl ?_
  exact ⟨rfl, hB⟩
theorem exec_index_rd {o : Oper} {a : Act} {w : World} (x i : Operand) (ho : o.op = .index 131 x i) (f : Nat) (hf : f < 3) (hx : a.eval x = .agg #[.func (.func 114) #[] #[], .func (.func 115) #[] #[], .func (.func 116) #[] #[]]) (hi : a.eval i = .int .i64 f) :
    (execOp a.eval o).run Try.prog w = .ok (.value (.func (.func (rdF f)) #[] #[])) w := by
  unfold execOp
  rw [ho]
  simp only [hx, hi]
  obtain rfl | rfl | rfl : f = 0 ∨ f = 1 ∨ f = 2 := by omega
  all_goals kernel_rfl
theorem Rd.cFl {w : World} {b off : Nat} {ts : List (List Nat)} (h : Rd w (some ⟨b, off, none⟩) ts) {i : Nat} {Q : List Nat} (hi : ts[i]? = some Q) : ∀ j, j < 27 → w.cell? ⟨b, off + i * 27 + j, none⟩ = some (.int .u8 ((Q[j]?.getD 0 : Nat) : Int)) := by
  obtain ⟨hlt, rfl⟩ := List.getElem?_eq_some_iff.1 hi
  obtain ⟨b', off', e, hc⟩ := h.at_ hlt
  simp only [Option.some.injEq, Addr.mk.injEq, and_true] at e
  obtain ⟨rfl, rfl⟩ := e
  exact hc
/-- Whether two products can be flipped at a factor. -/
def flB (Q R : List Nat) (i j f : Nat) : Bool := decide (i ≠ j) && (facQ Q f == facQ R f)
set_option maxHeartbeats 4000000 in
theorem isOf_false (p n m k : Int) (b off c : Nat) (qs : List (List Nat)) (i j f : Nat) (Q R : List Nat) (w : World) (hR : Rd w (some ⟨b, off, none⟩) qs) (hQ : qs[i]? = some Q) (hRj : qs[j]? = some R) (hf : f < 3) (hlen : qs.length ≤ 1048576) (hne : i = j) :
    Calls Try.prog 70 #[.agg #[.int .i64 i, .int .i64 j, .int .i64 f], .agg #[.int .i64 p, .int .i64 n, .int .i64 m, .int .i64 k, .slice (some ⟨b, off, none⟩) qs.length c]] w (fun e w' => e = .returned (.bool (flB Q R i j f)) ∧ Below w.heap.size w w') := by
  have hB := Below.refl w.heap.size w
  have HQi := Lib.hid hQ
  have HRj := Lib.hid hRj
  have HQ := Lib.hid (hR.good _ (List.mem_of_getElem? hQ))
  have HRb := Lib.hid (hR.good _ (List.mem_of_getElem? hRj))
  have hi := (List.getElem?_eq_some_iff.1 hQ).1
  have hj := (List.getElem?_eq_some_iff.1 hRj).1
  have HV : Hid (flB Q R i j f = false) := Lib.hid (by unfold flB; simp [hne])
  clear hQ hRj
  go_enter Try.func70, Try.ntmps70
  go_upto_region 0 with (fail)
  refine wp_region_lit ?_
  refine ls_op rfl (fun K' hK' => ?_)
  have lz1 := hB.size
  refine wp_new (some 2) rfl (exec_box 68 _ rfl (#[.int .i64 i, .int .i64 j, .int .i64 f]) rfl) (fun Wz2 nnz3 => ?_)
  have bz4 := nnz3.below (Below.refl _ _) (Nat.le_refl _)
  replace hB := below_after hB bz4
  have hz5 : At Wz2 w.heap.size (.cells #[.int .i64 i, .int .i64 j, .int .i64 f] 68 (0, 0)) := nnz3.at_
  refine hK' _ _ ?_
  clear hK' K' nnz3 bz4
  go_frame
  refine ls_op rfl (fun K' hK' => ?_)
  have lz6 := hB.size
  have lz7 := hz5.lt
  refine wp_new (some 3) rfl (exec_box 28 _ rfl (#[.int .i64 p, .int .i64 n, .int .i64 m, .int .i64 k, .slice (some ⟨b, off, none⟩) qs.length c]) rfl) (fun Wz8 nnz9 => ?_)
  have bz10 := nnz9.below (Below.refl _ _) (Nat.le_refl _)
  replace hB := below_after hB bz10
  replace hz5 := hz5.after bz10
  have hz11 : At Wz8 Wz2.heap.size (.cells #[.int .i64 p, .int .i64 n, .int .i64 m, .int .i64 k, .slice (some ⟨b, off, none⟩) qs.length c] 28 (0, 0)) := nnz9.at_
  refine hK' _ _ ?_
  clear hK' K' nnz9 bz10
  go_frame
  refine ls_ex (some 4) (.bool false) rfl rfl (exec_assign _ rfl (.bool false) rfl) ?_
  go_frame
  refine wpList_nil ?_
  go_upto_region 1 with (fail)
  refine wp_region_y (zs := []) (S := fun w' => Below w.heap.size w w' ∧ At w' w.heap.size (.cells #[.int .i64 i, .int .i64 j, .int .i64 f] 68 (0, 0))) (S2 := fun w' => True) (by kernel_rfl) ?_
  change wpAnyY _ _ _ _ _ _ _ _ _ _ (World.drew _)
  generalize hwdz12 : World.drew _ = wdz12
  replace hB : Below w.heap.size w wdz12 := by rw [← hwdz12]; exact hB.drew
  replace hz5 : At wdz12 w.heap.size (.cells #[.int .i64 i, .int .i64 j, .int .i64 f] 68 (0, 0)) := by rw [← hwdz12]; exact hz5
  replace hz11 : At wdz12 Wz2.heap.size (.cells #[.int .i64 p, .int .i64 n, .int .i64 m, .int .i64 k, .slice (some ⟨b, off, none⟩) qs.length c] 28 (0, 0)) := by rw [← hwdz12]; exact hz11
  clear hwdz12
  refine y_yield 1 (some 7) (.pointer (some ⟨w.heap.size, 2, none⟩)) rfl (by kernel_rfl) (by kernel_rfl) (by kernel_rfl) (fun _ _ _ h => h) rfl rfl ⟨hB, hz5⟩ (fun w' h' => exec_fieldAddr 68 _ 2 rfl _ (by kernel_rfl)) ?_
  go_frame
  refine y_yield 2 (some 8) (.int .i64 f) rfl (by kernel_rfl) (by kernel_rfl) (by kernel_rfl) (fun _ _ _ h => h) rfl rfl ⟨hB, hz5⟩ (fun w' h' => exec_load_one 2 _ rfl w.heap.size 2 rfl (.int .i64 f) _ Try.underlying2 rfl (h'.2.at_ 2)) ?_
  go_frame
  refine y_oper 0 (by kernel_rfl) rfl rfl (fun K' hK' => ?_)
  have lz15 := hB.size
  have lz16 := hz5.lt
  have lz17 := hz11.lt
  refine wp_call0 (some 6) rfl 102  _ rfl (fun args w => by kernel_rfl)   _ (factorReaders_c _) (fun e Wz13 h => ?_)
  obtain ⟨rfl, bz14⟩ := h
  replace hB := below_after hB bz14
  replace hz5 := hz5.after bz14
  replace hz11 := hz11.after bz14
  clear bz14
  refine ⟨_, rfl, ?_⟩
  refine hK' _ _ ⟨hB, hz5⟩ (fun _ => trivial) ?_
  clear hK' K'
  go_frame
  refine y_yield 3 (some 9) (.func (.func (rdF f)) #[] #[]) rfl (by kernel_rfl) (by kernel_rfl) (by kernel_rfl) (fun _ _ _ h => h) rfl rfl ⟨hB, hz5⟩ (fun w' h' => exec_index_rd _ _ rfl f hf rfl rfl) ?_
  go_frame
  refine y_oper 4 (by kernel_rfl) rfl rfl (fun K' hK' => ?_)
  refine wp_exec (some 5) rfl (.func (.func (rdF f)) #[] #[]) (exec_assign _ rfl (.func (.func (rdF f)) #[] #[]) rfl) ?_
  refine hK' _ _ ⟨hB, hz5⟩ (fun _ => trivial) ?_
  clear hK' K'
  go_frame
  refine y_done (by kernel_rfl) ?_ _
  go_upto_region 2 with (fail)
  refine wp_region_y (zs := []) (S := fun w' => Below w.heap.size w w' ∧ At w' w.heap.size (.cells #[.int .i64 i, .int .i64 j, .int .i64 f] 68 (0, 0))) (S2 := fun w' => True) (by kernel_rfl) ?_
  change wpAnyY _ _ _ _ _ _ _ _ _ _ (World.drew _)
  generalize hwdz18 : World.drew _ = wdz18
  replace hB : Below w.heap.size w wdz18 := by rw [← hwdz18]; exact hB.drew
  replace hz5 : At wdz18 w.heap.size (.cells #[.int .i64 i, .int .i64 j, .int .i64 f] 68 (0, 0)) := by rw [← hwdz18]; exact hz5
  replace hz11 : At wdz18 Wz2.heap.size (.cells #[.int .i64 p, .int .i64 n, .int .i64 m, .int .i64 k, .slice (some ⟨b, off, none⟩) qs.length c] 28 (0, 0)) := by rw [← hwdz18]; exact hz11
  clear hwdz18
  refine y_yield 0 (some 10) (.pointer (some ⟨w.heap.size, 0, none⟩)) rfl (by kernel_rfl) (by kernel_rfl) (by kernel_rfl) (fun _ _ _ h => h) rfl rfl ⟨hB, hz5⟩ (fun w' h' => exec_fieldAddr 68 _ 0 rfl _ (by kernel_rfl)) ?_
  go_frame
  refine y_yield 1 (some 11) (.int .i64 i) rfl (by kernel_rfl) (by kernel_rfl) (by kernel_rfl) (fun _ _ _ h => h) rfl rfl ⟨hB, hz5⟩ (fun w' h' => exec_load_one 2 _ rfl w.heap.size 0 rfl (.int .i64 i) _ Try.underlying2 rfl (h'.2.at_ 0)) ?_
  go_frame
  refine y_yield 2 (some 12) (.pointer (some ⟨w.heap.size, 1, none⟩)) rfl (by kernel_rfl) (by kernel_rfl) (by kernel_rfl) (fun _ _ _ h => h) rfl rfl ⟨hB, hz5⟩ (fun w' h' => exec_fieldAddr 68 _ 1 rfl _ (by kernel_rfl)) ?_
  go_frame
  refine y_yield 3 (some 13) (.int .i64 j) rfl (by kernel_rfl) (by kernel_rfl) (by kernel_rfl) (fun _ _ _ h => h) rfl rfl ⟨hB, hz5⟩ (fun w' h' => exec_load_one 2 _ rfl w.heap.size 1 rfl (.int .i64 j) _ Try.underlying2 rfl (h'.2.at_ 1)) ?_
  go_frame
  refine y_yield 4 (some 14) (.bool false) rfl (by kernel_rfl) (by kernel_rfl) (by kernel_rfl) (fun _ _ _ h => h) rfl rfl ⟨hB, hz5⟩ (fun w' h' => exec_neq _ _ _ _ rfl i j rfl rfl false (by simp; omega)) ?_
  go_frame
  refine y_yield 5 (some 15) (.bool false) rfl (by kernel_rfl) (by kernel_rfl) (by kernel_rfl) (fun _ _ _ h => h) rfl rfl ⟨hB, hz5⟩ (fun w' h' => exec_move _ rfl (.bool false) rfl) ?_
  go_frame
  refine y_skip 6 (some 16) rfl (by kernel_rfl) (by kernel_rfl) (by kernel_rfl) (fun _ _ _ h => h) rfl rfl ⟨hB, hz5⟩ ?_
  go_frame
  refine y_skip 7 (some 17) rfl (by kernel_rfl) (by kernel_rfl) (by kernel_rfl) (fun _ _ _ h => h) rfl rfl ⟨hB, hz5⟩ ?_
  go_frame
  refine y_skip 8 (some 18) rfl (by kernel_rfl) (by kernel_rfl) (by kernel_rfl) (fun _ _ _ h => h) rfl rfl ⟨hB, hz5⟩ ?_
  go_frame
  refine y_skip 9 (some 19) rfl (by kernel_rfl) (by kernel_rfl) (by kernel_rfl) (fun _ _ _ h => h) rfl rfl ⟨hB, hz5⟩ ?_
  go_frame
  refine y_skip 10 (some 20) rfl (by kernel_rfl) (by kernel_rfl) (by kernel_rfl) (fun _ _ _ h => h) rfl rfl ⟨hB, hz5⟩ ?_
  go_frame
  refine y_skip 11 (some 21) rfl (by kernel_rfl) (by kernel_rfl) (by kernel_rfl) (fun _ _ _ h => h) rfl rfl ⟨hB, hz5⟩ ?_
  go_frame
  refine y_skip 12 (some 22) rfl (by kernel_rfl) (by kernel_rfl) (by kernel_rfl) (fun _ _ _ h => h) rfl rfl ⟨hB, hz5⟩ ?_
  go_frame
  refine y_skip 14 (some 24) rfl (by kernel_rfl) (by kernel_rfl) (by kernel_rfl) (fun _ _ _ h => h) rfl rfl ⟨hB, hz5⟩ ?_
  go_frame
  refine y_skip 15 (some 25) rfl (by kernel_rfl) (by kernel_rfl) (by kernel_rfl) (fun _ _ _ h => h) rfl rfl ⟨hB, hz5⟩ ?_
  go_frame
  refine y_skip 16 (some 26) rfl (by kernel_rfl) (by kernel_rfl) (by kernel_rfl) (fun _ _ _ h => h) rfl rfl ⟨hB, hz5⟩ ?_
  go_frame
  refine y_skip 17 (some 27) rfl (by kernel_rfl) (by kernel_rfl) (by kernel_rfl) (fun _ _ _ h => h) rfl rfl ⟨hB, hz5⟩ ?_
  go_frame
  refine y_skip 18 (some 28) rfl (by kernel_rfl) (by kernel_rfl) (by kernel_rfl) (fun _ _ _ h => h) rfl rfl ⟨hB, hz5⟩ ?_
  go_frame
  refine y_skip 19 (some 29) rfl (by kernel_rfl) (by kernel_rfl) (by kernel_rfl) (fun _ _ _ h => h) rfl rfl ⟨hB, hz5⟩ ?_
  go_frame
  refine y_skip 20 (some 30) rfl (by kernel_rfl) (by kernel_rfl) (by kernel_rfl) (fun _ _ _ h => h) rfl rfl ⟨hB, hz5⟩ ?_
  go_frame
  refine y_pass 13 (some 23) (by kernel_rfl) rfl rfl rfl ⟨hB, hz5⟩ ?_
  go_frame
  refine y_pass 21 (some 31) (by kernel_rfl) rfl rfl rfl ⟨hB, hz5⟩ ?_
  go_frame
  refine y_skip 22 (some 32) rfl (by kernel_rfl) (by kernel_rfl) (by kernel_rfl) (fun _ _ _ h => h) rfl rfl ⟨hB, hz5⟩ ?_
  go_frame
  refine y_yield 23 (some 33) (.bool false) rfl (by kernel_rfl) (by kernel_rfl) (by kernel_rfl) (fun _ _ _ h => h) rfl rfl ⟨hB, hz5⟩ (fun w' h' => exec_pick _ _ _ rfl false rfl (.bool false) rfl) ?_
  go_frame
  refine y_oper 24 (by kernel_rfl) rfl rfl (fun K' hK' => ?_)
  refine wp_exec (some 4) rfl (.bool false) (exec_assign _ rfl (.bool false) rfl) ?_
  refine hK' _ _ ⟨hB, hz5⟩ (fun _ => trivial) ?_
  clear hK' K'
  go_frame
  refine y_done (by kernel_rfl) ?_ _
  go_wp2_with fail
  go_ret
  exact ⟨by rw [HV.out]; rfl, hB⟩
set_option maxHeartbeats 4000000 in
theorem isOf_true (p n m k : Int) (b off c : Nat) (qs : List (List Nat)) (i j f : Nat) (Q R : List Nat) (w : World) (hR : Rd w (some ⟨b, off, none⟩) qs) (hQ : qs[i]? = some Q) (hRj : qs[j]? = some R) (hf : f < 3) (hlen : qs.length ≤ 1048576) (hne : i ≠ j) :
    Calls Try.prog 70 #[.agg #[.int .i64 i, .int .i64 j, .int .i64 f], .agg #[.int .i64 p, .int .i64 n, .int .i64 m, .int .i64 k, .slice (some ⟨b, off, none⟩) qs.length c]] w (fun e w' => e = .returned (.bool (flB Q R i j f)) ∧ Below w.heap.size w w') := by
  have hB := Below.refl w.heap.size w
  have HQi := Lib.hid hQ
  have HRj := Lib.hid hRj
  have HQ := Lib.hid (hR.good _ (List.mem_of_getElem? hQ))
  have HRb := Lib.hid (hR.good _ (List.mem_of_getElem? hRj))
  have hi := (List.getElem?_eq_some_iff.1 hQ).1
  have hj := (List.getElem?_eq_some_iff.1 hRj).1
  have HV : Hid (flB Q R i j f = (facQ Q f == facQ R f)) := Lib.hid (by unfold flB; simp [hne])
  clear hQ hRj
  go_enter Try.func70, Try.ntmps70
  go_upto_region 0 with (fail)
  refine wp_region_lit ?_
  refine ls_op rfl (fun K' hK' => ?_)
  have lz1 := hB.size
  refine wp_new (some 2) rfl (exec_box 68 _ rfl (#[.int .i64 i, .int .i64 j, .int .i64 f]) rfl) (fun Wz2 nnz3 => ?_)
  have bz4 := nnz3.below (Below.refl _ _) (Nat.le_refl _)
  replace hB := below_after hB bz4
  have hz5 : At Wz2 w.heap.size (.cells #[.int .i64 i, .int .i64 j, .int .i64 f] 68 (0, 0)) := nnz3.at_
  refine hK' _ _ ?_
  clear hK' K' nnz3 bz4
  go_frame
  refine ls_op rfl (fun K' hK' => ?_)
  have lz6 := hB.size
  have lz7 := hz5.lt
  refine wp_new (some 3) rfl (exec_box 28 _ rfl (#[.int .i64 p, .int .i64 n, .int .i64 m, .int .i64 k, .slice (some ⟨b, off, none⟩) qs.length c]) rfl) (fun Wz8 nnz9 => ?_)
  have bz10 := nnz9.below (Below.refl _ _) (Nat.le_refl _)
  replace hB := below_after hB bz10
  replace hz5 := hz5.after bz10
  have hz11 : At Wz8 Wz2.heap.size (.cells #[.int .i64 p, .int .i64 n, .int .i64 m, .int .i64 k, .slice (some ⟨b, off, none⟩) qs.length c] 28 (0, 0)) := nnz9.at_
  refine hK' _ _ ?_
  clear hK' K' nnz9 bz10
  go_frame
  refine ls_ex (some 4) (.bool false) rfl rfl (exec_assign _ rfl (.bool false) rfl) ?_
  go_frame
  refine wpList_nil ?_
  go_upto_region 1 with (fail)
  refine wp_region_y (zs := []) (S := fun w' => Below w.heap.size w w' ∧ At w' w.heap.size (.cells #[.int .i64 i, .int .i64 j, .int .i64 f] 68 (0, 0))) (S2 := fun w' => True) (by kernel_rfl) ?_
  change wpAnyY _ _ _ _ _ _ _ _ _ _ (World.drew _)
  generalize hwdz12 : World.drew _ = wdz12
  replace hB : Below w.heap.size w wdz12 := by rw [← hwdz12]; exact hB.drew
  replace hz5 : At wdz12 w.heap.size (.cells #[.int .i64 i, .int .i64 j, .int .i64 f] 68 (0, 0)) := by rw [← hwdz12]; exact hz5
  replace hz11 : At wdz12 Wz2.heap.size (.cells #[.int .i64 p, .int .i64 n, .int .i64 m, .int .i64 k, .slice (some ⟨b, off, none⟩) qs.length c] 28 (0, 0)) := by rw [← hwdz12]; exact hz11
  clear hwdz12
  refine y_yield 1 (some 7) (.pointer (some ⟨w.heap.size, 2, none⟩)) rfl (by kernel_rfl) (by kernel_rfl) (by kernel_rfl) (fun _ _ _ h => h) rfl rfl ⟨hB, hz5⟩ (fun w' h' => exec_fieldAddr 68 _ 2 rfl _ (by kernel_rfl)) ?_
  go_frame
  refine y_yield 2 (some 8) (.int .i64 f) rfl (by kernel_rfl) (by kernel_rfl) (by kernel_rfl) (fun _ _ _ h => h) rfl rfl ⟨hB, hz5⟩ (fun w' h' => exec_load_one 2 _ rfl w.heap.size 2 rfl (.int .i64 f) _ Try.underlying2 rfl (h'.2.at_ 2)) ?_
  go_frame
  refine y_oper 0 (by kernel_rfl) rfl rfl (fun K' hK' => ?_)
  have lz15 := hB.size
  have lz16 := hz5.lt
  have lz17 := hz11.lt
  refine wp_call0 (some 6) rfl 102  _ rfl (fun args w => by kernel_rfl)   _ (factorReaders_c _) (fun e Wz13 h => ?_)
  obtain ⟨rfl, bz14⟩ := h
  replace hB := below_after hB bz14
  replace hz5 := hz5.after bz14
  replace hz11 := hz11.after bz14
  clear bz14
  refine ⟨_, rfl, ?_⟩
  refine hK' _ _ ⟨hB, hz5⟩ (fun _ => trivial) ?_
  clear hK' K'
  go_frame
  refine y_yield 3 (some 9) (.func (.func (rdF f)) #[] #[]) rfl (by kernel_rfl) (by kernel_rfl) (by kernel_rfl) (fun _ _ _ h => h) rfl rfl ⟨hB, hz5⟩ (fun w' h' => exec_index_rd _ _ rfl f hf rfl rfl) ?_
  go_frame
  refine y_oper 4 (by kernel_rfl) rfl rfl (fun K' hK' => ?_)
  refine wp_exec (some 5) rfl (.func (.func (rdF f)) #[] #[]) (exec_assign _ rfl (.func (.func (rdF f)) #[] #[]) rfl) ?_
  refine hK' _ _ ⟨hB, hz5⟩ (fun _ => trivial) ?_
  clear hK' K'
  go_frame
  refine y_done (by kernel_rfl) ?_ _
  go_upto_region 2 with (fail)
  refine wp_region_y (zs := []) (S := fun w' => Below w.heap.size w w' ∧ At w' w.heap.size (.cells #[.int .i64 i, .int .i64 j, .int .i64 f] 68 (0, 0)) ∧ At w' Wz2.heap.size (.cells #[.int .i64 p, .int .i64 n, .int .i64 m, .int .i64 k, .slice (some ⟨b, off, none⟩) qs.length c] 28 (0, 0))) (S2 := fun w' => True) (by kernel_rfl) ?_
  change wpAnyY _ _ _ _ _ _ _ _ _ _ (World.drew _)
  generalize hwdz18 : World.drew _ = wdz18
  replace hB : Below w.heap.size w wdz18 := by rw [← hwdz18]; exact hB.drew
  replace hz5 : At wdz18 w.heap.size (.cells #[.int .i64 i, .int .i64 j, .int .i64 f] 68 (0, 0)) := by rw [← hwdz18]; exact hz5
  replace hz11 : At wdz18 Wz2.heap.size (.cells #[.int .i64 p, .int .i64 n, .int .i64 m, .int .i64 k, .slice (some ⟨b, off, none⟩) qs.length c] 28 (0, 0)) := by rw [← hwdz18]; exact hz11
  clear hwdz18
  refine y_yield 0 (some 10) (.pointer (some ⟨w.heap.size, 0, none⟩)) rfl (by kernel_rfl) (by kernel_rfl) (by kernel_rfl) (fun _ _ _ h => h) rfl rfl ⟨hB, hz5, hz11⟩ (fun w' h' => exec_fieldAddr 68 _ 0 rfl _ (by kernel_rfl)) ?_
  go_frame
  refine y_yield 1 (some 11) (.int .i64 i) rfl (by kernel_rfl) (by kernel_rfl) (by kernel_rfl) (fun _ _ _ h => h) rfl rfl ⟨hB, hz5, hz11⟩ (fun w' h' => exec_load_one 2 _ rfl w.heap.size 0 rfl (.int .i64 i) _ Try.underlying2 rfl (h'.2.1.at_ 0)) ?_
  go_frame
  refine y_yield 2 (some 12) (.pointer (some ⟨w.heap.size, 1, none⟩)) rfl (by kernel_rfl) (by kernel_rfl) (by kernel_rfl) (fun _ _ _ h => h) rfl rfl ⟨hB, hz5, hz11⟩ (fun w' h' => exec_fieldAddr 68 _ 1 rfl _ (by kernel_rfl)) ?_
  go_frame
  refine y_yield 3 (some 13) (.int .i64 j) rfl (by kernel_rfl) (by kernel_rfl) (by kernel_rfl) (fun _ _ _ h => h) rfl rfl ⟨hB, hz5, hz11⟩ (fun w' h' => exec_load_one 2 _ rfl w.heap.size 1 rfl (.int .i64 j) _ Try.underlying2 rfl (h'.2.1.at_ 1)) ?_
  go_frame
  refine y_yield 4 (some 14) (.bool true) rfl (by kernel_rfl) (by kernel_rfl) (by kernel_rfl) (fun _ _ _ h => h) rfl rfl ⟨hB, hz5, hz11⟩ (fun w' h' => exec_neq _ _ _ _ rfl i j rfl rfl true (by simp; omega)) ?_
  go_frame
  refine y_yield 5 (some 15) (.bool true) rfl (by kernel_rfl) (by kernel_rfl) (by kernel_rfl) (fun _ _ _ h => h) rfl rfl ⟨hB, hz5, hz11⟩ (fun w' h' => exec_move _ rfl (.bool true) rfl) ?_
  go_frame
  refine y_yield 6 (some 16) (.func (.func (rdF f)) #[] #[]) rfl (by kernel_rfl) (by kernel_rfl) (by kernel_rfl) (fun _ _ _ h => h) rfl rfl ⟨hB, hz5, hz11⟩ (fun w' h' => exec_move _ rfl (.func (.func (rdF f)) #[] #[]) rfl) ?_
  go_frame
  refine y_yield 7 (some 17) (.pointer (some ⟨Wz2.heap.size, 4, none⟩)) rfl (by kernel_rfl) (by kernel_rfl) (by kernel_rfl) (fun _ _ _ h => h) rfl rfl ⟨hB, hz5, hz11⟩ (fun w' h' => exec_fieldAddr 28 _ 4 rfl _ (by kernel_rfl)) ?_
  go_frame
  refine y_yield 8 (some 18) (.slice (some ⟨b, off, none⟩) qs.length c) rfl (by kernel_rfl) (by kernel_rfl) (by kernel_rfl) (fun _ _ _ h => h) rfl rfl ⟨hB, hz5, hz11⟩ (fun w' h' => exec_load_one 26 _ rfl Wz2.heap.size 4 rfl (.slice (some ⟨b, off, none⟩) qs.length c) _ Try.underlying26 rfl (h'.2.2.at_ 4)) ?_
  go_frame
  refine y_yield 9 (some 19) (.pointer (some ⟨w.heap.size, 0, none⟩)) rfl (by kernel_rfl) (by kernel_rfl) (by kernel_rfl) (fun _ _ _ h => h) rfl rfl ⟨hB, hz5, hz11⟩ (fun w' h' => exec_fieldAddr 68 _ 0 rfl _ (by kernel_rfl)) ?_
  go_frame
  refine y_yield 10 (some 20) (.int .i64 i) rfl (by kernel_rfl) (by kernel_rfl) (by kernel_rfl) (fun _ _ _ h => h) rfl rfl ⟨hB, hz5, hz11⟩ (fun w' h' => exec_load_one 2 _ rfl w.heap.size 0 rfl (.int .i64 i) _ Try.underlying2 rfl (h'.2.1.at_ 0)) ?_
  go_frame
  refine y_yield 11 (some 21) (.pointer (some ⟨b, off + i * 27, none⟩)) rfl (by kernel_rfl) (by kernel_rfl) (by kernel_rfl) (fun _ _ _ h => h) rfl rfl ⟨hB, hz5, hz11⟩ (fun w' h' => exec_index_slice _ 53 _ _ rfl b off qs.length c i 27 rfl rfl Try.underlying26 (by kernel_rfl) (by omega)) ?_
  go_frame
  refine y_yield 12 (some 22) (.agg (u8s (Q))) rfl (by kernel_rfl) (by kernel_rfl) (by kernel_rfl) (fun _ _ _ h => h) rfl rfl ⟨hB, hz5, hz11⟩ (fun w' h' => exec_load_cells 53 _ rfl b (off + i * 27) rfl (Q) _ 27 (Rd.cFl (hR.keep h'.1) HQi.out) Try.underlying53 rfl (by kernel_rfl) (HQ.out.len)) ?_
  go_frame
  refine y_yield 14 (some 24) (.func (.func (rdF f)) #[] #[]) rfl (by kernel_rfl) (by kernel_rfl) (by kernel_rfl) (fun _ _ _ h => h) rfl rfl ⟨hB, hz5, hz11⟩ (fun w' h' => exec_move _ rfl (.func (.func (rdF f)) #[] #[]) rfl) ?_
  go_frame
  refine y_yield 15 (some 25) (.pointer (some ⟨Wz2.heap.size, 4, none⟩)) rfl (by kernel_rfl) (by kernel_rfl) (by kernel_rfl) (fun _ _ _ h => h) rfl rfl ⟨hB, hz5, hz11⟩ (fun w' h' => exec_fieldAddr 28 _ 4 rfl _ (by kernel_rfl)) ?_
  go_frame
  refine y_yield 16 (some 26) (.slice (some ⟨b, off, none⟩) qs.length c) rfl (by kernel_rfl) (by kernel_rfl) (by kernel_rfl) (fun _ _ _ h => h) rfl rfl ⟨hB, hz5, hz11⟩ (fun w' h' => exec_load_one 26 _ rfl Wz2.heap.size 4 rfl (.slice (some ⟨b, off, none⟩) qs.length c) _ Try.underlying26 rfl (h'.2.2.at_ 4)) ?_
  go_frame
  refine y_yield 17 (some 27) (.pointer (some ⟨w.heap.size, 1, none⟩)) rfl (by kernel_rfl) (by kernel_rfl) (by kernel_rfl) (fun _ _ _ h => h) rfl rfl ⟨hB, hz5, hz11⟩ (fun w' h' => exec_fieldAddr 68 _ 1 rfl _ (by kernel_rfl)) ?_
  go_frame
  refine y_yield 18 (some 28) (.int .i64 j) rfl (by kernel_rfl) (by kernel_rfl) (by kernel_rfl) (fun _ _ _ h => h) rfl rfl ⟨hB, hz5, hz11⟩ (fun w' h' => exec_load_one 2 _ rfl w.heap.size 1 rfl (.int .i64 j) _ Try.underlying2 rfl (h'.2.1.at_ 1)) ?_
  go_frame
  refine y_yield 19 (some 29) (.pointer (some ⟨b, off + j * 27, none⟩)) rfl (by kernel_rfl) (by kernel_rfl) (by kernel_rfl) (fun _ _ _ h => h) rfl rfl ⟨hB, hz5, hz11⟩ (fun w' h' => exec_index_slice _ 53 _ _ rfl b off qs.length c j 27 rfl rfl Try.underlying26 (by kernel_rfl) (by omega)) ?_
  go_frame
  refine y_yield 20 (some 30) (.agg (u8s (R))) rfl (by kernel_rfl) (by kernel_rfl) (by kernel_rfl) (fun _ _ _ h => h) rfl rfl ⟨hB, hz5, hz11⟩ (fun w' h' => exec_load_cells 53 _ rfl b (off + j * 27) rfl (R) _ 27 (Rd.cFl (hR.keep h'.1) HRj.out) Try.underlying53 rfl (by kernel_rfl) (HRb.out.len)) ?_
  go_frame
  refine y_oper 13 (by kernel_rfl) rfl rfl (fun K' hK' => ?_)
  have lz21 := hB.size
  have lz22 := hz5.lt
  have lz23 := hz11.lt
  refine wp_callv1 (some 23) rfl _ _ _ rfl (rdF f) #[] rfl (call_rdF hf) _ rfl _ (reader_c Q f HQ.out hf _) (fun e Wz19 h => ?_)
  obtain ⟨rfl, bz20⟩ := h
  replace hB := below_after hB bz20
  replace hz5 := hz5.after bz20
  replace hz11 := hz11.after bz20
  clear bz20
  refine ⟨_, rfl, ?_⟩
  refine hK' _ _ ⟨hB, hz5, hz11⟩ (fun _ => trivial) ?_
  clear hK' K'
  go_frame
  refine y_oper 21 (by kernel_rfl) rfl rfl (fun K' hK' => ?_)
  have lz26 := hB.size
  have lz27 := hz5.lt
  have lz28 := hz11.lt
  refine wp_callv1 (some 31) rfl _ _ _ rfl (rdF f) #[] rfl (call_rdF hf) _ rfl _ (reader_c R f HRb.out hf _) (fun e Wz24 h => ?_)
  obtain ⟨rfl, bz25⟩ := h
  replace hB := below_after hB bz25
  replace hz5 := hz5.after bz25
  replace hz11 := hz11.after bz25
  clear bz25
  refine ⟨_, rfl, ?_⟩
  refine hK' _ _ ⟨hB, hz5, hz11⟩ (fun _ => trivial) ?_
  clear hK' K'
  go_frame
  refine y_yield 22 (some 32) (.bool (facQ Q f == facQ R f)) rfl (by kernel_rfl) (by kernel_rfl) (by kernel_rfl) (fun _ _ _ h => h) rfl rfl ⟨hB, hz5, hz11⟩ (fun w' h' => exec_eql_u8s_b 51 _ 5 _ _ rfl 9 Try.underlying51 Try.underlying5 (by kernel_rfl) (by kernel_rfl) (facQ Q f) (facQ R f) rfl rfl (facQ_bytes HQ.out hf).len (facQ_bytes HRb.out hf).len _ rfl) ?_
  go_frame
  refine y_yield 23 (some 33) (.bool (facQ Q f == facQ R f)) rfl (by kernel_rfl) (by kernel_rfl) (by kernel_rfl) (fun _ _ _ h => h) rfl rfl ⟨hB, hz5, hz11⟩ (fun w' h' => exec_pick _ _ _ rfl true rfl (.bool (facQ Q f == facQ R f)) rfl) ?_
  go_frame
  refine y_oper 24 (by kernel_rfl) rfl rfl (fun K' hK' => ?_)
  refine wp_exec (some 4) rfl (.bool (facQ Q f == facQ R f)) (exec_assign _ rfl (.bool (facQ Q f == facQ R f)) rfl) ?_
  refine hK' _ _ ⟨hB, hz5, hz11⟩ (fun _ => trivial) ?_
  clear hK' K'
  go_frame
  refine y_done (by kernel_rfl) ?_ _
  go_wp2_with fail
  go_ret
  exact ⟨by rw [HV.out]; rfl, hB⟩
theorem isOf_c (p n m k : Int) (b off c : Nat) (qs : List (List Nat)) (i j f : Nat) (Q R : List Nat) (w : World) (hR : Rd w (some ⟨b, off, none⟩) qs) (hQ : qs[i]? = some Q) (hRj : qs[j]? = some R) (hf : f < 3) (hlen : qs.length ≤ 1048576) :
    Calls Try.prog 70 #[.agg #[.int .i64 i, .int .i64 j, .int .i64 f], .agg #[.int .i64 p, .int .i64 n, .int .i64 m, .int .i64 k, .slice (some ⟨b, off, none⟩) qs.length c]] w (fun e w' => e = .returned (.bool (flB Q R i j f)) ∧ Below w.heap.size w w') := by
  by_cases hne : i = j
  · exact isOf_false p n m k b off c qs i j f Q R w hR hQ hRj hf hlen hne
  · exact isOf_true p n m k b off c qs i j f Q R w hR hQ hRj hf hlen hne
end Go.Proofs.Ytemkhlokpinecaa
