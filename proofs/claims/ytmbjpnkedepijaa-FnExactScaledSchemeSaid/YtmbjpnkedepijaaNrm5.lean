/-
  impl.normalProduct. (Made by mknrm5.py.)
-/
import Derived.Test.YtmbjpnkedepijaaNrm4
namespace Go.Proofs.Ytmbjpnkedepijaa
open Go.RowKit
set_option maxRecDepth 100000
set_option maxHeartbeats 3200000 in
theorem normalProduct_c (p : Int) (q : List Nat) (hq : Bytes 27 q) (w : World) (hp : primeB p = true) (hl : LeadOk p q) :
    Calls Try.prog 44 #[.int .i64 p, .agg (u8s q)] w fun e w' => e = .returned (.agg (u8s (normQ p q))) ∧ Below w.heap.size w w' := by
  obtain ⟨FA, FB, FC, rfl, hA, hF, hC⟩ := parts3 hq
  unfold LeadOk at hl
  unfold normQ
  rw [segm_a hA.len, segm_b hA.len hF.len] at hl
  rw [segm_a hA.len, segm_b hA.len hF.len, segm_c hA.len hF.len hC.len]
  have h5 := primeB_5 hp
  have HLA := Lib.hid (firstNumber_c FA hA hl.1)
  have HLB := Lib.hid (firstNumber_c FB hF hl.2.2.1)
  generalize ((lead FA : Nat) : Int) = a at *
  generalize ((lead FB : Nat) : Int) = b at *
  obtain ⟨ha1, ha2, hb1, hb2⟩ := hl
  have hia := inv_range hp ha1 ha2
  have hib := inv_range hp hb1 hb2
  have HIA := Lib.hid (fun w => inverseOf_c p a w hp ha1 ha2)
  have HIB := Lib.hid (fun w => inverseOf_c p b w hp hb1 hb2)
  generalize inv p a = ia at *
  generalize inv p b = ib at *
  have m0 : 0 ≤ a * b := Int.mul_nonneg (by omega) (by omega)
  have m1 : a * b ≤ 25 := by
    have h1 : a * b ≤ 5 * b := Int.mul_le_mul_of_nonneg_right (by omega) (by omega)
    omega
  have HSA := Lib.hid (fun w => multipliedBy_c p ia FA hA w h5.1 h5.2 (by omega) (by omega))
  have HSB := Lib.hid (fun w => multipliedBy_c p ib FB hF w h5.1 h5.2 (by omega) (by omega))
  have HSC := Lib.hid (fun w => multipliedBy_c p (a * b) FC hC w h5.1 h5.2 (by omega) (by omega))
  have hGA := scF_bytes ia FA h5.1 h5.2
  have hGB := scF_bytes ib FB h5.1 h5.2
  have hGC := scF_bytes (a * b) FC h5.1 h5.2
  generalize scF p ia FA = GA at *
  generalize scF p ib FB = GB at *
  generalize scF p (a * b) FC = GC at *
  have l0 := len3 hA hF hC
  have l3 := (bytes3 hGA hGB hGC).len
  have e1 : IntKind.i64.wrap (a * b) = a * b := IntWalk.i64_in _ (by omega)
  clear hq hp
  go_enter Try.func44, Try.ntmps44
  go_wp2_with fail
  refine wp_region_held (S := fun w' => At w' w.heap.size (.cells (u8s (cat3 FA FB FC)) 45 (0, 0))) (by kernel_rfl) ?_
  change wpAnyH _ _ _ _ _ _ _ _ (World.drew _)
  generalize hwd : World.drew _ = wd
  have hB : Below w.heap.size w wd := by rw [← hwd]; exact (below2 _ _ _).drew
  have h0 : At wd w.heap.size (.cells (u8s (cat3 FA FB FC)) 45 (0, 0)) := by rw [← hwd]; exact al2_0 _ _ _
  have h1 : At wd (w.heap.size + 1) (.cells (u8s (List.replicate 27 0)) 45 (0, 0)) := by rw [← hwd]; exact al2_1 _ _ _
  clear hwd
  refine held_yield 0 (some 7) (.pointer (some ⟨w.heap.size, 0, none⟩)) rfl (by kernel_rfl) (by kernel_rfl) (by kernel_rfl) (fun _ _ _ h => h) rfl rfl h0 (fun w' h' => exec_fieldAddr 45 _ 0 rfl _ (by kernel_rfl)) ?_
  go_frame
  refine held_yield 1 (some 8) (.agg (u8s FA)) rfl (by kernel_rfl) (by kernel_rfl) (by kernel_rfl) (fun _ _ _ h => h) rfl rfl h0 (fun w' h' => exec_load_seg 43 _ rfl w.heap.size 0 rfl _ (cat3 FA FB FC) _ 9 h' Try.underlying43 rfl (by kernel_rfl) (by omega) _ (segm_a hA.len)) ?_
  go_frame
  refine held_yield 3 (some 10) (.pointer (some ⟨w.heap.size, 9, none⟩)) rfl (by kernel_rfl) (by kernel_rfl) (by kernel_rfl) (fun _ _ _ h => h) rfl rfl h0 (fun w' h' => exec_fieldAddr 45 _ 1 rfl _ (by kernel_rfl)) ?_
  go_frame
  refine held_yield 4 (some 11) (.agg (u8s FB)) rfl (by kernel_rfl) (by kernel_rfl) (by kernel_rfl) (fun _ _ _ h => h) rfl rfl h0 (fun w' h' => exec_load_seg 43 _ rfl w.heap.size 9 rfl _ (cat3 FA FB FC) _ 9 h' Try.underlying43 rfl (by kernel_rfl) (by omega) _ (segm_b hA.len hF.len)) ?_
  go_frame
  refine held_oper 2 (by kernel_rfl) rfl rfl (fun K' hK' => ?_)
  refine wp_call1 (some 9) rfl 61 _ _ rfl (fun args w => by kernel_rfl) _ rfl _ (HLA.out _) (fun e wn h => ?_)
  obtain ⟨rfl, b1⟩ := h
  replace hB := below_after hB b1
  replace h0 := h0.after b1
  replace h1 := h1.after b1
  clear b1
  refine ⟨_, rfl, hK' _ _ h0 ?_⟩
  clear hK' K'
  go_frame
  refine held_oper 5 (by kernel_rfl) rfl rfl (fun K' hK' => ?_)
  refine wp_call1 (some 12) rfl 61 _ _ rfl (fun args w => by kernel_rfl) _ rfl _ (HLB.out _) (fun e wn h => ?_)
  obtain ⟨rfl, b1⟩ := h
  replace hB := below_after hB b1
  replace h0 := h0.after b1
  replace h1 := h1.after b1
  clear b1
  refine ⟨_, rfl, hK' _ _ h0 ?_⟩
  clear hK' K'
  go_frame
  refine held_yield 6 (some 5) (.int .i64 a) rfl (by kernel_rfl) (by kernel_rfl) (by kernel_rfl) (fun _ _ _ h => h) rfl rfl h0 (fun w' h' => exec_assign _ rfl (.int .i64 a) rfl) ?_
  go_frame
  refine held_yield 7 (some 6) (.int .i64 b) rfl (by kernel_rfl) (by kernel_rfl) (by kernel_rfl) (fun _ _ _ h => h) rfl rfl h0 (fun w' h' => exec_assign _ rfl (.int .i64 b) rfl) ?_
  go_frame
  refine wpAnyH_done (by kernel_rfl) ?_ _
  go_wp2_with fail
  refine wp_region_held (S := fun w' => At w' w.heap.size (.cells (u8s (cat3 FA FB FC)) 45 (0, 0))) (by kernel_rfl) ?_
  change wpAnyH _ _ _ _ _ _ _ _ (World.drew _)
  generalize hwe : World.drew _ = we
  replace hB : Below w.heap.size w we := by rw [← hwe]; exact hB.drew
  replace h0 : At we w.heap.size (.cells (u8s (cat3 FA FB FC)) 45 (0, 0)) := by rw [← hwe]; exact h0
  replace h1 : At we (w.heap.size + 1) (.cells (u8s (List.replicate 27 0)) 45 (0, 0)) := by rw [← hwe]; exact h1
  clear hwe
  refine held_yield 0 (some 13) (.int .i64 p) rfl (by kernel_rfl) (by kernel_rfl) (by kernel_rfl) (fun _ _ _ h => h) rfl rfl h0 (fun w' h' => exec_move _ rfl (.int .i64 p) rfl) ?_
  go_frame
  refine held_yield 1 (some 14) (.int .i64 p) rfl (by kernel_rfl) (by kernel_rfl) (by kernel_rfl) (fun _ _ _ h => h) rfl rfl h0 (fun w' h' => exec_move _ rfl (.int .i64 p) rfl) ?_
  go_frame
  refine held_yield 2 (some 15) (.int .i64 a) rfl (by kernel_rfl) (by kernel_rfl) (by kernel_rfl) (fun _ _ _ h => h) rfl rfl h0 (fun w' h' => exec_move _ rfl (.int .i64 a) rfl) ?_
  go_frame
  refine held_yield 4 (some 17) (.pointer (some ⟨w.heap.size, 0, none⟩)) rfl (by kernel_rfl) (by kernel_rfl) (by kernel_rfl) (fun _ _ _ h => h) rfl rfl h0 (fun w' h' => exec_fieldAddr 45 _ 0 rfl _ (by kernel_rfl)) ?_
  go_frame
  refine held_yield 5 (some 18) (.agg (u8s FA)) rfl (by kernel_rfl) (by kernel_rfl) (by kernel_rfl) (fun _ _ _ h => h) rfl rfl h0 (fun w' h' => exec_load_seg 43 _ rfl w.heap.size 0 rfl _ (cat3 FA FB FC) _ 9 h' Try.underlying43 rfl (by kernel_rfl) (by omega) _ (segm_a hA.len)) ?_
  go_frame
  refine held_yield 7 (some 20) (.int .i64 p) rfl (by kernel_rfl) (by kernel_rfl) (by kernel_rfl) (fun _ _ _ h => h) rfl rfl h0 (fun w' h' => exec_move _ rfl (.int .i64 p) rfl) ?_
  go_frame
  refine held_yield 8 (some 21) (.int .i64 p) rfl (by kernel_rfl) (by kernel_rfl) (by kernel_rfl) (fun _ _ _ h => h) rfl rfl h0 (fun w' h' => exec_move _ rfl (.int .i64 p) rfl) ?_
  go_frame
  refine held_yield 9 (some 22) (.int .i64 b) rfl (by kernel_rfl) (by kernel_rfl) (by kernel_rfl) (fun _ _ _ h => h) rfl rfl h0 (fun w' h' => exec_move _ rfl (.int .i64 b) rfl) ?_
  go_frame
  refine held_yield 11 (some 24) (.pointer (some ⟨w.heap.size, 9, none⟩)) rfl (by kernel_rfl) (by kernel_rfl) (by kernel_rfl) (fun _ _ _ h => h) rfl rfl h0 (fun w' h' => exec_fieldAddr 45 _ 1 rfl _ (by kernel_rfl)) ?_
  go_frame
  refine held_yield 12 (some 25) (.agg (u8s FB)) rfl (by kernel_rfl) (by kernel_rfl) (by kernel_rfl) (fun _ _ _ h => h) rfl rfl h0 (fun w' h' => exec_load_seg 43 _ rfl w.heap.size 9 rfl _ (cat3 FA FB FC) _ 9 h' Try.underlying43 rfl (by kernel_rfl) (by omega) _ (segm_b hA.len hF.len)) ?_
  go_frame
  refine held_yield 14 (some 27) (.int .i64 p) rfl (by kernel_rfl) (by kernel_rfl) (by kernel_rfl) (fun _ _ _ h => h) rfl rfl h0 (fun w' h' => exec_move _ rfl (.int .i64 p) rfl) ?_
  go_frame
  refine held_yield 15 (some 28) (.int .i64 a) rfl (by kernel_rfl) (by kernel_rfl) (by kernel_rfl) (fun _ _ _ h => h) rfl rfl h0 (fun w' h' => exec_move _ rfl (.int .i64 a) rfl) ?_
  go_frame
  refine held_yield 16 (some 29) (.int .i64 b) rfl (by kernel_rfl) (by kernel_rfl) (by kernel_rfl) (fun _ _ _ h => h) rfl rfl h0 (fun w' h' => exec_move _ rfl (.int .i64 b) rfl) ?_
  go_frame
  refine held_yield 17 (some 30) (.int .i64 (a * b)) rfl (by kernel_rfl) (by kernel_rfl) (by kernel_rfl) (fun _ _ _ h => h) rfl rfl h0 (fun w' h' => exec_mul _ _ _ _ rfl a b _ rfl rfl e1) ?_
  go_frame
  refine held_yield 18 (some 31) (.pointer (some ⟨w.heap.size, 18, none⟩)) rfl (by kernel_rfl) (by kernel_rfl) (by kernel_rfl) (fun _ _ _ h => h) rfl rfl h0 (fun w' h' => exec_fieldAddr 45 _ 2 rfl _ (by kernel_rfl)) ?_
  go_frame
  refine held_yield 19 (some 32) (.agg (u8s FC)) rfl (by kernel_rfl) (by kernel_rfl) (by kernel_rfl) (fun _ _ _ h => h) rfl rfl h0 (fun w' h' => exec_load_seg 43 _ rfl w.heap.size 18 rfl _ (cat3 FA FB FC) _ 9 h' Try.underlying43 rfl (by kernel_rfl) (by omega) _ (segm_c hA.len hF.len hC.len)) ?_
  go_frame
  refine held_oper 3 (by kernel_rfl) rfl rfl (fun K' hK' => ?_)
  refine wp_call2 (some 16) rfl 63 _ _ _ rfl (fun args w => by kernel_rfl) _ _ rfl rfl _ (HIA.out _) (fun e wn h => ?_)
  obtain ⟨rfl, rfl⟩ := h
  refine ⟨_, rfl, hK' _ _ h0 ?_⟩
  clear hK' K'
  go_frame
  refine held_oper 6 (by kernel_rfl) rfl rfl (fun K' hK' => ?_)
  refine wp_call3 (some 19) rfl 62 _ _ _ _ rfl (fun args w => by kernel_rfl) _ _ _ rfl rfl rfl _ (HSA.out _) (fun e wn h => ?_)
  obtain ⟨rfl, b1⟩ := h
  replace hB := below_after hB b1
  replace h0 := h0.after b1
  replace h1 := h1.after b1
  clear b1
  refine ⟨_, rfl, hK' _ _ h0 ?_⟩
  clear hK' K'
  go_frame
  refine held_oper 10 (by kernel_rfl) rfl rfl (fun K' hK' => ?_)
  refine wp_call2 (some 23) rfl 63 _ _ _ rfl (fun args w => by kernel_rfl) _ _ rfl rfl _ (HIB.out _) (fun e wn h => ?_)
  obtain ⟨rfl, rfl⟩ := h
  refine ⟨_, rfl, hK' _ _ h0 ?_⟩
  clear hK' K'
  go_frame
  refine held_oper 13 (by kernel_rfl) rfl rfl (fun K' hK' => ?_)
  refine wp_call3 (some 26) rfl 62 _ _ _ _ rfl (fun args w => by kernel_rfl) _ _ _ rfl rfl rfl _ (HSB.out _) (fun e wn h => ?_)
  obtain ⟨rfl, b1⟩ := h
  replace hB := below_after hB b1
  replace h0 := h0.after b1
  replace h1 := h1.after b1
  clear b1
  refine ⟨_, rfl, hK' _ _ h0 ?_⟩
  clear hK' K'
  go_frame
  refine held_oper 20 (by kernel_rfl) rfl rfl (fun K' hK' => ?_)
  refine wp_call3 (some 33) rfl 62 _ _ _ _ rfl (fun args w => by kernel_rfl) _ _ _ rfl rfl rfl _ (HSC.out _) (fun e wn h => ?_)
  obtain ⟨rfl, b1⟩ := h
  replace hB := below_after hB b1
  replace h0 := h0.after b1
  replace h1 := h1.after b1
  clear b1
  refine ⟨_, rfl, hK' _ _ h0 ?_⟩
  clear hK' K'
  go_frame
  refine held_yield 21 (some 34) (.agg (u8s (cat3 GA GB GC))) rfl (by kernel_rfl) (by kernel_rfl) (by kernel_rfl) (fun _ _ _ h => h) rfl rfl h0 (fun w' h' => exec_prod _ _ _ rfl GA GB GC rfl rfl rfl hGA.len hGB.len hGC.len) ?_
  go_frame
  refine held_oper 22 (by kernel_rfl) rfl rfl (fun K' hK' => ?_)
  refine wp_store_bytes 45 _ _ rfl rfl (w.heap.size + 1) rfl (cat3 GA GB GC) rfl _ _ h1 27 (by kernel_rfl) l3 (by simp) (fun ws ps => ?_)
  replace hB := ps.below hB (by omega)
  replace h0 := ps.other h0 (by omega)
  replace h1 := ps.at_
  clear ps
  refine hK' _ _ h0 ?_
  clear hK' K'
  refine wpAnyH_done (by kernel_rfl) ?_ _
  go_wp2_with fail
  refine bodyPost_ret (results_at rfl _ _ (w.heap.size + 1) _ _ _ rfl h1 Try.underlying45 rfl 27 (by kernel_rfl) ((u8s_size _).trans l3)) rfl ?_
  exact ⟨rfl, hB⟩
end Go.Proofs.Ytmbjpnkedepijaa
