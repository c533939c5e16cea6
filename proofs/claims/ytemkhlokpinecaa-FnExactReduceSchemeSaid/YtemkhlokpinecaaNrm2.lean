/-
  spec.l03Normal: the normal product. (Made by mknrm2.py.)
-/
import Derived.Test.YtemkhlokpinecaaNrm1
namespace Go.Proofs.Ytemkhlokpinecaa
open Go.RowKit
set_option maxRecDepth 100000
def normQ (p : Int) (q : List Nat) : List Nat :=
  cat3 (scF p (inv p (lead (segm q 0 9))) (segm q 0 9)) (scF p (inv p (lead (segm q 9 9))) (segm q 9 9)) (scF p ((lead (segm q 0 9) : Int) * (lead (segm q 9 9) : Int)) (segm q 18 9))
/-- The product's first two forms have a first number, as numbers modulo p. -/
def LeadOk (p : Int) (q : List Nat) : Prop := 1 ≤ (lead (segm q 0 9) : Int) ∧ (lead (segm q 0 9) : Int) < p ∧ 1 ≤ (lead (segm q 9 9) : Int) ∧ (lead (segm q 9 9) : Int) < p
theorem scF_bytes {p : Int} (k : Int) (f : List Nat) (hp : 0 < p) (hp5 : p ≤ 5) : Bytes 9 (scF p k f) := adF_bytes k _ f hp hp5
theorem normQ_bytes {p : Int} (q : List Nat) (hp : primeB p = true) : Bytes 27 (normQ p q) :=
  bytes3 (scF_bytes _ _ (primeB_5 hp).1 (primeB_5 hp).2) (scF_bytes _ _ (primeB_5 hp).1 (primeB_5 hp).2) (scF_bytes _ _ (primeB_5 hp).1 (primeB_5 hp).2)
set_option maxHeartbeats 3200000 in
theorem l03Normal_c (p : Int) (q : List Nat) (hq : Bytes 27 q) (w : World) (hp : primeB p = true) (hl : LeadOk p q) :
    Calls Try.prog 85 #[.int .i64 p, .agg (u8s q)] w fun e w' => e = .returned (.agg (u8s (normQ p q))) ∧ Below w.heap.size w w' := by
  obtain ⟨FA, FB, FC, rfl, hA, hF, hC⟩ := parts3 hq
  unfold LeadOk at hl
  unfold normQ
  rw [segm_a hA.len, segm_b hA.len hF.len] at hl
  rw [segm_a hA.len, segm_b hA.len hF.len, segm_c hA.len hF.len hC.len]
  have h5 := primeB_5 hp
  have HLA := Lib.hid (l03Lead_c FA hA)
  have HLB := Lib.hid (l03Lead_c FB hF)
  generalize ((lead FA : Nat) : Int) = a at *
  generalize ((lead FB : Nat) : Int) = b at *
  obtain ⟨ha1, ha2, hb1, hb2⟩ := hl
  have hia := inv_range hp ha1 ha2
  have hib := inv_range hp hb1 hb2
  have HIA := Lib.hid (fun w => l01Inverse_c p a w hp ha1 ha2)
  have HIB := Lib.hid (fun w => l01Inverse_c p b w hp hb1 hb2)
  generalize inv p a = ia at *
  generalize inv p b = ib at *
  have m0 : 0 ≤ a * b := Int.mul_nonneg (by omega) (by omega)
  have m1 : a * b ≤ 25 := by
    have h1 : a * b ≤ 5 * b := Int.mul_le_mul_of_nonneg_right (by omega) (by omega)
    omega
  have HSA := Lib.hid (fun w => l01Scale_c p ia FA hA w h5.1 h5.2 (by omega) (by omega))
  have HSB := Lib.hid (fun w => l01Scale_c p ib FB hF w h5.1 h5.2 (by omega) (by omega))
  have HSC := Lib.hid (fun w => l01Scale_c p (a * b) FC hC w h5.1 h5.2 (by omega) (by omega))
  have hGA := scF_bytes ia FA h5.1 h5.2
  have hGB := scF_bytes ib FB h5.1 h5.2
  have hGC := scF_bytes (a * b) FC h5.1 h5.2
  generalize scF p ia FA = GA at *
  generalize scF p ib FB = GB at *
  generalize scF p (a * b) FC = GC at *
  have l0 := len3 hA hF hC
  have l1 := len3 hGA hF hC
  have l2 := len3 hGA hGB hC
  have l3 := len3 hGA hGB hGC
  have l3' := (bytes3 hGA hGB hGC).len
  have e1 : IntKind.i64.wrap (a * b) = a * b := IntWalk.i64_in _ (by omega)
  clear hq hp
  go_enter Try.func85, Try.ntmps85
  go_wp2_with fail
  refine wp_region_held (S := fun w' => At w' w.heap.size (.cells (u8s (cat3 FA FB FC)) 53 (0, 0))) (by kernel_rfl) ?_
  change wpAnyH _ _ _ _ _ _ _ _ (World.drew _)
  generalize hwd : World.drew _ = wd
  have hB : Below w.heap.size w wd := by rw [← hwd]; exact (below2 _ _ _).drew
  have h0 : At wd w.heap.size (.cells (u8s (cat3 FA FB FC)) 53 (0, 0)) := by rw [← hwd]; exact al2_0 _ _ _
  have h1 : At wd (w.heap.size + 1) (.cells (u8s (List.replicate 27 0)) 53 (0, 0)) := by rw [← hwd]; exact al2_1 _ _ _
  clear hwd
  refine held_yield 0 (some 7) (.pointer (some ⟨w.heap.size, 0, none⟩)) rfl (by kernel_rfl) (by kernel_rfl) (by kernel_rfl) (fun _ _ _ h => h) rfl rfl h0 (fun w' h' => exec_fieldAddr 53 _ 0 rfl _ (by kernel_rfl)) ?_
  go_frame
  refine held_yield 1 (some 8) (.agg (u8s FA)) rfl (by kernel_rfl) (by kernel_rfl) (by kernel_rfl) (fun _ _ _ h => h) rfl rfl h0 (fun w' h' => exec_load_seg 51 _ rfl w.heap.size 0 rfl _ (cat3 FA FB FC) _ 9 h' Try.underlying51 rfl (by kernel_rfl) (by omega) _ (segm_a hA.len)) ?_
  go_frame
  refine held_yield 3 (some 10) (.pointer (some ⟨w.heap.size, 9, none⟩)) rfl (by kernel_rfl) (by kernel_rfl) (by kernel_rfl) (fun _ _ _ h => h) rfl rfl h0 (fun w' h' => exec_fieldAddr 53 _ 1 rfl _ (by kernel_rfl)) ?_
  go_frame
  refine held_yield 4 (some 11) (.agg (u8s FB)) rfl (by kernel_rfl) (by kernel_rfl) (by kernel_rfl) (fun _ _ _ h => h) rfl rfl h0 (fun w' h' => exec_load_seg 51 _ rfl w.heap.size 9 rfl _ (cat3 FA FB FC) _ 9 h' Try.underlying51 rfl (by kernel_rfl) (by omega) _ (segm_b hA.len hF.len)) ?_
  go_frame
  refine held_oper 2 (by kernel_rfl) rfl rfl (fun K' hK' => ?_)
  refine wp_call1 (some 9) rfl 106 _ _ rfl (fun args w => by kernel_rfl) _ rfl _ (HLA.out _) (fun e wn h => ?_)
  obtain ⟨rfl, b1⟩ := h
  replace hB := below_after hB b1
  replace h0 := h0.after b1
  replace h1 := h1.after b1
  clear b1
  refine ⟨_, rfl, hK' _ _ h0 ?_⟩
  clear hK' K'
  go_frame
  refine held_oper 5 (by kernel_rfl) rfl rfl (fun K' hK' => ?_)
  refine wp_call1 (some 12) rfl 106 _ _ rfl (fun args w => by kernel_rfl) _ rfl _ (HLB.out _) (fun e wn h => ?_)
  obtain ⟨rfl, b1⟩ := h
  replace hB := below_after hB b1
  replace h0 := h0.after b1
  replace h1 := h1.after b1
  clear b1
  refine ⟨_, rfl, hK' _ _ h0 ?_⟩
  clear hK' K'
  go_frame
  refine held_yield 6 (some 5) (.int .i64 a) rfl (by kernel_rfl) (by kernel_rfl) (by kernel_rfl) (fun _ _ _ h => h) rfl rfl h0 (fun w' h' => exec_assign _ rfl (.int .i64 a) rfl) ?_
  go_frame
  refine held_yield 7 (some 6) (.int .i64 b) rfl (by kernel_rfl) (by kernel_rfl) (by kernel_rfl) (fun _ _ _ h => h) rfl rfl h0 (fun w' h' => exec_assign _ rfl (.int .i64 b) rfl) ?_
  go_frame
  refine wpAnyH_done (by kernel_rfl) ?_ _
  go_wp2_with fail
  refine wp_region_z (z := 8) (S := fun w' => At w' w.heap.size (.cells (u8s (cat3 FA FB FC)) 53 (0, 0))) (by kernel_rfl) ?_
  change wpAnyZ _ _ _ _ _ _ _ _ _ (World.drew _)
  generalize hwe : World.drew _ = we
  replace hB : Below w.heap.size w we := by rw [← hwe]; exact hB.drew
  replace h0 : At we w.heap.size (.cells (u8s (cat3 FA FB FC)) 53 (0, 0)) := by rw [← hwe]; exact h0
  replace h1 : At we (w.heap.size + 1) (.cells (u8s (List.replicate 27 0)) 53 (0, 0)) := by rw [← hwe]; exact h1
  clear hwe
  refine z_yield 0 (some 13) (.int .i64 p) rfl (by kernel_rfl) (by kernel_rfl) (by kernel_rfl) (by kernel_rfl) (fun _ _ _ h => h) rfl rfl h0 (fun w' h' => exec_move _ rfl (.int .i64 p) rfl) ?_
  go_frame
  refine z_yield 1 (some 14) (.pointer (some ⟨w.heap.size, 0, none⟩)) rfl (by kernel_rfl) (by kernel_rfl) (by kernel_rfl) (by kernel_rfl) (fun _ _ _ h => h) rfl rfl h0 (fun w' h' => exec_fieldAddr 53 _ 0 rfl _ (by kernel_rfl)) ?_
  go_frame
  refine z_yield 2 (some 15) (.agg (u8s FA)) rfl (by kernel_rfl) (by kernel_rfl) (by kernel_rfl) (by kernel_rfl) (fun _ _ _ h => h) rfl rfl h0 (fun w' h' => exec_load_seg 51 _ rfl w.heap.size 0 rfl _ (cat3 FA FB FC) _ 9 h' Try.underlying51 rfl (by kernel_rfl) (by omega) _ (segm_a hA.len)) ?_
  go_frame
  refine z_yield 3 (some 16) (.int .i64 p) rfl (by kernel_rfl) (by kernel_rfl) (by kernel_rfl) (by kernel_rfl) (fun _ _ _ h => h) rfl rfl h0 (fun w' h' => exec_move _ rfl (.int .i64 p) rfl) ?_
  go_frame
  refine z_yield 4 (some 17) (.int .i64 a) rfl (by kernel_rfl) (by kernel_rfl) (by kernel_rfl) (by kernel_rfl) (fun _ _ _ h => h) rfl rfl h0 (fun w' h' => exec_move _ rfl (.int .i64 a) rfl) ?_
  go_frame
  refine z_oper 5 (by kernel_rfl) rfl rfl (fun K' hK' => ?_)
  refine wp_call2 (some 18) rfl 72 _ _ _ rfl (fun args w => by kernel_rfl) _ _ rfl rfl _ (HIA.out _) (fun e wn h => ?_)
  obtain ⟨rfl, rfl⟩ := h
  refine ⟨_, rfl, hK' _ _ (fun _ => h0) ?_⟩
  clear hK' K'
  go_frame
  refine z_oper 6 (by kernel_rfl) rfl rfl (fun K' hK' => ?_)
  refine wp_call3 (some 19) rfl 107 _ _ _ _ rfl (fun args w => by kernel_rfl) _ _ _ rfl rfl rfl _ (HSA.out _) (fun e wn h => ?_)
  obtain ⟨rfl, b1⟩ := h
  replace hB := below_after hB b1
  replace h0 := h0.after b1
  replace h1 := h1.after b1
  clear b1
  refine ⟨_, rfl, hK' _ _ (fun _ => h0) ?_⟩
  clear hK' K'
  go_frame
  refine z_yield 7 (some 20) (.pointer (some ⟨w.heap.size, 0, none⟩)) rfl (by kernel_rfl) (by kernel_rfl) (by kernel_rfl) (by kernel_rfl) (fun _ _ _ h => h) rfl rfl h0 (fun w' h' => exec_fieldAddr 53 _ 0 rfl _ (by kernel_rfl)) ?_
  go_frame
  refine z_oper 8 (by kernel_rfl) rfl rfl (fun K' hK' => ?_)
  refine wp_store_u8s 51 _ _ rfl rfl w.heap.size 0 rfl GA rfl _ (cat3 FA FB FC) h0 9 (by kernel_rfl) hGA.len (by omega) (fun ws ps => ?_)
  rw [over_a hA.len hGA.len] at ps
  replace hB := ps.below hB (Nat.le_refl _)
  replace h1 := ps.other h1 (by omega)
  replace h0 := ps.at_
  clear ps
  refine hK' _ _ (fun h => absurd rfl h) ?_
  clear hK' K'
  refine z_done (by kernel_rfl) ?_ _
  go_wp2_with fail
  refine wp_region_z (z := 8) (S := fun w' => At w' w.heap.size (.cells (u8s (cat3 GA FB FC)) 53 (0, 0))) (by kernel_rfl) ?_
  change wpAnyZ _ _ _ _ _ _ _ _ _ (World.drew _)
  generalize hwg : World.drew _ = wg
  replace hB : Below w.heap.size w wg := by rw [← hwg]; exact hB.drew
  replace h0 : At wg w.heap.size (.cells (u8s (cat3 GA FB FC)) 53 (0, 0)) := by rw [← hwg]; exact h0
  replace h1 : At wg (w.heap.size + 1) (.cells (u8s (List.replicate 27 0)) 53 (0, 0)) := by rw [← hwg]; exact h1
  clear hwg
  refine z_yield 0 (some 21) (.int .i64 p) rfl (by kernel_rfl) (by kernel_rfl) (by kernel_rfl) (by kernel_rfl) (fun _ _ _ h => h) rfl rfl h0 (fun w' h' => exec_move _ rfl (.int .i64 p) rfl) ?_
  go_frame
  refine z_yield 1 (some 22) (.pointer (some ⟨w.heap.size, 9, none⟩)) rfl (by kernel_rfl) (by kernel_rfl) (by kernel_rfl) (by kernel_rfl) (fun _ _ _ h => h) rfl rfl h0 (fun w' h' => exec_fieldAddr 53 _ 1 rfl _ (by kernel_rfl)) ?_
  go_frame
  refine z_yield 2 (some 23) (.agg (u8s FB)) rfl (by kernel_rfl) (by kernel_rfl) (by kernel_rfl) (by kernel_rfl) (fun _ _ _ h => h) rfl rfl h0 (fun w' h' => exec_load_seg 51 _ rfl w.heap.size 9 rfl _ (cat3 GA FB FC) _ 9 h' Try.underlying51 rfl (by kernel_rfl) (by omega) _ (segm_b hGA.len hF.len)) ?_
  go_frame
  refine z_yield 3 (some 24) (.int .i64 p) rfl (by kernel_rfl) (by kernel_rfl) (by kernel_rfl) (by kernel_rfl) (fun _ _ _ h => h) rfl rfl h0 (fun w' h' => exec_move _ rfl (.int .i64 p) rfl) ?_
  go_frame
  refine z_yield 4 (some 25) (.int .i64 b) rfl (by kernel_rfl) (by kernel_rfl) (by kernel_rfl) (by kernel_rfl) (fun _ _ _ h => h) rfl rfl h0 (fun w' h' => exec_move _ rfl (.int .i64 b) rfl) ?_
  go_frame
  refine z_oper 5 (by kernel_rfl) rfl rfl (fun K' hK' => ?_)
  refine wp_call2 (some 26) rfl 72 _ _ _ rfl (fun args w => by kernel_rfl) _ _ rfl rfl _ (HIB.out _) (fun e wn h => ?_)
  obtain ⟨rfl, rfl⟩ := h
  refine ⟨_, rfl, hK' _ _ (fun _ => h0) ?_⟩
  clear hK' K'
  go_frame
  refine z_oper 6 (by kernel_rfl) rfl rfl (fun K' hK' => ?_)
  refine wp_call3 (some 27) rfl 107 _ _ _ _ rfl (fun args w => by kernel_rfl) _ _ _ rfl rfl rfl _ (HSB.out _) (fun e wn h => ?_)
  obtain ⟨rfl, b1⟩ := h
  replace hB := below_after hB b1
  replace h0 := h0.after b1
  replace h1 := h1.after b1
  clear b1
  refine ⟨_, rfl, hK' _ _ (fun _ => h0) ?_⟩
  clear hK' K'
  go_frame
  refine z_yield 7 (some 28) (.pointer (some ⟨w.heap.size, 9, none⟩)) rfl (by kernel_rfl) (by kernel_rfl) (by kernel_rfl) (by kernel_rfl) (fun _ _ _ h => h) rfl rfl h0 (fun w' h' => exec_fieldAddr 53 _ 1 rfl _ (by kernel_rfl)) ?_
  go_frame
  refine z_oper 8 (by kernel_rfl) rfl rfl (fun K' hK' => ?_)
  refine wp_store_u8s 51 _ _ rfl rfl w.heap.size 9 rfl GB rfl _ (cat3 GA FB FC) h0 9 (by kernel_rfl) hGB.len (by omega) (fun ws ps => ?_)
  rw [over_b hGA.len hF.len hGB.len] at ps
  replace hB := ps.below hB (Nat.le_refl _)
  replace h1 := ps.other h1 (by omega)
  replace h0 := ps.at_
  clear ps
  refine hK' _ _ (fun h => absurd rfl h) ?_
  clear hK' K'
  refine z_done (by kernel_rfl) ?_ _
  go_wp2_with (refine wpList_load_u8s rfl 51 _ rfl w.heap.size 18 rfl _ (cat3 GA GB FC) _ 9 h0 Try.underlying51 rfl (by kernel_rfl) (by omega) ?_)
  rw [segm_c hGA.len hGB.len hC.len]
  refine (HSC.out _).mono ?_
  rintro e w1 ⟨rfl, b1⟩
  replace hB := below_after hB b1
  replace h0 := h0.after b1
  replace h1 := h1.after b1
  clear b1
  go_wp2_with (first | (refine wpList_store_u8s rfl 51 _ _ rfl rfl w.heap.size 18 rfl GC rfl _ (cat3 GA GB FC) h0 9 (by kernel_rfl) hGC.len (by omega) ?_; intro w2 p2; rw [over_c hGA.len hGB.len hC.len hGC.len] at p2; replace hB := p2.below hB (Nat.le_refl _); replace h1 := p2.other h1 (by omega); replace h0 := p2.at_; clear p2) | (refine wpList_load_all rfl 53 _ rfl w.heap.size rfl _ _ _ h0 Try.underlying53 rfl 27 (by kernel_rfl) ((u8s_size _).trans l3') ?_) | (refine wpList_store_all rfl 53 _ _ rfl rfl (w.heap.size + 1) rfl _ rfl _ _ h1 27 (by kernel_rfl) ((u8s_size _).trans l3') (by simp [u8s]) (u8s_one _) ?_; intro w3 p3))
  refine bodyPost_ret (results_at rfl _ _ (w.heap.size + 1) _ _ _ rfl p3.at_ Try.underlying53 rfl 27 (by kernel_rfl) ((u8s_size _).trans l3')) rfl ?_
  exact ⟨rfl, p3.below hB (by omega)⟩
end Go.Proofs.Ytemkhlokpinecaa
