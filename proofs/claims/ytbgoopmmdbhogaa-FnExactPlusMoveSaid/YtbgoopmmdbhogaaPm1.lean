/-
  spec.PlusMove where the arguments are fit. (Made by mkpm1.py.)
-/
import Derived.Test.YtbgoopmmdbhogaaPm0
import Derived.Deep.CutRange
namespace Go.Proofs.Ytbgoopmmdbhogaa
open Go.RowKit
set_option maxRecDepth 100000
set_option maxHeartbeats 2000000 in
theorem specPlusMove_yes (p n m k : Int) (ba offa cap : Nat) (qs : List (List Nat)) (i j : Nat) (w : World) (hR : Rd w (some ⟨ba, offa, none⟩) qs) (hs : schemeB p n m k qs = true) (hilt : i < qs.length) (hjlt : j < qs.length) (hij : i ≠ j) (h30 : qs.length ≠ 30) :
    Calls Try.prog 14 #[.agg #[.int .i64 p, .int .i64 n, .int .i64 m, .int .i64 k, .slice (some ⟨ba, offa, none⟩) qs.length cap], .int .i64 i, .int .i64 j] w (ResS w p n m k (pmQs p qs i j) 0) := by
  have hgood := hR.good
  have h31 := schemeB_len hs
  have h5 := primeB_5 (sizesB_parts (schemeB_sizes hs)).1
  have HIs := Lib.hid (fun w hr => (l01Is_c p n m k (some ⟨ba, offa, none⟩) cap qs w hr (by omega)))
  have Hs := Lib.hid hs
  have Hpm : Hid (pmQs p qs i j = (((qs.set i (pmI p qs[i] qs[j])).set j (pmK p qs[i] qs[j])) ++ [pmL p qs[i] qs[j]]).filter nzB) := Lib.hid (pmQs_eq p hilt hjlt)
  have hbi := hgood _ (List.getElem_mem hilt)
  have hbj := hgood _ (List.getElem_mem hjlt)
  have Hci0 : Hid (∀ (W : World) (g c8 : Nat), Own W (w.heap.size + 1 + 1) (.slice (some ⟨g, 0, none⟩) qs.length c8) qs → ∀ t, t < 27 → W.cell? ⟨g, i * 27 + t, none⟩ = some (.int .u8 (((qs[i])[t]?.getD 0 : Nat) : Int))) := Lib.hid (fun W g c8 ho t ht => by have := Rd.cells27 (ho.rd' hgood) hilt t ht; rwa [Nat.zero_add] at this)
  have Hcj0 : Hid (∀ (W : World) (g c8 : Nat), Own W (w.heap.size + 1 + 1) (.slice (some ⟨g, 0, none⟩) qs.length c8) qs → ∀ t, t < 27 → W.cell? ⟨g, j * 27 + t, none⟩ = some (.int .u8 (((qs[j])[t]?.getD 0 : Nat) : Int))) := Lib.hid (fun W g c8 ho t ht => by have := Rd.cells27 (ho.rd' hgood) hjlt t ht; rwa [Nat.zero_add] at this)
  have hxs : ([(i : Int), (j : Int)].all fun x => inI x qs.length) = true := by simp [inI]; omega
  have e1 : ((i : Int) == (j : Int)) = false := by rw [beq_eq_false_iff_ne]; omega
  have e2 : ((qs.length : Int) == 30) = false := by rw [beq_eq_false_iff_ne]; omega
  have Hq27 : Hid (∀ q ∈ qs, q.length = 27) := Lib.hid (fun q hq => (hgood q hq).len)
  generalize qs[i] = q at *
  generalize qs[j] = r at *
  obtain ⟨QA, QB, QC, rfl, hQA, hQB, hQC⟩ := parts3 hbi
  obtain ⟨RA, RB, RC, rfl, hRA, hRB, hRC⟩ := parts3 hbj
  have hq := bytes3 hQA hQB hQC
  have hr := bytes3 hRA hRB hRC
  unfold pmI pmK pmL at Hpm
  rw [segm_a hQA.len, segm_b hQA.len hQB.len, segm_c hQA.len hQB.len hQC.len, segm_a hRA.len, segm_b hRA.len hRB.len, segm_c hRA.len hRB.len hRC.len] at Hpm
  have HI := Lib.hid (fun w => l01Add_c p (-1) QA RA hQA hRA w h5.1 h5.2 (by omega) (by omega))
  have HKc := Lib.hid (fun w => l01Add_c p 1 QC RC hQC hRC w h5.1 h5.2 (by omega) (by omega))
  have HLc := Lib.hid (fun w => l01Add_c p (-1) RB QB hRB hQB w h5.1 h5.2 (by omega) (by omega))
  have hGI := adF_bytes (-1) QA RA h5.1 h5.2
  have hGK := adF_bytes 1 QC RC h5.1 h5.2
  have hGL := adF_bytes (-1) RB QB h5.1 h5.2
  generalize adF p (-1) QA RA = GI at *
  generalize adF p 1 QC RC = GK at *
  generalize adF p (-1) RB QB = GL at *
  have HW : Hid (∀ w, Calls Try.prog 33 #[.agg (u8s (cat3 QA QB QC)), .int .i64 0, .agg (u8s GI)] w fun e w' => e = .returned (.agg (u8s (cat3 GI QB QC))) ∧ Below w.heap.size w w') := Lib.hid (fun w => by have h := l03With_c (cat3 QA QB QC) GI 0 hq hGI (by omega) w; unfold withQ at h; rw [over_a hQA.len hGI.len] at h; exact h)
  have HV : Hid (∀ w, Calls Try.prog 33 #[.agg (u8s (cat3 RA RB RC)), .int .i64 1, .agg (u8s GL)] w fun e w' => e = .returned (.agg (u8s (cat3 RA GL RC))) ∧ Below w.heap.size w w') := Lib.hid (fun w => by have h := l03With_c (cat3 RA RB RC) GL 1 hr hGL (by omega) w; unfold withQ at h; rw [over_b hRA.len hRB.len hGL.len] at h; exact h)
  have hNI := bytes3 hGI hQB hQC
  have hNK := bytes3 hRA hQB hGK
  have hNL := bytes3 hRA hGL hRC
  have l27q : 27 ≤ (cat3 QA QB QC).length := by rw [hq.len]; exact Nat.le_refl _
  have l27r : 27 ≤ (cat3 RA RB RC).length := by rw [hr.len]; exact Nat.le_refl _
  clear hs hbi hbj
  go_enter Try.func14, Try.ntmps14
  go_wp2_with (first | (refine wpList_abs2 ?_; intro W hsz hB h0 h1) | (refine wpList_load_all rfl 28 _ rfl w.heap.size rfl _ _ _ h0 Try.underlying28 rfl 5 (by kernel_rfl) rfl ?_))
  refine (HIs.out _ (hR.keep hB)).mono ?_
  rintro e w1 ⟨rfl, b1⟩
  rw [Hs.out]
  replace h0 := h0.after b1
  replace h1 := h1.after b1
  replace hB := below_after hB b1
  clear b1 hsz
  go_wp2_with (refine wpList_load_all rfl 28 _ rfl w.heap.size rfl _ _ _ h0 Try.underlying28 rfl 5 (by kernel_rfl) rfl ?_)
  have bx := below1 w1 (.cells #[.int .i64 i, .int .i64 j] 2 (0, 0))
  have hx : At (w1.alloc (.cells #[.int .i64 i, .int .i64 j] 2 (0, 0))) w1.heap.size (.cells #[.int .i64 i, .int .i64 j] 2 (0, 0)) := al1_0 _ _
  refine (l03Numbers_c p n m k (some ⟨ba, offa, none⟩) cap qs.length w1.heap.size 2 [(i : Int), (j : Int)] _ (by omega) (by simp) (fun t ht => ?_)).mono ?_
  · match t, ht with
    | 0, _ => exact hx.at_ 0
    | 1, _ => exact hx.at_ 1
  rintro e w2 ⟨rfl, b2⟩
  rw [hxs]
  replace h0 := (h0.after bx).after b2
  replace h1 := (h1.after bx).after b2
  replace hB := below_after (below_after hB bx) b2
  clear b2 bx hx hxs
  have c4 : w2.cell? ⟨w.heap.size, 4, none⟩ = some (.slice (some ⟨ba, offa, none⟩) qs.length cap) := h0.at_ 4
  have o0 : Own (w2.alloc (.cells #[] 58 (0, 0))) w2.heap.size (.slice (some ⟨w2.heap.size, 0, none⟩) 0 0) [] := ⟨by simp [u8s], .inr ⟨w2.heap.size, 0, #[], rfl, Nat.le_refl _, al1_0 _ _, by simp, by simp, by simp, by simp [u8s]⟩⟩
  have b0 := below1 w2 (.cells #[] 58 (0, 0))
  have hR0 := (hR.keep hB).keep b0
  have c4a : (w2.alloc (.cells #[] 58 (0, 0))).cell? ⟨w.heap.size, 4, none⟩ = some (.slice (some ⟨ba, offa, none⟩) qs.length cap) := (h0.after b0).at_ 4
  have l12 := h1.lt
  go_wp2_with (first | (at_builtin; refine wpList_append_rd rfl _ rfl _ _ rfl (.slice (some ⟨w2.heap.size, 0, none⟩) 0 0) [] qs rfl o0 (some ⟨ba, offa, none⟩) cap rfl hR0 (by simp) (by simp; omega) b0.size ?_; intro v8 w3 ho gr))
  replace hB := below_grown (below_after hB b0) gr o0 (by omega)
  replace h0 := (h0.after b0).grown gr (fun e => by simp only [Value.ownBlock, Option.some.injEq] at e; omega)
  replace h1 := (h1.after b0).grown gr (fun e => by simp only [Value.ownBlock, Option.some.injEq] at e; omega)
  rw [List.nil_append] at ho
  replace ho := ho.mono (show w.heap.size + 1 + 1 ≤ w2.heap.size by omega)
  clear gr o0 b0 hR0 c4 c4a l12
  obtain ⟨A8, c8, rfl, _⟩ := ho.rd hgood
  obtain ⟨g, rfl, hg⟩ := ho.blk (by omega)
  have Hci := Lib.hid (fun W ho => Hci0.out W g c8 ho)
  have Hcj := Lib.hid (fun W ho => Hcj0.out W g c8 ho)
  clear Hci0 Hcj0
  go_upto_region 10 with (fail)
  go_cut [9, 10] from 39 to 46 (fun s9 s10 wx => ∃ b9 b10 : Nat, s9 = .pointer (some ⟨b9, 0, none⟩) ∧ s10 = .pointer (some ⟨b10, 0, none⟩) ∧ g < b9 ∧ g < b10 ∧ b9 ≠ b10 ∧ At wx b9 (.cells (u8s (cat3 QA QB QC)) 58 (0, 0)) ∧ At wx b10 (.cells (u8s (cat3 RA RB RC)) 58 (0, 0)) ∧ Below w.heap.size w wx ∧ At wx w.heap.size (.cells #[.int .i64 p, .int .i64 n, .int .i64 m, .int .i64 k, .slice (some ⟨ba, offa, none⟩) qs.length cap] 28 (0, 0)) ∧ At wx (w.heap.size + 1) (.cells #[.int .i64 0, .int .i64 0, .int .i64 0, .int .i64 0, .slice none 0 0] 28 (0, 0)) ∧ Own wx (w.heap.size + 1 + 1) (.slice (some ⟨g, 0, none⟩) qs.length c8) (qs))
  case first =>
    go_wp2_with fail
    refine wp_region_held (S := fun w' => (∀ t, t < 27 → w'.cell? ⟨g, i * 27 + t, none⟩ = some (.int .u8 (((cat3 QA QB QC)[t]?.getD 0 : Nat) : Int))) ∧ (∀ t, t < 27 → w'.cell? ⟨g, j * 27 + t, none⟩ = some (.int .u8 (((cat3 RA RB RC)[t]?.getD 0 : Nat) : Int)))) (by kernel_rfl) ?_
    change wpAnyH _ _ _ _ _ _ _ _ (World.drew _)
    generalize hwdc : World.drew _ = wdc
    replace hB : Below w.heap.size w wdc := by rw [← hwdc]; exact hB.drew
    replace h0 : At wdc w.heap.size (.cells #[.int .i64 p, .int .i64 n, .int .i64 m, .int .i64 k, .slice (some ⟨ba, offa, none⟩) qs.length cap] 28 (0, 0)) := by rw [← hwdc]; exact h0
    replace h1 : At wdc (w.heap.size + 1) (.cells #[.int .i64 0, .int .i64 0, .int .i64 0, .int .i64 0, .slice none 0 0] 28 (0, 0)) := by rw [← hwdc]; exact h1
    replace ho : Own wdc (w.heap.size + 1 + 1) (.slice (some ⟨g, 0, none⟩) qs.length c8) (qs) := by rw [← hwdc]; exact ho.drew
    clear hwdc
    have lg0 : g < wdc.heap.size := (ho.lt rfl).2
    have lw0 := hB.size
    have l10 := h1.lt
    refine held_yield 0 (some 39) (.slice (some ⟨g, 0, none⟩) qs.length c8) rfl (by kernel_rfl) (by kernel_rfl) (by kernel_rfl) (fun _ _ _ h => h) rfl rfl ⟨Hci.out _ ho, Hcj.out _ ho⟩ (fun w' h' => exec_move _ rfl (.slice (some ⟨g, 0, none⟩) qs.length c8) rfl) ?_
    go_frame
    refine held_yield 1 (some 40) (.int .i64 i) rfl (by kernel_rfl) (by kernel_rfl) (by kernel_rfl) (fun _ _ _ h => h) rfl rfl ⟨Hci.out _ ho, Hcj.out _ ho⟩ (fun w' h' => exec_move _ rfl (.int .i64 i) rfl) ?_
    go_frame
    refine held_yield 2 (some 41) (.pointer (some ⟨g, i * 27, none⟩)) rfl (by kernel_rfl) (by kernel_rfl) (by kernel_rfl) (fun _ _ _ h => h) rfl rfl ⟨Hci.out _ ho, Hcj.out _ ho⟩ (fun w' h' => exec_index_at0 _ 58 _ _ rfl g qs.length c8 i 27 rfl rfl Try.underlying26 (by kernel_rfl) hilt) ?_
    go_frame
    refine held_yield 3 (some 42) (.agg (u8s (cat3 QA QB QC))) rfl (by kernel_rfl) (by kernel_rfl) (by kernel_rfl) (fun _ _ _ h => h) rfl rfl ⟨Hci.out _ ho, Hcj.out _ ho⟩ (fun w' h' => exec_load_cells 58 _ rfl g (i * 27) rfl (cat3 QA QB QC) _ 27 h'.1 Try.underlying58 rfl (by kernel_rfl) hq.len) ?_
    go_frame
    refine held_yield 4 (some 43) (.slice (some ⟨g, 0, none⟩) qs.length c8) rfl (by kernel_rfl) (by kernel_rfl) (by kernel_rfl) (fun _ _ _ h => h) rfl rfl ⟨Hci.out _ ho, Hcj.out _ ho⟩ (fun w' h' => exec_move _ rfl (.slice (some ⟨g, 0, none⟩) qs.length c8) rfl) ?_
    go_frame
    refine held_yield 5 (some 44) (.int .i64 j) rfl (by kernel_rfl) (by kernel_rfl) (by kernel_rfl) (fun _ _ _ h => h) rfl rfl ⟨Hci.out _ ho, Hcj.out _ ho⟩ (fun w' h' => exec_move _ rfl (.int .i64 j) rfl) ?_
    go_frame
    refine held_yield 6 (some 45) (.pointer (some ⟨g, j * 27, none⟩)) rfl (by kernel_rfl) (by kernel_rfl) (by kernel_rfl) (fun _ _ _ h => h) rfl rfl ⟨Hci.out _ ho, Hcj.out _ ho⟩ (fun w' h' => exec_index_at0 _ 58 _ _ rfl g qs.length c8 j 27 rfl rfl Try.underlying26 (by kernel_rfl) hjlt) ?_
    go_frame
    refine held_yield 7 (some 46) (.agg (u8s (cat3 RA RB RC))) rfl (by kernel_rfl) (by kernel_rfl) (by kernel_rfl) (fun _ _ _ h => h) rfl rfl ⟨Hci.out _ ho, Hcj.out _ ho⟩ (fun w' h' => exec_load_cells 58 _ rfl g (j * 27) rfl (cat3 RA RB RC) _ 27 h'.2 Try.underlying58 rfl (by kernel_rfl) hr.len) ?_
    go_frame
    refine held_two 8 9 (by kernel_rfl) rfl rfl rfl rfl (fun K' hK' => ?_) (fun K' hK' => ?_)
    · refine wp_new (some 9) rfl (exec_alloc_prod rfl) (fun wac1 nnc2 => ?_)
      have bc3 := nnc2.below (Below.refl _ _) (Nat.le_refl _)
      replace hB := below_after hB bc3
      replace h0 := h0.after bc3
      replace h1 := h1.after bc3
      replace ho := ho.below bc3
      have h9 : At wac1 wdc.heap.size (.cells (u8s (List.replicate 27 0)) 58 (0, 0)) := nnc2.at_
      have lth9 := h9.lt
      refine hK' _ _ ⟨Hci.out _ ho, Hcj.out _ ho⟩ ?_
      clear hK' K' nnc2 bc3
      go_frame
      refine held_oper 9 (by kernel_rfl) rfl rfl (fun K' hK' => ?_)
      refine wp_new (some 10) rfl (exec_alloc_prod rfl) (fun wac4 nnc5 => ?_)
      have bc6 := nnc5.below (Below.refl _ _) (Nat.le_refl _)
      replace hB := below_after hB bc6
      replace h0 := h0.after bc6
      replace h1 := h1.after bc6
      replace ho := ho.below bc6
      replace h9 := h9.after bc6
      have h10 : At wac4 wac1.heap.size (.cells (u8s (List.replicate 27 0)) 58 (0, 0)) := nnc5.at_
      have lth10 := h10.lt
      refine hK' _ _ ⟨Hci.out _ ho, Hcj.out _ ho⟩ ?_
      clear hK' K' nnc5 bc6
      go_frame
      refine held_oper 10 (by kernel_rfl) rfl rfl (fun K' hK' => ?_)
      refine wp_store_bytes 58 _ _ rfl rfl (wdc.heap.size) rfl (cat3 QA QB QC) rfl _ _ h9 27 (by kernel_rfl) hq.len (by simp) (fun wsc7 pc8 => ?_)
      replace hB := pc8.below hB (by omega)
      replace h0 := pc8.other h0 (by omega)
      replace h1 := pc8.other h1 (by omega)
      replace ho := ho.put pc8 (fun e => by simp only [Value.ownBlock, Option.some.injEq] at e; omega)
      replace h10 := pc8.other h10 (by omega)
      replace h9 := pc8.at_
      refine hK' _ _ ⟨Hci.out _ ho, Hcj.out _ ho⟩ ?_
      clear hK' K' pc8
      refine held_oper 11 (by kernel_rfl) rfl rfl (fun K' hK' => ?_)
      refine wp_store_bytes 58 _ _ rfl rfl (wac1.heap.size) rfl (cat3 RA RB RC) rfl _ _ h10 27 (by kernel_rfl) hr.len (by simp) (fun wsc9 pc10 => ?_)
      replace hB := pc10.below hB (by omega)
      replace h0 := pc10.other h0 (by omega)
      replace h1 := pc10.other h1 (by omega)
      replace ho := ho.put pc10 (fun e => by simp only [Value.ownBlock, Option.some.injEq] at e; omega)
      replace h9 := pc10.other h9 (by omega)
      replace h10 := pc10.at_
      refine hK' _ _ ⟨Hci.out _ ho, Hcj.out _ ho⟩ ?_
      clear hK' K' pc10
      refine wpAnyH_done (by kernel_rfl) ?_ _
      go_wp2_with fail
      go_meet
      exact ⟨_, _, rfl, rfl, by omega, by omega, by omega, h9, h10, hB, h0, h1, ho⟩
    · refine wp_new (some 10) rfl (exec_alloc_prod rfl) (fun wac1 nnc2 => ?_)
      have bc3 := nnc2.below (Below.refl _ _) (Nat.le_refl _)
      replace hB := below_after hB bc3
      replace h0 := h0.after bc3
      replace h1 := h1.after bc3
      replace ho := ho.below bc3
      have h10 : At wac1 wdc.heap.size (.cells (u8s (List.replicate 27 0)) 58 (0, 0)) := nnc2.at_
      have lth10 := h10.lt
      refine hK' _ _ ⟨Hci.out _ ho, Hcj.out _ ho⟩ ?_
      clear hK' K' nnc2 bc3
      go_frame
      refine held_oper 8 (by kernel_rfl) rfl rfl (fun K' hK' => ?_)
      refine wp_new (some 9) rfl (exec_alloc_prod rfl) (fun wac4 nnc5 => ?_)
      have bc6 := nnc5.below (Below.refl _ _) (Nat.le_refl _)
      replace hB := below_after hB bc6
      replace h0 := h0.after bc6
      replace h1 := h1.after bc6
      replace ho := ho.below bc6
      replace h10 := h10.after bc6
      have h9 : At wac4 wac1.heap.size (.cells (u8s (List.replicate 27 0)) 58 (0, 0)) := nnc5.at_
      have lth9 := h9.lt
      refine hK' _ _ ⟨Hci.out _ ho, Hcj.out _ ho⟩ ?_
      clear hK' K' nnc5 bc6
      go_frame
      refine held_oper 10 (by kernel_rfl) rfl rfl (fun K' hK' => ?_)
      refine wp_store_bytes 58 _ _ rfl rfl (wac1.heap.size) rfl (cat3 QA QB QC) rfl _ _ h9 27 (by kernel_rfl) hq.len (by simp) (fun wsc7 pc8 => ?_)
      replace hB := pc8.below hB (by omega)
      replace h0 := pc8.other h0 (by omega)
      replace h1 := pc8.other h1 (by omega)
      replace ho := ho.put pc8 (fun e => by simp only [Value.ownBlock, Option.some.injEq] at e; omega)
      replace h10 := pc8.other h10 (by omega)
      replace h9 := pc8.at_
      refine hK' _ _ ⟨Hci.out _ ho, Hcj.out _ ho⟩ ?_
      clear hK' K' pc8
      refine held_oper 11 (by kernel_rfl) rfl rfl (fun K' hK' => ?_)
      refine wp_store_bytes 58 _ _ rfl rfl (wdc.heap.size) rfl (cat3 RA RB RC) rfl _ _ h10 27 (by kernel_rfl) hr.len (by simp) (fun wsc9 pc10 => ?_)
      replace hB := pc10.below hB (by omega)
      replace h0 := pc10.other h0 (by omega)
      replace h1 := pc10.other h1 (by omega)
      replace ho := ho.put pc10 (fun e => by simp only [Value.ownBlock, Option.some.injEq] at e; omega)
      replace h9 := pc10.other h9 (by omega)
      replace h10 := pc10.at_
      refine hK' _ _ ⟨Hci.out _ ho, Hcj.out _ ho⟩ ?_
      clear hK' K' pc10
      refine wpAnyH_done (by kernel_rfl) ?_ _
      go_wp2_with fail
      go_meet
      exact ⟨_, _, rfl, rfl, by omega, by omega, by omega, h9, h10, hB, h0, h1, ho⟩
  case rest =>
  clear hB h0 h1 ho Hci Hcj
  obtain ⟨b9, b10, rfl, rfl, hg9, hg10, hne, h9, h10, hB, h0, h1, ho⟩ := hcut
  go_wp2_with fail
  refine wp_region_held (S := fun w' => At w' w.heap.size (.cells #[.int .i64 p, .int .i64 n, .int .i64 m, .int .i64 k, .slice (some ⟨ba, offa, none⟩) qs.length cap] 28 (0, 0)) ∧ At w' b9 (.cells (u8s (cat3 QA QB QC)) 58 (0, 0)) ∧ At w' b10 (.cells (u8s (cat3 RA RB RC)) 58 (0, 0))) (by kernel_rfl) ?_
  change wpAnyH _ _ _ _ _ _ _ _ (World.drew _)
  generalize hwdd : World.drew _ = wdd
  replace hB : Below w.heap.size w wdd := by rw [← hwdd]; exact hB.drew
  replace h0 : At wdd w.heap.size (.cells #[.int .i64 p, .int .i64 n, .int .i64 m, .int .i64 k, .slice (some ⟨ba, offa, none⟩) qs.length cap] 28 (0, 0)) := by rw [← hwdd]; exact h0
  replace h1 : At wdd (w.heap.size + 1) (.cells #[.int .i64 0, .int .i64 0, .int .i64 0, .int .i64 0, .slice none 0 0] 28 (0, 0)) := by rw [← hwdd]; exact h1
  replace ho : Own wdd (w.heap.size + 1 + 1) (.slice (some ⟨g, 0, none⟩) qs.length c8) (qs) := by rw [← hwdd]; exact ho.drew
  replace h9 : At wdd b9 (.cells (u8s (cat3 QA QB QC)) 58 (0, 0)) := by rw [← hwdd]; exact h9
  replace h10 : At wdd b10 (.cells (u8s (cat3 RA RB RC)) 58 (0, 0)) := by rw [← hwdd]; exact h10
  clear hwdd
  refine held_yield 0 (some 47) (.slice (some ⟨g, 0, none⟩) qs.length c8) rfl (by kernel_rfl) (by kernel_rfl) (by kernel_rfl) (fun _ _ _ h => h) rfl rfl ⟨h0, h9, h10⟩ (fun w' h' => exec_move _ rfl (.slice (some ⟨g, 0, none⟩) qs.length c8) rfl) ?_
  go_frame
  refine held_yield 1 (some 48) (.int .i64 i) rfl (by kernel_rfl) (by kernel_rfl) (by kernel_rfl) (fun _ _ _ h => h) rfl rfl ⟨h0, h9, h10⟩ (fun w' h' => exec_move _ rfl (.int .i64 i) rfl) ?_
  go_frame
  refine held_yield 2 (some 49) (.agg (u8s (cat3 QA QB QC))) rfl (by kernel_rfl) (by kernel_rfl) (by kernel_rfl) (fun _ _ _ h => h) rfl rfl ⟨h0, h9, h10⟩ (fun w' h' => exec_load_all 58 _ rfl b9 rfl _ _ _ h'.2.1 Try.underlying58 rfl 27 (by kernel_rfl) ((u8s_size _).trans hq.len)) ?_
  go_frame
  refine held_yield 3 (some 50) (.pointer (some ⟨w.heap.size, 0, none⟩)) rfl (by kernel_rfl) (by kernel_rfl) (by kernel_rfl) (fun _ _ _ h => h) rfl rfl ⟨h0, h9, h10⟩ (fun w' h' => exec_fieldAddr 28 _ 0 rfl _ (by kernel_rfl)) ?_
  go_frame
  refine held_yield 4 (some 51) (.int .i64 p) rfl (by kernel_rfl) (by kernel_rfl) (by kernel_rfl) (fun _ _ _ h => h) rfl rfl ⟨h0, h9, h10⟩ (fun w' h' => exec_load_one 2 _ rfl w.heap.size 0 rfl _ _ Try.underlying2 rfl (h'.1.at_ 0)) ?_
  go_frame
  refine held_yield 5 (some 52) (.pointer (some ⟨b9, 0, none⟩)) rfl (by kernel_rfl) (by kernel_rfl) (by kernel_rfl) (fun _ _ _ h => h) rfl rfl ⟨h0, h9, h10⟩ (fun w' h' => exec_fieldAddr 58 _ 0 rfl _ (by kernel_rfl)) ?_
  go_frame
  refine held_yield 6 (some 53) (.agg (u8s QA)) rfl (by kernel_rfl) (by kernel_rfl) (by kernel_rfl) (fun _ _ _ h => h) rfl rfl ⟨h0, h9, h10⟩ (fun w' h' => exec_load_seg 39 _ rfl b9 0 rfl _ (cat3 QA QB QC) _ 9 h'.2.1 Try.underlying39 rfl (by kernel_rfl) (by omega) _ (segm_a hQA.len)) ?_
  go_frame
  refine held_yield 7 (some 54) (.pointer (some ⟨b10, 0, none⟩)) rfl (by kernel_rfl) (by kernel_rfl) (by kernel_rfl) (fun _ _ _ h => h) rfl rfl ⟨h0, h9, h10⟩ (fun w' h' => exec_fieldAddr 58 _ 0 rfl _ (by kernel_rfl)) ?_
  go_frame
  refine held_yield 8 (some 55) (.agg (u8s RA)) rfl (by kernel_rfl) (by kernel_rfl) (by kernel_rfl) (fun _ _ _ h => h) rfl rfl ⟨h0, h9, h10⟩ (fun w' h' => exec_load_seg 39 _ rfl b10 0 rfl _ (cat3 RA RB RC) _ 9 h'.2.2 Try.underlying39 rfl (by kernel_rfl) (by omega) _ (segm_a hRA.len)) ?_
  go_frame
  refine held_oper 9 (by kernel_rfl) rfl rfl (fun K' hK' => ?_)
  refine wp_call4 (some 56) rfl 34 _ _ _ _ _ rfl (fun args w => by kernel_rfl) _ _ _ _ rfl rfl rfl rfl _ (HI.out _) (fun e wnd1 h => ?_)
  obtain ⟨rfl, bd2⟩ := h
  replace hB := below_after hB bd2
  replace h0 := h0.after bd2
  replace h1 := h1.after bd2
  replace ho := ho.below bd2
  replace h9 := h9.after bd2
  replace h10 := h10.after bd2
  clear bd2
  refine ⟨_, rfl, hK' _ _ ⟨h0, h9, h10⟩ ?_⟩
  clear hK' K'
  go_frame
  refine held_oper 10 (by kernel_rfl) rfl rfl (fun K' hK' => ?_)
  refine wp_call3 (some 57) rfl 33 _ _ _ _ rfl (fun args w => by kernel_rfl) _ _ _ rfl rfl rfl _ (HW.out _) (fun e wnd3 h => ?_)
  obtain ⟨rfl, bd4⟩ := h
  replace hB := below_after hB bd4
  replace h0 := h0.after bd4
  replace h1 := h1.after bd4
  replace ho := ho.below bd4
  replace h9 := h9.after bd4
  replace h10 := h10.after bd4
  clear bd4
  refine ⟨_, rfl, hK' _ _ ⟨h0, h9, h10⟩ ?_⟩
  clear hK' K'
  go_frame
  refine held_yield 11 (some 58) (.pointer (some ⟨g, i * 27, none⟩)) rfl (by kernel_rfl) (by kernel_rfl) (by kernel_rfl) (fun _ _ _ h => h) rfl rfl ⟨h0, h9, h10⟩ (fun w' h' => exec_index_at0 _ 58 _ _ rfl g qs.length c8 i 27 rfl rfl Try.underlying26 (by kernel_rfl) hilt) ?_
  go_frame
  refine held_oper 12 (by kernel_rfl) rfl rfl (fun K' hK' => ?_)
  refine wp_store_own 58 _ _ rfl rfl g i rfl (cat3 GI QB QC) rfl ho Hq27.out (by kernel_rfl) (hilt) hNI.len (fun wsd5 ho2 Pd6 _ => ?_)
  replace hB := Pd6.below hB (by omega)
  replace h0 := Pd6.other h0 (by omega)
  replace h1 := Pd6.other h1 (by omega)
  replace h9 := Pd6.other h9 (by omega)
  replace h10 := Pd6.other h10 (by omega)
  replace ho := ho2
  refine hK' _ _ ⟨h0, h9, h10⟩ ?_
  clear hK' K' Pd6 ho2
  refine wpAnyH_done (by kernel_rfl) ?_ _
  obtain ⟨M1, HM⟩ : ∃ M, Hid (qs.set i (cat3 GI QB QC) = M) := ⟨_, Lib.hid rfl⟩
  have eL1 : Hid (M1.length = qs.length) := Lib.hid (by rw [← HM.out]; simp)
  have HM1b : Hid (∀ q ∈ M1, Bytes 27 q) := Lib.hid (fun q h => by rw [← HM.out] at h; rcases List.mem_or_eq_of_mem_set h with h | rfl; exact hgood q h; exact hNI)
  have HM1 : Hid (∀ q ∈ M1, q.length = 27) := Lib.hid (fun q h => (HM1b.out q h).len)
  rw [HM.out] at ho
  go_wp2_with fail
  refine wp_region_held (S := fun w' => At w' w.heap.size (.cells #[.int .i64 p, .int .i64 n, .int .i64 m, .int .i64 k, .slice (some ⟨ba, offa, none⟩) qs.length cap] 28 (0, 0)) ∧ At w' b9 (.cells (u8s (cat3 QA QB QC)) 58 (0, 0)) ∧ At w' b10 (.cells (u8s (cat3 RA RB RC)) 58 (0, 0))) (by kernel_rfl) ?_
  change wpAnyH _ _ _ _ _ _ _ _ (World.drew _)
  generalize hwde : World.drew _ = wde
  replace hB : Below w.heap.size w wde := by rw [← hwde]; exact hB.drew
  replace h0 : At wde w.heap.size (.cells #[.int .i64 p, .int .i64 n, .int .i64 m, .int .i64 k, .slice (some ⟨ba, offa, none⟩) qs.length cap] 28 (0, 0)) := by rw [← hwde]; exact h0
  replace h1 : At wde (w.heap.size + 1) (.cells #[.int .i64 0, .int .i64 0, .int .i64 0, .int .i64 0, .slice none 0 0] 28 (0, 0)) := by rw [← hwde]; exact h1
  replace ho : Own wde (w.heap.size + 1 + 1) (.slice (some ⟨g, 0, none⟩) qs.length c8) (M1) := by rw [← hwde]; exact ho.drew
  replace h9 : At wde b9 (.cells (u8s (cat3 QA QB QC)) 58 (0, 0)) := by rw [← hwde]; exact h9
  replace h10 : At wde b10 (.cells (u8s (cat3 RA RB RC)) 58 (0, 0)) := by rw [← hwde]; exact h10
  clear hwde
  refine held_yield 0 (some 59) (.slice (some ⟨g, 0, none⟩) qs.length c8) rfl (by kernel_rfl) (by kernel_rfl) (by kernel_rfl) (fun _ _ _ h => h) rfl rfl ⟨h0, h9, h10⟩ (fun w' h' => exec_move _ rfl (.slice (some ⟨g, 0, none⟩) qs.length c8) rfl) ?_
  go_frame
  refine held_yield 1 (some 60) (.int .i64 j) rfl (by kernel_rfl) (by kernel_rfl) (by kernel_rfl) (fun _ _ _ h => h) rfl rfl ⟨h0, h9, h10⟩ (fun w' h' => exec_move _ rfl (.int .i64 j) rfl) ?_
  go_frame
  refine held_yield 2 (some 61) (.pointer (some ⟨b10, 0, none⟩)) rfl (by kernel_rfl) (by kernel_rfl) (by kernel_rfl) (fun _ _ _ h => h) rfl rfl ⟨h0, h9, h10⟩ (fun w' h' => exec_fieldAddr 58 _ 0 rfl _ (by kernel_rfl)) ?_
  go_frame
  refine held_yield 3 (some 62) (.agg (u8s RA)) rfl (by kernel_rfl) (by kernel_rfl) (by kernel_rfl) (fun _ _ _ h => h) rfl rfl ⟨h0, h9, h10⟩ (fun w' h' => exec_load_seg 39 _ rfl b10 0 rfl _ (cat3 RA RB RC) _ 9 h'.2.2 Try.underlying39 rfl (by kernel_rfl) (by omega) _ (segm_a hRA.len)) ?_
  go_frame
  refine held_yield 4 (some 63) (.pointer (some ⟨b9, 9, none⟩)) rfl (by kernel_rfl) (by kernel_rfl) (by kernel_rfl) (fun _ _ _ h => h) rfl rfl ⟨h0, h9, h10⟩ (fun w' h' => exec_fieldAddr 58 _ 1 rfl _ (by kernel_rfl)) ?_
  go_frame
  refine held_yield 5 (some 64) (.agg (u8s QB)) rfl (by kernel_rfl) (by kernel_rfl) (by kernel_rfl) (fun _ _ _ h => h) rfl rfl ⟨h0, h9, h10⟩ (fun w' h' => exec_load_seg 39 _ rfl b9 9 rfl _ (cat3 QA QB QC) _ 9 h'.2.1 Try.underlying39 rfl (by kernel_rfl) (by omega) _ (segm_b hQA.len hQB.len)) ?_
  go_frame
  refine held_yield 6 (some 65) (.pointer (some ⟨w.heap.size, 0, none⟩)) rfl (by kernel_rfl) (by kernel_rfl) (by kernel_rfl) (fun _ _ _ h => h) rfl rfl ⟨h0, h9, h10⟩ (fun w' h' => exec_fieldAddr 28 _ 0 rfl _ (by kernel_rfl)) ?_
  go_frame
  refine held_yield 7 (some 66) (.int .i64 p) rfl (by kernel_rfl) (by kernel_rfl) (by kernel_rfl) (fun _ _ _ h => h) rfl rfl ⟨h0, h9, h10⟩ (fun w' h' => exec_load_one 2 _ rfl w.heap.size 0 rfl _ _ Try.underlying2 rfl (h'.1.at_ 0)) ?_
  go_frame
  refine held_yield 8 (some 67) (.pointer (some ⟨b9, 18, none⟩)) rfl (by kernel_rfl) (by kernel_rfl) (by kernel_rfl) (fun _ _ _ h => h) rfl rfl ⟨h0, h9, h10⟩ (fun w' h' => exec_fieldAddr 58 _ 2 rfl _ (by kernel_rfl)) ?_
  go_frame
  refine held_yield 9 (some 68) (.agg (u8s QC)) rfl (by kernel_rfl) (by kernel_rfl) (by kernel_rfl) (fun _ _ _ h => h) rfl rfl ⟨h0, h9, h10⟩ (fun w' h' => exec_load_seg 39 _ rfl b9 18 rfl _ (cat3 QA QB QC) _ 9 h'.2.1 Try.underlying39 rfl (by kernel_rfl) (by omega) _ (segm_c hQA.len hQB.len hQC.len)) ?_
  go_frame
  refine held_yield 10 (some 69) (.pointer (some ⟨b10, 18, none⟩)) rfl (by kernel_rfl) (by kernel_rfl) (by kernel_rfl) (fun _ _ _ h => h) rfl rfl ⟨h0, h9, h10⟩ (fun w' h' => exec_fieldAddr 58 _ 2 rfl _ (by kernel_rfl)) ?_
  go_frame
  refine held_yield 11 (some 70) (.agg (u8s RC)) rfl (by kernel_rfl) (by kernel_rfl) (by kernel_rfl) (fun _ _ _ h => h) rfl rfl ⟨h0, h9, h10⟩ (fun w' h' => exec_load_seg 39 _ rfl b10 18 rfl _ (cat3 RA RB RC) _ 9 h'.2.2 Try.underlying39 rfl (by kernel_rfl) (by omega) _ (segm_c hRA.len hRB.len hRC.len)) ?_
  go_frame
  refine held_oper 12 (by kernel_rfl) rfl rfl (fun K' hK' => ?_)
  refine wp_call4 (some 71) rfl 34 _ _ _ _ _ rfl (fun args w => by kernel_rfl) _ _ _ _ rfl rfl rfl rfl _ (HKc.out _) (fun e wne1 h => ?_)
  obtain ⟨rfl, be2⟩ := h
  replace hB := below_after hB be2
  replace h0 := h0.after be2
  replace h1 := h1.after be2
  replace ho := ho.below be2
  replace h9 := h9.after be2
  replace h10 := h10.after be2
  clear be2
  refine ⟨_, rfl, hK' _ _ ⟨h0, h9, h10⟩ ?_⟩
  clear hK' K'
  go_frame
  refine held_yield 13 (some 72) (.agg (u8s (cat3 RA QB GK))) rfl (by kernel_rfl) (by kernel_rfl) (by kernel_rfl) (fun _ _ _ h => h) rfl rfl ⟨h0, h9, h10⟩ (fun w' h' => exec_prod _ _ _ rfl RA QB GK rfl rfl rfl hRA.len hQB.len hGK.len) ?_
  go_frame
  refine held_yield 14 (some 73) (.pointer (some ⟨g, j * 27, none⟩)) rfl (by kernel_rfl) (by kernel_rfl) (by kernel_rfl) (fun _ _ _ h => h) rfl rfl ⟨h0, h9, h10⟩ (fun w' h' => exec_index_at0 _ 58 _ _ rfl g qs.length c8 j 27 rfl rfl Try.underlying26 (by kernel_rfl) hjlt) ?_
  go_frame
  refine held_oper 15 (by kernel_rfl) rfl rfl (fun K' hK' => ?_)
  refine wp_store_own 58 _ _ rfl rfl g j rfl (cat3 RA QB GK) rfl ho HM1.out (by kernel_rfl) (by rw [eL1.out]; exact hjlt) hNK.len (fun wse3 ho2 Pe4 _ => ?_)
  replace hB := Pe4.below hB (by omega)
  replace h0 := Pe4.other h0 (by omega)
  replace h1 := Pe4.other h1 (by omega)
  replace h9 := Pe4.other h9 (by omega)
  replace h10 := Pe4.other h10 (by omega)
  replace ho := ho2
  refine hK' _ _ ⟨h0, h9, h10⟩ ?_
  clear hK' K' Pe4 ho2
  refine wpAnyH_done (by kernel_rfl) ?_ _
  obtain ⟨M2, HM2⟩ : ∃ M, Hid (M1.set j (cat3 RA QB GK) = M) := ⟨_, Lib.hid rfl⟩
  have eL2 : Hid (M2.length = qs.length) := Lib.hid (by rw [← HM2.out]; simpa using eL1.out)
  have l2 : M2.length ≤ 30 := by rw [eL2.out]; exact h31
  have HM2b : Hid (∀ q ∈ M2, Bytes 27 q) := Lib.hid (fun q h => by rw [← HM2.out] at h; rcases List.mem_or_eq_of_mem_set h with h | rfl; exact HM1b.out q h; exact hNK)
  rw [HM2.out] at ho
  go_wp2_with fail
  refine wp_region_held (S := fun w' => At w' w.heap.size (.cells #[.int .i64 p, .int .i64 n, .int .i64 m, .int .i64 k, .slice (some ⟨ba, offa, none⟩) qs.length cap] 28 (0, 0)) ∧ At w' b9 (.cells (u8s (cat3 QA QB QC)) 58 (0, 0)) ∧ At w' b10 (.cells (u8s (cat3 RA RB RC)) 58 (0, 0))) (by kernel_rfl) ?_
  change wpAnyH _ _ _ _ _ _ _ _ (World.drew _)
  generalize hwdf : World.drew _ = wdf
  replace hB : Below w.heap.size w wdf := by rw [← hwdf]; exact hB.drew
  replace h0 : At wdf w.heap.size (.cells #[.int .i64 p, .int .i64 n, .int .i64 m, .int .i64 k, .slice (some ⟨ba, offa, none⟩) qs.length cap] 28 (0, 0)) := by rw [← hwdf]; exact h0
  replace h1 : At wdf (w.heap.size + 1) (.cells #[.int .i64 0, .int .i64 0, .int .i64 0, .int .i64 0, .slice none 0 0] 28 (0, 0)) := by rw [← hwdf]; exact h1
  replace ho : Own wdf (w.heap.size + 1 + 1) (.slice (some ⟨g, 0, none⟩) qs.length c8) (M2) := by rw [← hwdf]; exact ho.drew
  replace h9 : At wdf b9 (.cells (u8s (cat3 QA QB QC)) 58 (0, 0)) := by rw [← hwdf]; exact h9
  replace h10 : At wdf b10 (.cells (u8s (cat3 RA RB RC)) 58 (0, 0)) := by rw [← hwdf]; exact h10
  clear hwdf
  refine held_yield 0 (some 74) (.slice (some ⟨g, 0, none⟩) qs.length c8) rfl (by kernel_rfl) (by kernel_rfl) (by kernel_rfl) (fun _ _ _ h => h) rfl rfl ⟨h0, h9, h10⟩ (fun w' h' => exec_move _ rfl (.slice (some ⟨g, 0, none⟩) qs.length c8) rfl) ?_
  go_frame
  refine held_yield 1 (some 75) (.agg (u8s (cat3 RA RB RC))) rfl (by kernel_rfl) (by kernel_rfl) (by kernel_rfl) (fun _ _ _ h => h) rfl rfl ⟨h0, h9, h10⟩ (fun w' h' => exec_load_all 58 _ rfl b10 rfl _ _ _ h'.2.2 Try.underlying58 rfl 27 (by kernel_rfl) ((u8s_size _).trans hr.len)) ?_
  go_frame
  refine held_yield 2 (some 76) (.pointer (some ⟨w.heap.size, 0, none⟩)) rfl (by kernel_rfl) (by kernel_rfl) (by kernel_rfl) (fun _ _ _ h => h) rfl rfl ⟨h0, h9, h10⟩ (fun w' h' => exec_fieldAddr 28 _ 0 rfl _ (by kernel_rfl)) ?_
  go_frame
  refine held_yield 3 (some 77) (.int .i64 p) rfl (by kernel_rfl) (by kernel_rfl) (by kernel_rfl) (fun _ _ _ h => h) rfl rfl ⟨h0, h9, h10⟩ (fun w' h' => exec_load_one 2 _ rfl w.heap.size 0 rfl _ _ Try.underlying2 rfl (h'.1.at_ 0)) ?_
  go_frame
  refine held_yield 4 (some 78) (.pointer (some ⟨b10, 9, none⟩)) rfl (by kernel_rfl) (by kernel_rfl) (by kernel_rfl) (fun _ _ _ h => h) rfl rfl ⟨h0, h9, h10⟩ (fun w' h' => exec_fieldAddr 58 _ 1 rfl _ (by kernel_rfl)) ?_
  go_frame
  refine held_yield 5 (some 79) (.agg (u8s RB)) rfl (by kernel_rfl) (by kernel_rfl) (by kernel_rfl) (fun _ _ _ h => h) rfl rfl ⟨h0, h9, h10⟩ (fun w' h' => exec_load_seg 39 _ rfl b10 9 rfl _ (cat3 RA RB RC) _ 9 h'.2.2 Try.underlying39 rfl (by kernel_rfl) (by omega) _ (segm_b hRA.len hRB.len)) ?_
  go_frame
  refine held_yield 6 (some 80) (.pointer (some ⟨b9, 9, none⟩)) rfl (by kernel_rfl) (by kernel_rfl) (by kernel_rfl) (fun _ _ _ h => h) rfl rfl ⟨h0, h9, h10⟩ (fun w' h' => exec_fieldAddr 58 _ 1 rfl _ (by kernel_rfl)) ?_
  go_frame
  refine held_yield 7 (some 81) (.agg (u8s QB)) rfl (by kernel_rfl) (by kernel_rfl) (by kernel_rfl) (fun _ _ _ h => h) rfl rfl ⟨h0, h9, h10⟩ (fun w' h' => exec_load_seg 39 _ rfl b9 9 rfl _ (cat3 QA QB QC) _ 9 h'.2.1 Try.underlying39 rfl (by kernel_rfl) (by omega) _ (segm_b hQA.len hQB.len)) ?_
  go_frame
  refine held_oper 8 (by kernel_rfl) rfl rfl (fun K' hK' => ?_)
  refine wp_call4 (some 82) rfl 34 _ _ _ _ _ rfl (fun args w => by kernel_rfl) _ _ _ _ rfl rfl rfl rfl _ (HLc.out _) (fun e wnf1 h => ?_)
  obtain ⟨rfl, bf2⟩ := h
  replace hB := below_after hB bf2
  replace h0 := h0.after bf2
  replace h1 := h1.after bf2
  replace ho := ho.below bf2
  replace h9 := h9.after bf2
  replace h10 := h10.after bf2
  clear bf2
  refine ⟨_, rfl, hK' _ _ ⟨h0, h9, h10⟩ ?_⟩
  clear hK' K'
  go_frame
  refine held_oper 9 (by kernel_rfl) rfl rfl (fun K' hK' => ?_)
  refine wp_call3 (some 83) rfl 33 _ _ _ _ rfl (fun args w => by kernel_rfl) _ _ _ rfl rfl rfl _ (HV.out _) (fun e wnf3 h => ?_)
  obtain ⟨rfl, bf4⟩ := h
  replace hB := below_after hB bf4
  replace h0 := h0.after bf4
  replace h1 := h1.after bf4
  replace ho := ho.below bf4
  replace h9 := h9.after bf4
  replace h10 := h10.after bf4
  clear bf4
  refine ⟨_, rfl, hK' _ _ ⟨h0, h9, h10⟩ ?_⟩
  clear hK' K'
  go_frame
  refine held_oper 10 (by kernel_rfl) rfl rfl (fun K' hK' => ?_)
  refine wp_slice1 (some 84) rfl 26 58 _ rfl (cat3 RA GL RC) rfl Try.underlying26 infoProd hNL.len (fun wsf5 nnf6 => ?_)
  have bf7 := nnf6.below (Below.refl _ _) (Nat.le_refl _)
  have hRq := Rd.one nnf6 hNL
  replace hB := below_after hB bf7
  replace h0 := h0.after bf7
  replace h1 := h1.after bf7
  replace ho := ho.below bf7
  replace h9 := h9.after bf7
  replace h10 := h10.after bf7
  refine hK' _ _ ⟨h0, h9, h10⟩ ?_
  clear hK' K' bf7 nnf6
  go_frame
  refine held_oper 11 (by kernel_rfl) rfl rfl (fun K' hK' => ?_)
  have lo9 := h1.lt
  refine wp_append_rd (some 85) rfl _ _ rfl (.slice (some ⟨g, 0, none⟩) qs.length c8) M2 [cat3 RA GL RC] rfl ho (some ⟨_, 0, none⟩) 1 rfl hRq (by simp) (by simp only [List.length_cons, List.length_nil]; omega) (by omega) (fun v9 wsf8 ho9 gr => ?_)
  replace hB := below_grown hB gr ho (by omega)
  replace h0 := h0.grown gr (fun e => by simp only [Value.ownBlock, Option.some.injEq] at e; omega)
  replace h1 := h1.grown gr (fun e => by simp only [Value.ownBlock, Option.some.injEq] at e; omega)
  replace h9 := h9.grown gr (fun e => by simp only [Value.ownBlock, Option.some.injEq] at e; omega)
  replace h10 := h10.grown gr (fun e => by simp only [Value.ownBlock, Option.some.injEq] at e; omega)
  clear gr ho hRq
  have hv9 := ho9.shp.cells
  refine hK' _ _ ⟨h0, h9, h10⟩ ?_
  clear hK' K'
  go_frame
  refine held_yield 12 (some 8) (v9) rfl (by kernel_rfl) (by kernel_rfl) (by kernel_rfl) (fun _ _ _ h => h) rfl rfl ⟨h0, h9, h10⟩ (fun w' h' => exec_assign _ rfl (v9) rfl) ?_
  go_frame
  refine wpAnyH_done (by kernel_rfl) ?_ _
  have hfin : ∀ q ∈ M2 ++ [cat3 RA GL RC], Bytes 27 q := fun q h => by
    rcases List.mem_append.1 h with h | h
    · exact HM2b.out q h
    · obtain rfl := List.mem_singleton.1 h; exact hNL
  have HQ0 : Hid (pmQs p qs i j = (M2 ++ [cat3 RA GL RC]).filter nzB) := Lib.hid (by rw [Hpm.out, HM.out, HM2.out])
  have hl9 : (M2 ++ [cat3 RA GL RC]).length ≤ 1000 := by rw [List.length_append]; simp; omega
  generalize M2 ++ [cat3 RA GL RC] = M3 at *
  have HQ := Lib.hid HQ0.out
  obtain ⟨A9, c9, rfl, hR9⟩ := ho9.rd hfin
  go_wp2_with (refine wpList_load_all rfl 28 _ rfl w.heap.size rfl _ _ _ h0 Try.underlying28 rfl 5 (by kernel_rfl) rfl ?_)
  refine (l03Told_c p n m k (some ⟨ba, offa, none⟩) qs.length cap A9 c9 _ _ hR9 hl9).mono ?_
  rintro e w5 ⟨v, rfl, hov, b5⟩
  have hsz5 := hB.size
  replace h1 := h1.after b5
  replace hB := below_after hB b5
  replace hov := hov.mono hsz5
  have hv := hov.shp.cells
  have n1 := hov.off h1 (by decide)
  clear b5 h0 h9 h10 ho9 hR9
  go_wp2_with (refine wpList_store_all rfl 28 _ _ rfl rfl (w.heap.size + 1) rfl _ rfl _ _ h1 5 (by kernel_rfl) rfl rfl (by intro x hx; simp at hx; rcases hx with rfl | rfl | rfl | rfl | rfl <;> first | rfl | exact hv.2) ?_; intro W2 p2)
  refine bodyPost_ret (results_at2 rfl _ _ (w.heap.size + 1) _ _ _ rfl _ rfl p2.at_ Try.underlying28 rfl 5 (by kernel_rfl) rfl) rfl ?_
  exact ⟨v, rfl, by rw [HQ.out]; exact hov.put p2 n1, p2.below hB (by omega)⟩
end Go.Proofs.Ytbgoopmmdbhogaa
