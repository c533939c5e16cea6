/-
  impl.PlusMove where the arguments are fit. (Made by mkpm3.py.)
-/
import Derived.Test.YtbgoopmmdbhogaaPm2
import Derived.Test.YtbgoopmmdbhogaaNrm4
import Derived.Test.YtbgoopmmdbhogaaSub
import Derived.Test.YtbgoopmmdbhogaaDel3
import Derived.Deep.CutRange
namespace Go.Proofs.Ytbgoopmmdbhogaa
open Go.RowKit
set_option maxRecDepth 100000
set_option maxHeartbeats 800000 in
theorem at_world {w : World} {b : Nat} {o : Obj} (_ : At w b o) : ∃ x : World, x = w := ⟨w, rfl⟩
set_option maxHeartbeats 2000000 in
theorem implPlusMove_yes (p n m k : Int) (g : Nat) (qs : List (List Nat)) (i j : Nat) (w : World) (hR : Rd w (some ⟨g, 0, none⟩) qs) (hs : schemeB p n m k qs = true) (hilt : i < qs.length) (hjlt : j < qs.length) (hij : i ≠ j) (h30 : qs.length ≠ 30) :
    Calls Try.prog 15 #[.agg #[.int .i64 p, .int .i64 n, .int .i64 m, .int .i64 k, .slice (some ⟨g, 0, none⟩) qs.length qs.length], .int .i64 i, .int .i64 j] w (ResS w p n m k (pmQs p qs i j) 0) := by
  have hgood := hR.good
  have h31 := schemeB_len hs
  have hpp := (sizesB_parts (schemeB_sizes hs)).1
  have h5 := primeB_5 hpp
  have h2p : 1 < p := by simp only [primeB, Bool.or_eq_true, beq_iff_eq] at hpp; omega
  have HIs := Lib.hid (fun w hr => (implIsScheme_c p n m k (some ⟨g, 0, none⟩) qs.length qs w hr (by omega)))
  have Hs := Lib.hid hs
  have Hpm : Hid (pmQs p qs i j = (((qs.set i (pmI p qs[i] qs[j])).set j (pmK p qs[i] qs[j])) ++ [pmL p qs[i] qs[j]]).filter nzB) := Lib.hid (pmQs_eq p hilt hjlt)
  have hbi := hgood _ (List.getElem_mem hilt)
  have hbj := hgood _ (List.getElem_mem hjlt)
  have Hci : Hid (∀ W : World, Below w.heap.size w W → ∀ t, t < 27 → W.cell? ⟨g, i * 27 + t, none⟩ = some (.int .u8 (((qs[i])[t]?.getD 0 : Nat) : Int))) := Lib.hid (fun W hB t ht => by have := Rd.cells27 (hR.keep hB) hilt t ht; rwa [Nat.zero_add] at this)
  have Hcj : Hid (∀ W : World, Below w.heap.size w W → ∀ t, t < 27 → W.cell? ⟨g, j * 27 + t, none⟩ = some (.int .u8 (((qs[j])[t]?.getD 0 : Nat) : Int))) := Lib.hid (fun W hB t ht => by have := Rd.cells27 (hR.keep hB) hjlt t ht; rwa [Nat.zero_add] at this)
  have hxi : inI (i : Int) qs.length = true := by simp [inI]; omega
  have hxj : inI (j : Int) qs.length = true := by simp [inI]; omega
  have Hxi := Lib.hid hxi
  have Hxj := Lib.hid hxj
  have e1 : ((i : Int) == (j : Int)) = false := by rw [beq_eq_false_iff_ne]; omega
  have e2 : ((qs.length : Int) == 30) = false := by rw [beq_eq_false_iff_ne]; omega
  generalize qs[i] = q at *
  generalize qs[j] = r at *
  obtain ⟨QA, QB, QC, rfl, hQA, hQB, hQC⟩ := parts3 hbi
  obtain ⟨RA, RB, RC, rfl, hRA, hRB, hRC⟩ := parts3 hbj
  have hq := bytes3 hQA hQB hQC
  have hr := bytes3 hRA hRB hRC
  unfold pmI pmK pmL at Hpm
  rw [segm_a hQA.len, segm_b hQA.len hQB.len, segm_c hQA.len hQB.len hQC.len, segm_a hRA.len, segm_b hRA.len hRB.len, segm_c hRA.len hRB.len hRC.len] at Hpm
  have HI := Lib.hid (fun w => subtractedForm_c p QA RA hQA hRA w h2p h5.2)
  have HKc := Lib.hid (fun w => addedForm_c p 1 QC RC hQC hRC w h5.1 h5.2 (by omega) (by omega))
  have HLc := Lib.hid (fun w => subtractedForm_c p RB QB hRB hQB w h2p h5.2)
  have hGI := adF_bytes (-1) QA RA h5.1 h5.2
  have hGK := adF_bytes 1 QC RC h5.1 h5.2
  have hGL := adF_bytes (-1) RB QB h5.1 h5.2
  generalize adF p (-1) QA RA = GI at *
  generalize adF p 1 QC RC = GK at *
  generalize adF p (-1) RB QB = GL at *
  have hNI := bytes3 hGI hQB hQC
  have hNK := bytes3 hRA hQB hGK
  have hNL := bytes3 hRA hGL hRC
  have l27q : 27 ≤ (cat3 QA QB QC).length := by rw [hq.len]; exact Nat.le_refl _
  have l27r : 27 ≤ (cat3 RA RB RC).length := by rw [hr.len]; exact Nat.le_refl _
  clear hs hbi hbj hxi hxj hpp
  go_enter Try.func15, Try.ntmps15
  go_wp2_with (first | (refine wpList_abs2 ?_; intro W hsz hB h0 h1) | (refine wpList_load_all rfl 28 _ rfl w.heap.size rfl _ _ _ h0 Try.underlying28 rfl 5 (by kernel_rfl) rfl ?_))
  refine (HIs.out _ (hR.keep hB)).mono ?_
  rintro e w1 ⟨rfl, b1⟩
  rw [Hs.out]
  replace h0 := h0.after b1
  replace h1 := h1.after b1
  replace hB := below_after hB b1
  clear b1 hsz
  go_wp2_with (refine wpList_load_all rfl 28 _ rfl w.heap.size rfl _ _ _ h0 Try.underlying28 rfl 5 (by kernel_rfl) rfl ?_)
  refine (isProductIndex_c p n m k (some ⟨g, 0, none⟩) qs.length qs.length i _).mono ?_
  rintro e w2 ⟨rfl, b1⟩
  rw [Hxi.out]
  replace h0 := h0.after b1
  replace h1 := h1.after b1
  replace hB := below_after hB b1
  clear b1
  go_wp2_with (refine wpList_want_exec rfl (exec_load_all 28 _ rfl w.heap.size rfl _ _ _ h0 Try.underlying28 rfl 5 (by kernel_rfl) rfl) ?_)
  refine (isProductIndex_c p n m k (some ⟨g, 0, none⟩) qs.length qs.length j _).mono ?_
  rintro e w3 ⟨rfl, b1⟩
  rw [Hxj.out]
  replace h0 := h0.after b1
  replace h1 := h1.after b1
  replace hB := below_after hB b1
  clear b1
  have c4 : w3.cell? ⟨w.heap.size, 4, none⟩ = some (.slice (some ⟨g, 0, none⟩) qs.length qs.length) := h0.at_ 4
  go_upto_region 9 with (fail)
  clear c4
  go_cut [8, 9, 10] from 37 to 48 (fun s8 s9 s10 wx => ∃ b9 b10 : Nat, s8 = .int .i64 p ∧ s9 = .pointer (some ⟨b9, 0, none⟩) ∧ s10 = .pointer (some ⟨b10, 0, none⟩) ∧ w.heap.size + 1 < b9 ∧ w.heap.size + 1 < b10 ∧ b9 ≠ b10 ∧ At wx b9 (.cells (u8s (cat3 QA QB QC)) 58 (0, 0)) ∧ At wx b10 (.cells (u8s (cat3 RA RB RC)) 58 (0, 0)) ∧ Below w.heap.size w wx ∧ At wx w.heap.size (.cells #[.int .i64 p, .int .i64 n, .int .i64 m, .int .i64 k, .slice (some ⟨g, 0, none⟩) qs.length qs.length] 28 (0, 0)) ∧ At wx (w.heap.size + 1) (.cells #[.int .i64 0, .int .i64 0, .int .i64 0, .int .i64 0, .slice none 0 0] 28 (0, 0)))
  case first =>
    go_wp2_with fail
    refine wp_region_held (S := fun w' => At w' w.heap.size (.cells #[.int .i64 p, .int .i64 n, .int .i64 m, .int .i64 k, .slice (some ⟨g, 0, none⟩) qs.length qs.length] 28 (0, 0)) ∧ (∀ t, t < 27 → w'.cell? ⟨g, i * 27 + t, none⟩ = some (.int .u8 (((cat3 QA QB QC)[t]?.getD 0 : Nat) : Int))) ∧ (∀ t, t < 27 → w'.cell? ⟨g, j * 27 + t, none⟩ = some (.int .u8 (((cat3 RA RB RC)[t]?.getD 0 : Nat) : Int)))) (by kernel_rfl) ?_
    change wpAnyH _ _ _ _ _ _ _ _ (World.drew _)
    generalize hwdc : World.drew _ = wdc
    replace hB : Below w.heap.size w wdc := by rw [← hwdc]; exact hB.drew
    replace h0 : At wdc w.heap.size (.cells #[.int .i64 p, .int .i64 n, .int .i64 m, .int .i64 k, .slice (some ⟨g, 0, none⟩) qs.length qs.length] 28 (0, 0)) := by rw [← hwdc]; exact h0
    replace h1 : At wdc (w.heap.size + 1) (.cells #[.int .i64 0, .int .i64 0, .int .i64 0, .int .i64 0, .slice none 0 0] 28 (0, 0)) := by rw [← hwdc]; exact h1
    clear hwdc
    have lw0 := hB.size
    have l10 := h1.lt
    refine held_yield 0 (some 37) (.pointer (some ⟨w.heap.size, 0, none⟩)) rfl (by kernel_rfl) (by kernel_rfl) (by kernel_rfl) (fun _ _ _ h => h) rfl rfl ⟨h0, Hci.out _ hB, Hcj.out _ hB⟩ (fun w' h' => exec_fieldAddr 28 _ 0 rfl _ (by kernel_rfl)) ?_
    go_frame
    refine held_yield 1 (some 38) (.int .i64 p) rfl (by kernel_rfl) (by kernel_rfl) (by kernel_rfl) (fun _ _ _ h => h) rfl rfl ⟨h0, Hci.out _ hB, Hcj.out _ hB⟩ (fun w' h' => exec_load_one 2 _ rfl w.heap.size 0 rfl _ _ Try.underlying2 rfl (h'.1.at_ 0)) ?_
    go_frame
    refine held_yield 2 (some 39) (.pointer (some ⟨w.heap.size, 4, none⟩)) rfl (by kernel_rfl) (by kernel_rfl) (by kernel_rfl) (fun _ _ _ h => h) rfl rfl ⟨h0, Hci.out _ hB, Hcj.out _ hB⟩ (fun w' h' => exec_fieldAddr 28 _ 4 rfl _ (by kernel_rfl)) ?_
    go_frame
    refine held_yield 3 (some 40) (.slice (some ⟨g, 0, none⟩) qs.length qs.length) rfl (by kernel_rfl) (by kernel_rfl) (by kernel_rfl) (fun _ _ _ h => h) rfl rfl ⟨h0, Hci.out _ hB, Hcj.out _ hB⟩ (fun w' h' => exec_load_one 26 _ rfl w.heap.size 4 rfl _ _ Try.underlying26 rfl (h'.1.at_ 4)) ?_
    go_frame
    refine held_yield 4 (some 41) (.int .i64 i) rfl (by kernel_rfl) (by kernel_rfl) (by kernel_rfl) (fun _ _ _ h => h) rfl rfl ⟨h0, Hci.out _ hB, Hcj.out _ hB⟩ (fun w' h' => exec_move _ rfl (.int .i64 i) rfl) ?_
    go_frame
    refine held_yield 5 (some 42) (.pointer (some ⟨g, i * 27, none⟩)) rfl (by kernel_rfl) (by kernel_rfl) (by kernel_rfl) (fun _ _ _ h => h) rfl rfl ⟨h0, Hci.out _ hB, Hcj.out _ hB⟩ (fun w' h' => exec_index_at0 _ 58 _ _ rfl g qs.length qs.length i 27 rfl rfl Try.underlying26 (by kernel_rfl) hilt) ?_
    go_frame
    refine held_yield 6 (some 43) (.agg (u8s (cat3 QA QB QC))) rfl (by kernel_rfl) (by kernel_rfl) (by kernel_rfl) (fun _ _ _ h => h) rfl rfl ⟨h0, Hci.out _ hB, Hcj.out _ hB⟩ (fun w' h' => exec_load_cells 58 _ rfl g (i * 27) rfl (cat3 QA QB QC) _ 27 h'.2.1 Try.underlying58 rfl (by kernel_rfl) hq.len) ?_
    go_frame
    refine held_yield 7 (some 44) (.pointer (some ⟨w.heap.size, 4, none⟩)) rfl (by kernel_rfl) (by kernel_rfl) (by kernel_rfl) (fun _ _ _ h => h) rfl rfl ⟨h0, Hci.out _ hB, Hcj.out _ hB⟩ (fun w' h' => exec_fieldAddr 28 _ 4 rfl _ (by kernel_rfl)) ?_
    go_frame
    refine held_yield 8 (some 45) (.slice (some ⟨g, 0, none⟩) qs.length qs.length) rfl (by kernel_rfl) (by kernel_rfl) (by kernel_rfl) (fun _ _ _ h => h) rfl rfl ⟨h0, Hci.out _ hB, Hcj.out _ hB⟩ (fun w' h' => exec_load_one 26 _ rfl w.heap.size 4 rfl _ _ Try.underlying26 rfl (h'.1.at_ 4)) ?_
    go_frame
    refine held_yield 9 (some 46) (.int .i64 j) rfl (by kernel_rfl) (by kernel_rfl) (by kernel_rfl) (fun _ _ _ h => h) rfl rfl ⟨h0, Hci.out _ hB, Hcj.out _ hB⟩ (fun w' h' => exec_move _ rfl (.int .i64 j) rfl) ?_
    go_frame
    refine held_yield 10 (some 47) (.pointer (some ⟨g, j * 27, none⟩)) rfl (by kernel_rfl) (by kernel_rfl) (by kernel_rfl) (fun _ _ _ h => h) rfl rfl ⟨h0, Hci.out _ hB, Hcj.out _ hB⟩ (fun w' h' => exec_index_at0 _ 58 _ _ rfl g qs.length qs.length j 27 rfl rfl Try.underlying26 (by kernel_rfl) hjlt) ?_
    go_frame
    refine held_yield 11 (some 48) (.agg (u8s (cat3 RA RB RC))) rfl (by kernel_rfl) (by kernel_rfl) (by kernel_rfl) (fun _ _ _ h => h) rfl rfl ⟨h0, Hci.out _ hB, Hcj.out _ hB⟩ (fun w' h' => exec_load_cells 58 _ rfl g (j * 27) rfl (cat3 RA RB RC) _ 27 h'.2.2 Try.underlying58 rfl (by kernel_rfl) hr.len) ?_
    go_frame
    refine held_two 12 13 (by kernel_rfl) rfl rfl rfl rfl (fun K' hK' => ?_) (fun K' hK' => ?_)
    · refine wp_new (some 9) rfl (exec_alloc_prod rfl) (fun wac1 nnc2 => ?_)
      have bc3 := nnc2.below (Below.refl _ _) (Nat.le_refl _)
      replace hB := below_after hB bc3
      replace h0 := h0.after bc3
      replace h1 := h1.after bc3
      have h9 : At wac1 wdc.heap.size (.cells (u8s (List.replicate 27 0)) 58 (0, 0)) := nnc2.at_
      have lth9 := h9.lt
      refine hK' _ _ ⟨h0, Hci.out _ hB, Hcj.out _ hB⟩ ?_
      clear hK' K' nnc2 bc3
      go_frame
      refine held_oper 13 (by kernel_rfl) rfl rfl (fun K' hK' => ?_)
      refine wp_new (some 10) rfl (exec_alloc_prod rfl) (fun wac4 nnc5 => ?_)
      have bc6 := nnc5.below (Below.refl _ _) (Nat.le_refl _)
      replace hB := below_after hB bc6
      replace h0 := h0.after bc6
      replace h1 := h1.after bc6
      replace h9 := h9.after bc6
      have h10 : At wac4 wac1.heap.size (.cells (u8s (List.replicate 27 0)) 58 (0, 0)) := nnc5.at_
      have lth10 := h10.lt
      refine hK' _ _ ⟨h0, Hci.out _ hB, Hcj.out _ hB⟩ ?_
      clear hK' K' nnc5 bc6
      go_frame
      refine held_oper 14 (by kernel_rfl) rfl rfl (fun K' hK' => ?_)
      refine wp_exec (some 8) rfl (.int .i64 p) (exec_assign _ rfl (.int .i64 p) rfl) (hK' _ _ ⟨h0, Hci.out _ hB, Hcj.out _ hB⟩ ?_)
      clear hK' K'
      go_frame
      refine held_oper 15 (by kernel_rfl) rfl rfl (fun K' hK' => ?_)
      refine wp_store_bytes 58 _ _ rfl rfl (wdc.heap.size) rfl (cat3 QA QB QC) rfl _ _ h9 27 (by kernel_rfl) hq.len (by simp) (fun wsc7 pc8 => ?_)
      replace hB := pc8.below hB (by omega)
      replace h0 := pc8.other h0 (by omega)
      replace h1 := pc8.other h1 (by omega)
      replace h10 := pc8.other h10 (by omega)
      replace h9 := pc8.at_
      refine hK' _ _ ⟨h0, Hci.out _ hB, Hcj.out _ hB⟩ ?_
      clear hK' K' pc8
      refine held_oper 16 (by kernel_rfl) rfl rfl (fun K' hK' => ?_)
      refine wp_store_bytes 58 _ _ rfl rfl (wac1.heap.size) rfl (cat3 RA RB RC) rfl _ _ h10 27 (by kernel_rfl) hr.len (by simp) (fun wsc9 pc10 => ?_)
      replace hB := pc10.below hB (by omega)
      replace h0 := pc10.other h0 (by omega)
      replace h1 := pc10.other h1 (by omega)
      replace h9 := pc10.other h9 (by omega)
      replace h10 := pc10.at_
      refine hK' _ _ ⟨h0, Hci.out _ hB, Hcj.out _ hB⟩ ?_
      clear hK' K' pc10
      refine wpAnyH_done (by kernel_rfl) ?_ _
      go_wp2_with fail
      go_meet
      exact ⟨_, _, rfl, rfl, rfl, by omega, by omega, by omega, h9, h10, hB, h0, h1⟩
    · refine wp_new (some 10) rfl (exec_alloc_prod rfl) (fun wac1 nnc2 => ?_)
      have bc3 := nnc2.below (Below.refl _ _) (Nat.le_refl _)
      replace hB := below_after hB bc3
      replace h0 := h0.after bc3
      replace h1 := h1.after bc3
      have h10 : At wac1 wdc.heap.size (.cells (u8s (List.replicate 27 0)) 58 (0, 0)) := nnc2.at_
      have lth10 := h10.lt
      refine hK' _ _ ⟨h0, Hci.out _ hB, Hcj.out _ hB⟩ ?_
      clear hK' K' nnc2 bc3
      go_frame
      refine held_oper 12 (by kernel_rfl) rfl rfl (fun K' hK' => ?_)
      refine wp_new (some 9) rfl (exec_alloc_prod rfl) (fun wac4 nnc5 => ?_)
      have bc6 := nnc5.below (Below.refl _ _) (Nat.le_refl _)
      replace hB := below_after hB bc6
      replace h0 := h0.after bc6
      replace h1 := h1.after bc6
      replace h10 := h10.after bc6
      have h9 : At wac4 wac1.heap.size (.cells (u8s (List.replicate 27 0)) 58 (0, 0)) := nnc5.at_
      have lth9 := h9.lt
      refine hK' _ _ ⟨h0, Hci.out _ hB, Hcj.out _ hB⟩ ?_
      clear hK' K' nnc5 bc6
      go_frame
      refine held_oper 14 (by kernel_rfl) rfl rfl (fun K' hK' => ?_)
      refine wp_exec (some 8) rfl (.int .i64 p) (exec_assign _ rfl (.int .i64 p) rfl) (hK' _ _ ⟨h0, Hci.out _ hB, Hcj.out _ hB⟩ ?_)
      clear hK' K'
      go_frame
      refine held_oper 15 (by kernel_rfl) rfl rfl (fun K' hK' => ?_)
      refine wp_store_bytes 58 _ _ rfl rfl (wac1.heap.size) rfl (cat3 QA QB QC) rfl _ _ h9 27 (by kernel_rfl) hq.len (by simp) (fun wsc7 pc8 => ?_)
      replace hB := pc8.below hB (by omega)
      replace h0 := pc8.other h0 (by omega)
      replace h1 := pc8.other h1 (by omega)
      replace h10 := pc8.other h10 (by omega)
      replace h9 := pc8.at_
      refine hK' _ _ ⟨h0, Hci.out _ hB, Hcj.out _ hB⟩ ?_
      clear hK' K' pc8
      refine held_oper 16 (by kernel_rfl) rfl rfl (fun K' hK' => ?_)
      refine wp_store_bytes 58 _ _ rfl rfl (wdc.heap.size) rfl (cat3 RA RB RC) rfl _ _ h10 27 (by kernel_rfl) hr.len (by simp) (fun wsc9 pc10 => ?_)
      replace hB := pc10.below hB (by omega)
      replace h0 := pc10.other h0 (by omega)
      replace h1 := pc10.other h1 (by omega)
      replace h9 := pc10.other h9 (by omega)
      replace h10 := pc10.at_
      refine hK' _ _ ⟨h0, Hci.out _ hB, Hcj.out _ hB⟩ ?_
      clear hK' K' pc10
      refine wpAnyH_done (by kernel_rfl) ?_ _
      go_wp2_with fail
      go_meet
      exact ⟨_, _, rfl, rfl, rfl, by omega, by omega, by omega, h9, h10, hB, h0, h1⟩
  case rest =>
  clear hB h0 h1
  obtain ⟨b9, b10, rfl, rfl, rfl, hg9, hg10, hne, h9, h10, hB, h0, h1⟩ := hcut
  go_upto_region 10 with (fail)
  go_cut [11] from 49 to 59 (fun s11 wx => ∃ b11 : Nat, s11 = .pointer (some ⟨b11, 0, none⟩) ∧ w.heap.size + 1 < b11 ∧ b9 < b11 ∧ b10 < b11 ∧ At wx b11 (.cells (u8s (cat3 RA GL RC)) 58 (0, 0)) ∧ At wx b9 (.cells (u8s (cat3 QA QB QC)) 58 (0, 0)) ∧ At wx b10 (.cells (u8s (cat3 RA RB RC)) 58 (0, 0)) ∧ Below w.heap.size w wx ∧ At wx w.heap.size (.cells #[.int .i64 p, .int .i64 n, .int .i64 m, .int .i64 k, .slice (some ⟨g, 0, none⟩) qs.length qs.length] 28 (0, 0)) ∧ At wx (w.heap.size + 1) (.cells #[.int .i64 0, .int .i64 0, .int .i64 0, .int .i64 0, .slice none 0 0] 28 (0, 0)))
  case first =>
    go_wp2_with fail
    refine wp_region_held (S := fun w' => At w' b9 (.cells (u8s (cat3 QA QB QC)) 58 (0, 0)) ∧ At w' b10 (.cells (u8s (cat3 RA RB RC)) 58 (0, 0))) (by kernel_rfl) ?_
    change wpAnyH _ _ _ _ _ _ _ _ (World.drew _)
    generalize hwdd : World.drew _ = wdd
    replace hB : Below w.heap.size w wdd := by rw [← hwdd]; exact hB.drew
    replace h0 : At wdd w.heap.size (.cells #[.int .i64 p, .int .i64 n, .int .i64 m, .int .i64 k, .slice (some ⟨g, 0, none⟩) qs.length qs.length] 28 (0, 0)) := by rw [← hwdd]; exact h0
    replace h1 : At wdd (w.heap.size + 1) (.cells #[.int .i64 0, .int .i64 0, .int .i64 0, .int .i64 0, .slice none 0 0] 28 (0, 0)) := by rw [← hwdd]; exact h1
    replace h9 : At wdd b9 (.cells (u8s (cat3 QA QB QC)) 58 (0, 0)) := by rw [← hwdd]; exact h9
    replace h10 : At wdd b10 (.cells (u8s (cat3 RA RB RC)) 58 (0, 0)) := by rw [← hwdd]; exact h10
    clear hwdd
    have lw0 := hB.size
    have l9 := h9.lt
    have l10 := h10.lt
    have l1 := h1.lt
    have z9 : b9 + 1 ≤ wdd.heap.size := l9
    have z10 : b10 + 1 ≤ wdd.heap.size := l10
    have z1 : w.heap.size + 1 + 1 ≤ wdd.heap.size := l1
    refine held_yield 0 (some 49) (.pointer (some ⟨b10, 0, none⟩)) rfl (by kernel_rfl) (by kernel_rfl) (by kernel_rfl) (fun _ _ _ h => h) rfl rfl ⟨h9, h10⟩ (fun w' h' => exec_fieldAddr 58 _ 0 rfl _ (by kernel_rfl)) ?_
    go_frame
    refine held_yield 1 (some 50) (.agg (u8s RA)) rfl (by kernel_rfl) (by kernel_rfl) (by kernel_rfl) (fun _ _ _ h => h) rfl rfl ⟨h9, h10⟩ (fun w' h' => exec_load_seg 39 _ rfl b10 0 rfl _ (cat3 RA RB RC) _ 9 h'.2 Try.underlying39 rfl (by kernel_rfl) (by omega) _ (segm_a hRA.len)) ?_
    go_frame
    refine held_yield 2 (some 51) (.int .i64 p) rfl (by kernel_rfl) (by kernel_rfl) (by kernel_rfl) (fun _ _ _ h => h) rfl rfl ⟨h9, h10⟩ (fun w' h' => exec_move _ rfl (.int .i64 p) rfl) ?_
    go_frame
    refine held_yield 3 (some 52) (.pointer (some ⟨b10, 9, none⟩)) rfl (by kernel_rfl) (by kernel_rfl) (by kernel_rfl) (fun _ _ _ h => h) rfl rfl ⟨h9, h10⟩ (fun w' h' => exec_fieldAddr 58 _ 1 rfl _ (by kernel_rfl)) ?_
    go_frame
    refine held_yield 4 (some 53) (.agg (u8s RB)) rfl (by kernel_rfl) (by kernel_rfl) (by kernel_rfl) (fun _ _ _ h => h) rfl rfl ⟨h9, h10⟩ (fun w' h' => exec_load_seg 39 _ rfl b10 9 rfl _ (cat3 RA RB RC) _ 9 h'.2 Try.underlying39 rfl (by kernel_rfl) (by omega) _ (segm_b hRA.len hRB.len)) ?_
    go_frame
    refine held_yield 5 (some 54) (.pointer (some ⟨b9, 9, none⟩)) rfl (by kernel_rfl) (by kernel_rfl) (by kernel_rfl) (fun _ _ _ h => h) rfl rfl ⟨h9, h10⟩ (fun w' h' => exec_fieldAddr 58 _ 1 rfl _ (by kernel_rfl)) ?_
    go_frame
    refine held_yield 6 (some 55) (.agg (u8s QB)) rfl (by kernel_rfl) (by kernel_rfl) (by kernel_rfl) (fun _ _ _ h => h) rfl rfl ⟨h9, h10⟩ (fun w' h' => exec_load_seg 39 _ rfl b9 9 rfl _ (cat3 QA QB QC) _ 9 h'.1 Try.underlying39 rfl (by kernel_rfl) (by omega) _ (segm_b hQA.len hQB.len)) ?_
    go_frame
    refine held_yield 8 (some 57) (.pointer (some ⟨b10, 18, none⟩)) rfl (by kernel_rfl) (by kernel_rfl) (by kernel_rfl) (fun _ _ _ h => h) rfl rfl ⟨h9, h10⟩ (fun w' h' => exec_fieldAddr 58 _ 2 rfl _ (by kernel_rfl)) ?_
    go_frame
    refine held_yield 9 (some 58) (.agg (u8s RC)) rfl (by kernel_rfl) (by kernel_rfl) (by kernel_rfl) (fun _ _ _ h => h) rfl rfl ⟨h9, h10⟩ (fun w' h' => exec_load_seg 39 _ rfl b10 18 rfl _ (cat3 RA RB RC) _ 9 h'.2 Try.underlying39 rfl (by kernel_rfl) (by omega) _ (segm_c hRA.len hRB.len hRC.len)) ?_
    go_frame
    refine held_two 7 11 (by kernel_rfl) rfl rfl rfl rfl (fun K' hK' => ?_) (fun K' hK' => ?_)
    · refine wp_call3 (some 56) rfl 37 _ _ _ _ rfl (fun args w => by kernel_rfl) _ _ _ rfl rfl rfl _ (HLc.out _) (fun e wnd1 h => ?_)
      obtain ⟨rfl, bd2⟩ := h
      replace hB := below_after hB bd2
      replace h0 := h0.after bd2
      replace h1 := h1.after bd2
      replace h9 := h9.after bd2
      replace h10 := h10.after bd2
      replace z9 := size_after z9 bd2
      replace z10 := size_after z10 bd2
      replace z1 := size_after z1 bd2
      clear bd2
      refine ⟨_, rfl, hK' _ _ ⟨h9, h10⟩ ?_⟩
      clear hK' K'
      go_frame
      refine held_yield 10 (some 59) (.agg (u8s (cat3 RA GL RC))) rfl (by kernel_rfl) (by kernel_rfl) (by kernel_rfl) (fun _ _ _ h => h) rfl rfl ⟨h9, h10⟩ (fun w' h' => exec_prod _ _ _ rfl RA GL RC rfl rfl rfl hRA.len hGL.len hRC.len) ?_
      go_frame
      refine held_oper 11 (by kernel_rfl) rfl rfl (fun K' hK' => ?_)
      refine wp_new (some 11) rfl (exec_alloc_prod rfl) (fun wad3 nnd4 => ?_)
      have bd5 := nnd4.below (Below.refl _ _) (Nat.le_refl _)
      have yh11_z9 := z9
      have yh11_z10 := z10
      have yh11_z1 := z1
      replace hB := below_after hB bd5
      replace h0 := h0.after bd5
      replace h1 := h1.after bd5
      replace h9 := h9.after bd5
      replace h10 := h10.after bd5
      replace z9 := size_after z9 bd5
      replace z10 := size_after z10 bd5
      replace z1 := size_after z1 bd5
      have h11 : At wad3 wnd1.heap.size (.cells (u8s (List.replicate 27 0)) 58 (0, 0)) := nnd4.at_
      have lth11 := h11.lt
      refine hK' _ _ ⟨h9, h10⟩ ?_
      clear hK' K' nnd4 bd5
      go_frame
      refine held_oper 12 (by kernel_rfl) rfl rfl (fun K' hK' => ?_)
      refine wp_store_bytes 58 _ _ rfl rfl (wnd1.heap.size) rfl (cat3 RA GL RC) rfl _ _ h11 27 (by kernel_rfl) hNL.len (by simp) (fun wsd6 pd7 => ?_)
      replace hB := pd7.below hB (by omega)
      replace h0 := pd7.other h0 (by omega)
      replace h1 := pd7.other h1 (by omega)
      replace h9 := pd7.other h9 (by omega)
      replace h10 := pd7.other h10 (by omega)



      replace h11 := pd7.at_
      refine hK' _ _ ⟨h9, h10⟩ ?_
      clear hK' K' pd7
      refine wpAnyH_done (by kernel_rfl) ?_ _
      go_wp2_with fail
      go_meet
      exact ⟨_, rfl, by omega, by omega, by omega, h11, h9, h10, hB, h0, h1⟩
    · refine wp_new (some 11) rfl (exec_alloc_prod rfl) (fun wad1 nnd2 => ?_)
      have bd3 := nnd2.below (Below.refl _ _) (Nat.le_refl _)
      have yh11_z9 := z9
      have yh11_z10 := z10
      have yh11_z1 := z1
      replace hB := below_after hB bd3
      replace h0 := h0.after bd3
      replace h1 := h1.after bd3
      replace h9 := h9.after bd3
      replace h10 := h10.after bd3
      replace z9 := size_after z9 bd3
      replace z10 := size_after z10 bd3
      replace z1 := size_after z1 bd3
      have h11 : At wad1 wdd.heap.size (.cells (u8s (List.replicate 27 0)) 58 (0, 0)) := nnd2.at_
      have lth11 := h11.lt
      refine hK' _ _ ⟨h9, h10⟩ ?_
      clear hK' K' nnd2 bd3
      go_frame
      refine held_oper 7 (by kernel_rfl) rfl rfl (fun K' hK' => ?_)
      refine wp_call3 (some 56) rfl 37 _ _ _ _ rfl (fun args w => by kernel_rfl) _ _ _ rfl rfl rfl _ (HLc.out _) (fun e wnd4 h => ?_)
      obtain ⟨rfl, bd5⟩ := h
      replace hB := below_after hB bd5
      replace h0 := h0.after bd5
      replace h1 := h1.after bd5
      replace h9 := h9.after bd5
      replace h10 := h10.after bd5
      replace z9 := size_after z9 bd5
      replace z10 := size_after z10 bd5
      replace z1 := size_after z1 bd5
      replace h11 := h11.after bd5
      clear bd5
      refine ⟨_, rfl, hK' _ _ ⟨h9, h10⟩ ?_⟩
      clear hK' K'
      go_frame
      refine held_yield 10 (some 59) (.agg (u8s (cat3 RA GL RC))) rfl (by kernel_rfl) (by kernel_rfl) (by kernel_rfl) (fun _ _ _ h => h) rfl rfl ⟨h9, h10⟩ (fun w' h' => exec_prod _ _ _ rfl RA GL RC rfl rfl rfl hRA.len hGL.len hRC.len) ?_
      go_frame
      refine held_oper 12 (by kernel_rfl) rfl rfl (fun K' hK' => ?_)
      refine wp_store_bytes 58 _ _ rfl rfl (wdd.heap.size) rfl (cat3 RA GL RC) rfl _ _ h11 27 (by kernel_rfl) hNL.len (by simp) (fun wsd6 pd7 => ?_)
      replace hB := pd7.below hB (by omega)
      replace h0 := pd7.other h0 (by omega)
      replace h1 := pd7.other h1 (by omega)
      replace h9 := pd7.other h9 (by omega)
      replace h10 := pd7.other h10 (by omega)



      replace h11 := pd7.at_
      refine hK' _ _ ⟨h9, h10⟩ ?_
      clear hK' K' pd7
      refine wpAnyH_done (by kernel_rfl) ?_ _
      go_wp2_with fail
      go_meet
      exact ⟨_, rfl, by omega, by omega, by omega, h11, h9, h10, hB, h0, h1⟩
  case rest =>
  clear hB h0 h1 h9 h10
  obtain ⟨b11, rfl, hg11, hg911, hg1011, h11, h9, h10, hB, h0, h1⟩ := hcut
  obtain ⟨wx, rfl⟩ := at_world h0
  have c4 : wx.cell? ⟨w.heap.size, 4, none⟩ = some (.slice (some ⟨g, 0, none⟩) qs.length qs.length) := h0.at_ 4
  have l1 := h1.lt
  have l11 := h11.lt
  go_wp2_with (first | (refine wpList_load_all rfl 28 _ rfl w.heap.size rfl _ _ _ h0 Try.underlying28 rfl 5 (by kernel_rfl) rfl ?_) | (refine wpList_load_all rfl 58 _ rfl b11 rfl _ _ _ h11 Try.underlying58 rfl 27 (by kernel_rfl) ((u8s_size _).trans hNL.len) ?_) | (refine wpList_buildSlice1 rfl _ 58 _ rfl _ rfl Try.underlying26 infoProd hNL.len ?_; intro W7 n7))
  have hRq := Rd.one n7 hNL
  have b7 := n7.below (Below.refl _ _) (Nat.le_refl _)
  replace hB := below_after hB b7
  replace h0 := h0.after b7
  replace h1 := h1.after b7
  replace h9 := h9.after b7
  replace h10 := h10.after b7
  clear n7 c4 h11
  have hs7 := b7.size
  have hA7 := al1_0 W7 (.cells #[.slice (some ⟨g, 0, none⟩) qs.length qs.length, .slice (some ⟨wx.heap.size, 0, none⟩) 1 1] 26 (0, 0))
  have b8 := below1 W7 (.cells #[.slice (some ⟨g, 0, none⟩) qs.length qs.length, .slice (some ⟨wx.heap.size, 0, none⟩) 1 1] 26 (0, 0))
  refine (withProducts2_c p n m k _ rfl W7.heap.size (some ⟨g, 0, none⟩) (some ⟨wx.heap.size, 0, none⟩) qs.length 1 qs [cat3 RA GL RC] _ hA7 ((hR.keep hB).keep b8) (by simp) (hRq.keep b8) (by simp) (by simp; omega)).mono ?_
  rintro e w9 ⟨v, rfl, ho, b9'⟩
  have b89 := below_after b8 b9'
  have hsB := b8.size
  replace hB := below_after hB b89
  replace h0 := h0.after b89
  replace h1 := h1.after b89
  replace h9 := h9.after b89
  replace h10 := h10.after b89
  obtain ⟨M0, HM0e⟩ : ∃ M, Hid (qs ++ [cat3 RA GL RC] = M) := ⟨_, Lib.hid rfl⟩
  rw [HM0e.out] at ho
  have hM0l : M0.length = qs.length + 1 := by rw [← HM0e.out]; simp
  have m0l : M0.length ≤ 31 := by omega
  have milt : i < M0.length := by omega
  have mjlt : j < M0.length := by omega
  have HM0b : Hid (∀ q ∈ M0, Bytes 27 q) := Lib.hid (fun q h => by rw [← HM0e.out] at h; rcases List.mem_append.1 h with h | h; exact hgood q h; obtain rfl := List.mem_singleton.1 h; exact hNL)
  have HM0 : Hid (∀ q ∈ M0, q.length = 27) := Lib.hid (fun q h => (HM0b.out q h).len)
  clear b7 b8 b9' b89 hRq hA7 hM0l
  obtain ⟨A12, c12, rfl, _⟩ := ho.rd HM0b.out
  obtain ⟨gm, rfl, hgm0⟩ := ho.blk (by omega)
  have hgm : b11 < gm := by omega
  replace ho := ho.mono (show w.heap.size + 1 + 1 ≤ _ by omega)
  have bz := below1 w9 (.cells #[.int .i64 p, .int .i64 n, .int .i64 m, .int .i64 k, .slice (some ⟨gm, 0, none⟩) M0.length c12] 28 (0, 0))
  have h12 : At (w9.alloc (.cells #[.int .i64 p, .int .i64 n, .int .i64 m, .int .i64 k, .slice (some ⟨gm, 0, none⟩) M0.length c12] 28 (0, 0))) w9.heap.size (.cells #[.int .i64 p, .int .i64 n, .int .i64 m, .int .i64 k, .slice (some ⟨gm, 0, none⟩) M0.length c12] 28 (0, 0)) := al1_0 _ _
  have lgm : gm < w9.heap.size := (ho.lt rfl).2
  replace hB := below_after hB bz
  replace h0 := h0.after bz
  replace h1 := h1.after bz
  replace h9 := h9.after bz
  replace h10 := h10.after bz
  replace ho := ho.below bz
  clear bz hgm0
  go_wp2_with fail
  refine wp_region_held (S := fun w' => At w' w9.heap.size (.cells #[.int .i64 p, .int .i64 n, .int .i64 m, .int .i64 k, .slice (some ⟨gm, 0, none⟩) M0.length c12] 28 (0, 0)) ∧ At w' b9 (.cells (u8s (cat3 QA QB QC)) 58 (0, 0)) ∧ At w' b10 (.cells (u8s (cat3 RA RB RC)) 58 (0, 0))) (by kernel_rfl) ?_
  change wpAnyH _ _ _ _ _ _ _ _ (World.drew _)
  generalize hwde : World.drew _ = wde
  replace hB : Below w.heap.size w wde := by rw [← hwde]; exact hB.drew
  replace h0 : At wde w.heap.size (.cells #[.int .i64 p, .int .i64 n, .int .i64 m, .int .i64 k, .slice (some ⟨g, 0, none⟩) qs.length qs.length] 28 (0, 0)) := by rw [← hwde]; exact h0
  replace h1 : At wde (w.heap.size + 1) (.cells #[.int .i64 0, .int .i64 0, .int .i64 0, .int .i64 0, .slice none 0 0] 28 (0, 0)) := by rw [← hwde]; exact h1
  replace h9 : At wde b9 (.cells (u8s (cat3 QA QB QC)) 58 (0, 0)) := by rw [← hwde]; exact h9
  replace h10 : At wde b10 (.cells (u8s (cat3 RA RB RC)) 58 (0, 0)) := by rw [← hwde]; exact h10
  replace h12 : At wde w9.heap.size (.cells #[.int .i64 p, .int .i64 n, .int .i64 m, .int .i64 k, .slice (some ⟨gm, 0, none⟩) M0.length c12] 28 (0, 0)) := by rw [← hwde]; exact h12
  replace ho : Own wde (w.heap.size + 1 + 1) (.slice (some ⟨gm, 0, none⟩) M0.length c12) (M0) := by rw [← hwde]; exact ho.drew
  clear hwde
  refine held_yield 0 (some 67) (.pointer (some ⟨w9.heap.size, 4, none⟩)) rfl (by kernel_rfl) (by kernel_rfl) (by kernel_rfl) (fun _ _ _ h => h) rfl rfl ⟨h12, h9, h10⟩ (fun w' h' => exec_fieldAddr 28 _ 4 rfl _ (by kernel_rfl)) ?_
  go_frame
  refine held_yield 1 (some 68) (.slice (some ⟨gm, 0, none⟩) M0.length c12) rfl (by kernel_rfl) (by kernel_rfl) (by kernel_rfl) (fun _ _ _ h => h) rfl rfl ⟨h12, h9, h10⟩ (fun w' h' => exec_load_one 26 _ rfl w9.heap.size 4 rfl _ _ Try.underlying26 rfl (h'.1.at_ 4)) ?_
  go_frame
  refine held_yield 2 (some 69) (.int .i64 i) rfl (by kernel_rfl) (by kernel_rfl) (by kernel_rfl) (fun _ _ _ h => h) rfl rfl ⟨h12, h9, h10⟩ (fun w' h' => exec_move _ rfl (.int .i64 i) rfl) ?_
  go_frame
  refine held_yield 3 (some 70) (.int .i64 p) rfl (by kernel_rfl) (by kernel_rfl) (by kernel_rfl) (fun _ _ _ h => h) rfl rfl ⟨h12, h9, h10⟩ (fun w' h' => exec_move _ rfl (.int .i64 p) rfl) ?_
  go_frame
  refine held_yield 4 (some 71) (.pointer (some ⟨b9, 0, none⟩)) rfl (by kernel_rfl) (by kernel_rfl) (by kernel_rfl) (fun _ _ _ h => h) rfl rfl ⟨h12, h9, h10⟩ (fun w' h' => exec_fieldAddr 58 _ 0 rfl _ (by kernel_rfl)) ?_
  go_frame
  refine held_yield 5 (some 72) (.agg (u8s QA)) rfl (by kernel_rfl) (by kernel_rfl) (by kernel_rfl) (fun _ _ _ h => h) rfl rfl ⟨h12, h9, h10⟩ (fun w' h' => exec_load_seg 39 _ rfl b9 0 rfl _ (cat3 QA QB QC) _ 9 h'.2.1 Try.underlying39 rfl (by kernel_rfl) (by omega) _ (segm_a hQA.len)) ?_
  go_frame
  refine held_yield 6 (some 73) (.pointer (some ⟨b10, 0, none⟩)) rfl (by kernel_rfl) (by kernel_rfl) (by kernel_rfl) (fun _ _ _ h => h) rfl rfl ⟨h12, h9, h10⟩ (fun w' h' => exec_fieldAddr 58 _ 0 rfl _ (by kernel_rfl)) ?_
  go_frame
  refine held_yield 7 (some 74) (.agg (u8s RA)) rfl (by kernel_rfl) (by kernel_rfl) (by kernel_rfl) (fun _ _ _ h => h) rfl rfl ⟨h12, h9, h10⟩ (fun w' h' => exec_load_seg 39 _ rfl b10 0 rfl _ (cat3 RA RB RC) _ 9 h'.2.2 Try.underlying39 rfl (by kernel_rfl) (by omega) _ (segm_a hRA.len)) ?_
  go_frame
  refine held_yield 9 (some 76) (.pointer (some ⟨b9, 9, none⟩)) rfl (by kernel_rfl) (by kernel_rfl) (by kernel_rfl) (fun _ _ _ h => h) rfl rfl ⟨h12, h9, h10⟩ (fun w' h' => exec_fieldAddr 58 _ 1 rfl _ (by kernel_rfl)) ?_
  go_frame
  refine held_yield 10 (some 77) (.agg (u8s QB)) rfl (by kernel_rfl) (by kernel_rfl) (by kernel_rfl) (fun _ _ _ h => h) rfl rfl ⟨h12, h9, h10⟩ (fun w' h' => exec_load_seg 39 _ rfl b9 9 rfl _ (cat3 QA QB QC) _ 9 h'.2.1 Try.underlying39 rfl (by kernel_rfl) (by omega) _ (segm_b hQA.len hQB.len)) ?_
  go_frame
  refine held_yield 11 (some 78) (.pointer (some ⟨b9, 18, none⟩)) rfl (by kernel_rfl) (by kernel_rfl) (by kernel_rfl) (fun _ _ _ h => h) rfl rfl ⟨h12, h9, h10⟩ (fun w' h' => exec_fieldAddr 58 _ 2 rfl _ (by kernel_rfl)) ?_
  go_frame
  refine held_yield 12 (some 79) (.agg (u8s QC)) rfl (by kernel_rfl) (by kernel_rfl) (by kernel_rfl) (fun _ _ _ h => h) rfl rfl ⟨h12, h9, h10⟩ (fun w' h' => exec_load_seg 39 _ rfl b9 18 rfl _ (cat3 QA QB QC) _ 9 h'.2.1 Try.underlying39 rfl (by kernel_rfl) (by omega) _ (segm_c hQA.len hQB.len hQC.len)) ?_
  go_frame
  refine held_oper 8 (by kernel_rfl) rfl rfl (fun K' hK' => ?_)
  refine wp_call3 (some 75) rfl 37 _ _ _ _ rfl (fun args w => by kernel_rfl) _ _ _ rfl rfl rfl _ (HI.out _) (fun e wne1 h => ?_)
  obtain ⟨rfl, be2⟩ := h
  replace hB := below_after hB be2
  replace h0 := h0.after be2
  replace h1 := h1.after be2
  replace h9 := h9.after be2
  replace h10 := h10.after be2
  replace h12 := h12.after be2
  replace ho := ho.below be2
  clear be2
  refine ⟨_, rfl, hK' _ _ ⟨h12, h9, h10⟩ ?_⟩
  clear hK' K'
  go_frame
  refine held_yield 13 (some 80) (.agg (u8s (cat3 GI QB QC))) rfl (by kernel_rfl) (by kernel_rfl) (by kernel_rfl) (fun _ _ _ h => h) rfl rfl ⟨h12, h9, h10⟩ (fun w' h' => exec_prod _ _ _ rfl GI QB QC rfl rfl rfl hGI.len hQB.len hQC.len) ?_
  go_frame
  refine held_yield 14 (some 81) (.pointer (some ⟨gm, i * 27, none⟩)) rfl (by kernel_rfl) (by kernel_rfl) (by kernel_rfl) (fun _ _ _ h => h) rfl rfl ⟨h12, h9, h10⟩ (fun w' h' => exec_index_at0 _ 58 _ _ rfl gm M0.length c12 i 27 rfl rfl Try.underlying26 (by kernel_rfl) milt) ?_
  go_frame
  refine held_oper 15 (by kernel_rfl) rfl rfl (fun K' hK' => ?_)
  refine wp_store_own 58 _ _ rfl rfl gm i rfl (cat3 GI QB QC) rfl ho HM0.out (by kernel_rfl) (milt) hNI.len (fun wse3 ho2 Pe4 _ => ?_)
  replace hB := Pe4.below hB (by omega)
  replace h0 := Pe4.other h0 (by omega)
  replace h1 := Pe4.other h1 (by omega)
  replace h9 := Pe4.other h9 (by omega)
  replace h10 := Pe4.other h10 (by omega)
  replace h12 := Pe4.other h12 (by omega)
  replace ho := ho2
  refine hK' _ _ ⟨h12, h9, h10⟩ ?_
  clear hK' K' Pe4 ho2
  refine wpAnyH_done (by kernel_rfl) ?_ _
  obtain ⟨M1, HM1e⟩ : ∃ M, Hid (M0.set i (cat3 GI QB QC) = M) := ⟨_, Lib.hid rfl⟩
  have eM1 : Hid (M1.length = M0.length) := Lib.hid (by rw [← HM1e.out]; simp)
  have HM1b : Hid (∀ q ∈ M1, Bytes 27 q) := Lib.hid (fun q h => by rw [← HM1e.out] at h; rcases List.mem_or_eq_of_mem_set h with h | rfl; exact HM0b.out q h; exact hNI)
  have HM1 : Hid (∀ q ∈ M1, q.length = 27) := Lib.hid (fun q h => (HM1b.out q h).len)
  rw [HM1e.out] at ho
  go_wp2_with fail
  refine wp_region_held (S := fun w' => At w' w9.heap.size (.cells #[.int .i64 p, .int .i64 n, .int .i64 m, .int .i64 k, .slice (some ⟨gm, 0, none⟩) M0.length c12] 28 (0, 0)) ∧ At w' b9 (.cells (u8s (cat3 QA QB QC)) 58 (0, 0)) ∧ At w' b10 (.cells (u8s (cat3 RA RB RC)) 58 (0, 0))) (by kernel_rfl) ?_
  change wpAnyH _ _ _ _ _ _ _ _ (World.drew _)
  generalize hwdf : World.drew _ = wdf
  replace hB : Below w.heap.size w wdf := by rw [← hwdf]; exact hB.drew
  replace h0 : At wdf w.heap.size (.cells #[.int .i64 p, .int .i64 n, .int .i64 m, .int .i64 k, .slice (some ⟨g, 0, none⟩) qs.length qs.length] 28 (0, 0)) := by rw [← hwdf]; exact h0
  replace h1 : At wdf (w.heap.size + 1) (.cells #[.int .i64 0, .int .i64 0, .int .i64 0, .int .i64 0, .slice none 0 0] 28 (0, 0)) := by rw [← hwdf]; exact h1
  replace h9 : At wdf b9 (.cells (u8s (cat3 QA QB QC)) 58 (0, 0)) := by rw [← hwdf]; exact h9
  replace h10 : At wdf b10 (.cells (u8s (cat3 RA RB RC)) 58 (0, 0)) := by rw [← hwdf]; exact h10
  replace h12 : At wdf w9.heap.size (.cells #[.int .i64 p, .int .i64 n, .int .i64 m, .int .i64 k, .slice (some ⟨gm, 0, none⟩) M0.length c12] 28 (0, 0)) := by rw [← hwdf]; exact h12
  replace ho : Own wdf (w.heap.size + 1 + 1) (.slice (some ⟨gm, 0, none⟩) M0.length c12) (M1) := by rw [← hwdf]; exact ho.drew
  clear hwdf
  refine held_yield 0 (some 82) (.pointer (some ⟨w9.heap.size, 4, none⟩)) rfl (by kernel_rfl) (by kernel_rfl) (by kernel_rfl) (fun _ _ _ h => h) rfl rfl ⟨h12, h9, h10⟩ (fun w' h' => exec_fieldAddr 28 _ 4 rfl _ (by kernel_rfl)) ?_
  go_frame
  refine held_yield 1 (some 83) (.slice (some ⟨gm, 0, none⟩) M0.length c12) rfl (by kernel_rfl) (by kernel_rfl) (by kernel_rfl) (fun _ _ _ h => h) rfl rfl ⟨h12, h9, h10⟩ (fun w' h' => exec_load_one 26 _ rfl w9.heap.size 4 rfl _ _ Try.underlying26 rfl (h'.1.at_ 4)) ?_
  go_frame
  refine held_yield 2 (some 84) (.int .i64 j) rfl (by kernel_rfl) (by kernel_rfl) (by kernel_rfl) (fun _ _ _ h => h) rfl rfl ⟨h12, h9, h10⟩ (fun w' h' => exec_move _ rfl (.int .i64 j) rfl) ?_
  go_frame
  refine held_yield 3 (some 85) (.pointer (some ⟨b10, 0, none⟩)) rfl (by kernel_rfl) (by kernel_rfl) (by kernel_rfl) (fun _ _ _ h => h) rfl rfl ⟨h12, h9, h10⟩ (fun w' h' => exec_fieldAddr 58 _ 0 rfl _ (by kernel_rfl)) ?_
  go_frame
  refine held_yield 4 (some 86) (.agg (u8s RA)) rfl (by kernel_rfl) (by kernel_rfl) (by kernel_rfl) (fun _ _ _ h => h) rfl rfl ⟨h12, h9, h10⟩ (fun w' h' => exec_load_seg 39 _ rfl b10 0 rfl _ (cat3 RA RB RC) _ 9 h'.2.2 Try.underlying39 rfl (by kernel_rfl) (by omega) _ (segm_a hRA.len)) ?_
  go_frame
  refine held_yield 5 (some 87) (.pointer (some ⟨b9, 9, none⟩)) rfl (by kernel_rfl) (by kernel_rfl) (by kernel_rfl) (fun _ _ _ h => h) rfl rfl ⟨h12, h9, h10⟩ (fun w' h' => exec_fieldAddr 58 _ 1 rfl _ (by kernel_rfl)) ?_
  go_frame
  refine held_yield 6 (some 88) (.agg (u8s QB)) rfl (by kernel_rfl) (by kernel_rfl) (by kernel_rfl) (fun _ _ _ h => h) rfl rfl ⟨h12, h9, h10⟩ (fun w' h' => exec_load_seg 39 _ rfl b9 9 rfl _ (cat3 QA QB QC) _ 9 h'.2.1 Try.underlying39 rfl (by kernel_rfl) (by omega) _ (segm_b hQA.len hQB.len)) ?_
  go_frame
  refine held_yield 7 (some 89) (.int .i64 p) rfl (by kernel_rfl) (by kernel_rfl) (by kernel_rfl) (fun _ _ _ h => h) rfl rfl ⟨h12, h9, h10⟩ (fun w' h' => exec_move _ rfl (.int .i64 p) rfl) ?_
  go_frame
  refine held_yield 8 (some 90) (.pointer (some ⟨b9, 18, none⟩)) rfl (by kernel_rfl) (by kernel_rfl) (by kernel_rfl) (fun _ _ _ h => h) rfl rfl ⟨h12, h9, h10⟩ (fun w' h' => exec_fieldAddr 58 _ 2 rfl _ (by kernel_rfl)) ?_
  go_frame
  refine held_yield 9 (some 91) (.agg (u8s QC)) rfl (by kernel_rfl) (by kernel_rfl) (by kernel_rfl) (fun _ _ _ h => h) rfl rfl ⟨h12, h9, h10⟩ (fun w' h' => exec_load_seg 39 _ rfl b9 18 rfl _ (cat3 QA QB QC) _ 9 h'.2.1 Try.underlying39 rfl (by kernel_rfl) (by omega) _ (segm_c hQA.len hQB.len hQC.len)) ?_
  go_frame
  refine held_yield 10 (some 92) (.pointer (some ⟨b10, 18, none⟩)) rfl (by kernel_rfl) (by kernel_rfl) (by kernel_rfl) (fun _ _ _ h => h) rfl rfl ⟨h12, h9, h10⟩ (fun w' h' => exec_fieldAddr 58 _ 2 rfl _ (by kernel_rfl)) ?_
  go_frame
  refine held_yield 11 (some 93) (.agg (u8s RC)) rfl (by kernel_rfl) (by kernel_rfl) (by kernel_rfl) (fun _ _ _ h => h) rfl rfl ⟨h12, h9, h10⟩ (fun w' h' => exec_load_seg 39 _ rfl b10 18 rfl _ (cat3 RA RB RC) _ 9 h'.2.2 Try.underlying39 rfl (by kernel_rfl) (by omega) _ (segm_c hRA.len hRB.len hRC.len)) ?_
  go_frame
  refine held_oper 12 (by kernel_rfl) rfl rfl (fun K' hK' => ?_)
  refine wp_call4 (some 94) rfl 39 _ _ _ _ _ rfl (fun args w => by kernel_rfl) _ _ _ _ rfl rfl rfl rfl _ (HKc.out _) (fun e wnf1 h => ?_)
  obtain ⟨rfl, bf2⟩ := h
  replace hB := below_after hB bf2
  replace h0 := h0.after bf2
  replace h1 := h1.after bf2
  replace h9 := h9.after bf2
  replace h10 := h10.after bf2
  replace h12 := h12.after bf2
  replace ho := ho.below bf2
  clear bf2
  refine ⟨_, rfl, hK' _ _ ⟨h12, h9, h10⟩ ?_⟩
  clear hK' K'
  go_frame
  refine held_yield 13 (some 95) (.agg (u8s (cat3 RA QB GK))) rfl (by kernel_rfl) (by kernel_rfl) (by kernel_rfl) (fun _ _ _ h => h) rfl rfl ⟨h12, h9, h10⟩ (fun w' h' => exec_prod _ _ _ rfl RA QB GK rfl rfl rfl hRA.len hQB.len hGK.len) ?_
  go_frame
  refine held_yield 14 (some 96) (.pointer (some ⟨gm, j * 27, none⟩)) rfl (by kernel_rfl) (by kernel_rfl) (by kernel_rfl) (fun _ _ _ h => h) rfl rfl ⟨h12, h9, h10⟩ (fun w' h' => exec_index_at0 _ 58 _ _ rfl gm M0.length c12 j 27 rfl rfl Try.underlying26 (by kernel_rfl) mjlt) ?_
  go_frame
  refine held_oper 15 (by kernel_rfl) rfl rfl (fun K' hK' => ?_)
  refine wp_store_own 58 _ _ rfl rfl gm j rfl (cat3 RA QB GK) rfl ho HM1.out (by kernel_rfl) (by rw [eM1.out]; exact mjlt) hNK.len (fun wsf3 ho2 Pf4 _ => ?_)
  replace hB := Pf4.below hB (by omega)
  replace h0 := Pf4.other h0 (by omega)
  replace h1 := Pf4.other h1 (by omega)
  replace h9 := Pf4.other h9 (by omega)
  replace h10 := Pf4.other h10 (by omega)
  replace h12 := Pf4.other h12 (by omega)
  replace ho := ho2
  refine hK' _ _ ⟨h12, h9, h10⟩ ?_
  clear hK' K' Pf4 ho2
  refine wpAnyH_done (by kernel_rfl) ?_ _
  obtain ⟨M2, HM2e⟩ : ∃ M, Hid (M1.set j (cat3 RA QB GK) = M) := ⟨_, Lib.hid rfl⟩
  have eM2 : Hid (M2.length = M0.length) := Lib.hid (by rw [← HM2e.out]; simpa using eM1.out)
  have HM2b : Hid (∀ q ∈ M2, Bytes 27 q) := Lib.hid (fun q h => by rw [← HM2e.out] at h; rcases List.mem_or_eq_of_mem_set h with h | rfl; exact HM1b.out q h; exact hNK)
  rw [HM2e.out] at ho
  have HQ : Hid (pmQs p qs i j = M2.filter nzB) := Lib.hid (by
    rw [Hpm.out, ← HM2e.out, ← HM1e.out, ← HM0e.out]
    congr 1
    rw [List.set_append_left _ _ (by omega), List.set_append_left _ _ (by simpa using hjlt)])
  have hRb : Hid (∀ q ∈ pmQs p qs i j, Bytes 27 q) := Lib.hid (fun q h => by rw [HQ.out] at h; exact HM2b.out q (List.mem_filter.1 h).1)
  have c4 : wsf3.cell? ⟨w9.heap.size, 4, none⟩ = some (.slice (some ⟨gm, 0, none⟩) M0.length c12) := h12.at_ 4
  go_wp2_with fail
  refine (deleteFunc_c _ ho HM2b.out (by rw [eM2.out]; omega)).mono ?_
  rintro e w14 ⟨v', rfl, ho', hG⟩
  replace hB := below_grown hB hG ho (by omega)
  replace h12 := h12.grown hG (ho.off h12 (by decide))
  replace h1 := h1.grown hG (ho.off h1 (by decide))
  rw [← HQ.out] at ho'
  generalize pmQs p qs i j = R at *
  clear ho hG h0 h9 h10 c4 HQ Hpm HM2e HM2b HM1e
  obtain ⟨A2, c2, rfl, _⟩ := ho'.rd hRb.out
  have n12 := ho'.off h12 (by decide)
  go_wp2_with (first | (refine wpList_store_one rfl 26 _ _ rfl rfl w9.heap.size 4 rfl (.slice A2 R.length c2) rfl rfl rfl _ _ h12 (by kernel_rfl) (by simp) ?_; intro W14 p14; replace hB := p14.below hB (by omega); replace h1 := p14.other h1 (by omega); replace ho' := ho'.put p14 n12; replace h12 : At W14 w9.heap.size (.cells #[.int .i64 p, .int .i64 n, .int .i64 m, .int .i64 k, .slice A2 R.length c2] 28 (0, 0)) := p14.at_; clear p14 n12; have n1 := ho'.off h1 (by decide)) | (refine wpList_load_all rfl 28 _ rfl w9.heap.size rfl _ _ _ h12 Try.underlying28 rfl 5 (by kernel_rfl) rfl ?_) | (refine wpList_store_all rfl 28 _ _ rfl rfl (w.heap.size + 1) rfl _ rfl _ _ h1 5 (by kernel_rfl) rfl rfl (one5 _ _ _ _ _ _ _) ?_; intro W15 p15))
  refine bodyPost_ret (results_at2 rfl _ _ (w.heap.size + 1) _ _ _ rfl _ rfl p15.at_ Try.underlying28 rfl 5 (by kernel_rfl) rfl) rfl ?_
  exact ⟨_, rfl, (ho'.put p15 n1).mono (by omega), p15.below hB (by omega)⟩
end Go.Proofs.Ytbgoopmmdbhogaa
