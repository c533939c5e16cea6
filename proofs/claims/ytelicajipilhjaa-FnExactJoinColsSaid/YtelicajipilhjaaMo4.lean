/-
  impl.productOf, movedProducts. (Made by mkmo4.py.)
-/
import Derived.Test.YtelicajipilhjaaMo1
import Derived.Test.YtelicajipilhjaaPrF
import Derived.Test.YtelicajipilhjaaMo3
import Derived.Test.YtelicajipilhjaaRK
import Derived.Test.YtelicajipilhjaaHeldG
import Derived.Test.YtelicajipilhjaaNrm6
namespace Go.Proofs.Ytelicajipilhjaa
open Go.RowKit
set_option maxRecDepth 100000
theorem productOf_c (q : List Nat) (hq : Bytes 27 q) (w : World) : Calls Try.prog 54 #[.agg (u8s q)] w fun e w' => e = .returned (.agg (u8s q)) ∧ Below w.heap.size w w' := by
  obtain ⟨QA, QB, QC, rfl, hQA, hQB, hQC⟩ := parts3 hq
  have zq : 27 ≤ (cat3 QA QB QC).length := by rw [hq.len]; exact Nat.le_refl _
  have s0 := segm_a (B := QB) (C := QC) hQA.len
  have s1 := segm_b (C := QC) hQA.len hQB.len
  have s2 := segm_c hQA.len hQB.len hQC.len
  go_enter Try.func54, Try.ntmps54
  go_wp2_with (first | (refine wpList_abs2 ?_; intro W hsz hB h0 h1; replace h1 : At W (w.heap.size + 1) (.cells (u8s (List.replicate 27 0)) 49 (0, 0)) := h1) | (refine wpList_load_u8s rfl 47 _ rfl w.heap.size 0 rfl _ (cat3 QA QB QC) _ 9 h0 Try.underlying47 rfl (by kernel_rfl) (by omega) ?_; rw [s0]) | (refine wpList_load_u8s rfl 47 _ rfl w.heap.size 9 rfl _ (cat3 QA QB QC) _ 9 h0 Try.underlying47 rfl (by kernel_rfl) (by omega) ?_; rw [s1]) | (refine wpList_load_u8s rfl 47 _ rfl w.heap.size 18 rfl _ (cat3 QA QB QC) _ 9 h0 Try.underlying47 rfl (by kernel_rfl) (by omega) ?_; rw [s2]) | (refine wpList_of_exec rfl (exec_prod _ _ _ rfl QA QB QC rfl rfl rfl hQA.len hQB.len hQC.len) ?_) | (refine wpList_store_u8s rfl 49 _ _ rfl rfl (w.heap.size + 1) 0 rfl (cat3 QA QB QC) rfl _ _ h1 27 (by kernel_rfl) hq.len (by simp) ?_; intro w2 p2))
  rw [over_all (by rw [hq.len]; simp)] at p2
  refine bodyPost_ret (results_at rfl _ _ (w.heap.size + 1) _ _ _ rfl p2.at_ Try.underlying49 rfl 27 (by kernel_rfl) ((u8s_size _).trans hq.len)) rfl ?_
  exact ⟨rfl, p2.below hB (by omega)⟩
theorem exec_alloc_shapes {o : Oper} {a : Act} {w : World} (ho : o.op = .alloc 74) : (execOp a.eval o).run Try.prog w = .ok (.value (.pointer (some ⟨w.heap.size, 0, none⟩))) (w.alloc (.cells #[.int .i64 0, .int .i64 0, .int .i64 0, .int .i64 0, .int .i64 0, .int .i64 0] 74 (0, 0))) := by
  unfold execOp
  rw [ho]
  kernel_rfl
theorem one6 (a b c d e f : Int) : ∀ v ∈ (#[.int .i64 a, .int .i64 b, .int .i64 c, .int .i64 d, .int .i64 e, .int .i64 f] : Array Value).toList, v.oneCell' = true := by
  intro x hx
  simp at hx
  rcases hx with rfl | rfl | rfl | rfl | rfl | rfl <;> rfl
set_option maxHeartbeats 20000000 in
theorem movedProducts_c (p : Int) (n m k n' m' k' dn dm dk : Nat) (A : Option Addr) (cap : Nat) (qs : List (List Nat)) (w : World) (hr : Rd w A qs) (hs : schemeB p n m k qs = true) (hn : 1 ≤ n ∧ n ≤ 3) (hm : 1 ≤ m ∧ m ≤ 3) (hk : 1 ≤ k ∧ k ≤ 3) (hn' : 1 ≤ n' ∧ n' ≤ 3) (hm' : 1 ≤ m' ∧ m' ≤ 3) (hk' : 1 ≤ k' ∧ k' ≤ 3) (hdn : dn ≤ 3) (hdm : dm ≤ 3) (hdk : dk ≤ 3) :
    Calls Try.prog 37 #[.agg #[.int .i64 p, .int .i64 n, .int .i64 m, .int .i64 k, .slice A qs.length cap], .agg #[.int .i64 n', .int .i64 m', .int .i64 k'], .agg #[.int .i64 dn, .int .i64 dm, .int .i64 dk]] w
      fun e w' => ∃ v, e = .returned v ∧ Own w' w.heap.size v ((qs.map (mvQ n m k n' m' k' dn dm dk)).filter nzB) ∧ Below w.heap.size w w' := by
  have h30 := schemeB_len hs
  have hp0 := (primeB_5 (sizesB_parts (schemeB_sizes hs)).1).1
  have HPB : Hid (∀ q ∈ qs, prodB p n m k q = true) := Lib.hid (fun q hq => by simp only [schemeB, Bool.and_eq_true, List.all_eq_true] at hs; exact hs.2 q hq)
  clear hs
  go_enter Try.func37, Try.ntmps37
  obtain ⟨ps, HPS⟩ : ∃ ps, Hid (qs.map (mvQ n m k n' m' k' dn dm dk) = ps) := ⟨_, Lib.hid rfl⟩
  have hpl : ps.length = qs.length := by rw [← HPS.out, List.length_map]
  have HPJ : Hid (∀ j (h : j < qs.length) (h' : j < ps.length), ps[j] = mvQ n m k n' m' k' dn dm dk qs[j]) := Lib.hid (fun j h h' => by simp [← HPS.out])
  have HPSb : Hid (∀ r ∈ ps, Bytes 27 r) := Lib.hid (fun r hm => by rw [← HPS.out] at hm; obtain ⟨q, hq, rfl⟩ := List.mem_map.1 hm; exact mvQ_bytes (hr.good q hq))
  go_wp2_with fail
  have hBC : BC (fun W => Below w.heap.size w W ∧ At W w.heap.size (.cells #[.int .i64 p, .int .i64 n, .int .i64 m, .int .i64 k, .slice A qs.length cap] 28 (0, 0)) ∧ At W (w.heap.size + 1) (.cells #[.int .i64 n', .int .i64 m', .int .i64 k'] 53 (0, 0)) ∧ At W (w.heap.size + 1 + 1) (.cells #[.int .i64 dn, .int .i64 dm, .int .i64 dk] 53 (0, 0))) (w.heap.size + 1 + 1 + 1) := ⟨fun h hb => ⟨below_after h.1 hb, h.2.1.after hb, h.2.2.1.after hb, h.2.2.2.after hb⟩, fun h hg hP => ⟨hP.below h.1 (by omega), hP.other h.2.1 (by omega), hP.other h.2.2.1 (by omega), hP.other h.2.2.2 (by omega)⟩, fun h => h.2.2.2.lt⟩
  refine wp_region_inv (by kernel_rfl) (by kernel_rfl) (by kernel_rfl) (RI (fun W => Below w.heap.size w W ∧ At W w.heap.size (.cells #[.int .i64 p, .int .i64 n, .int .i64 m, .int .i64 k, .slice A qs.length cap] 28 (0, 0)) ∧ At W (w.heap.size + 1) (.cells #[.int .i64 n', .int .i64 m', .int .i64 k'] 53 (0, 0)) ∧ At W (w.heap.size + 1 + 1) (.cells #[.int .i64 dn, .int .i64 dm, .int .i64 dk] 53 (0, 0))) (w.heap.size + 1 + 1 + 1) (valOf [(0, .agg #[.int .i64 p, .int .i64 n, .int .i64 m, .int .i64 k, .slice A qs.length cap]), (1, .agg #[.int .i64 n, .int .i64 m, .int .i64 m, .int .i64 k, .int .i64 n, .int .i64 k]), (2, .agg #[.int .i64 n', .int .i64 m', .int .i64 k']), (3, .agg #[.int .i64 n', .int .i64 m', .int .i64 m', .int .i64 k', .int .i64 n', .int .i64 k']), (4, .agg #[.int .i64 dn, .int .i64 dm, .int .i64 dk]), (5, .agg #[.int .i64 dn, .int .i64 dm, .int .i64 dm, .int .i64 dk, .int .i64 dn, .int .i64 dk])]) (alOf [(6, 9, .cells #[.int .i64 0, .int .i64 0, .int .i64 0, .int .i64 0, .int .i64 0, .int .i64 0] 74 (0, 0), .cells #[.int .i64 n, .int .i64 m, .int .i64 m, .int .i64 k, .int .i64 n, .int .i64 k] 74 (0, 0)), (7, 10, .cells #[.int .i64 0, .int .i64 0, .int .i64 0, .int .i64 0, .int .i64 0, .int .i64 0] 74 (0, 0), .cells #[.int .i64 n', .int .i64 m', .int .i64 m', .int .i64 k', .int .i64 n', .int .i64 k'] 74 (0, 0)), (8, 11, .cells #[.int .i64 0, .int .i64 0, .int .i64 0, .int .i64 0, .int .i64 0, .int .i64 0] 74 (0, 0), .cells #[.int .i64 dn, .int .i64 dm, .int .i64 dm, .int .i64 dk, .int .i64 dn, .int .i64 dk] 74 (0, 0))])) (RI.start ?_) 12 rfl ?_ ?_
  case refine_1 => exact ⟨(below3 _ _ _ _).drew, al3_0 _ _ _ _, al3_1 _ _ _ _, al3_2 _ _ _ _⟩
  case refine_2 =>
    refine StepsOK.succ (StepsOK.succ (StepsOK.succ (StepsOK.succ (StepsOK.succ (StepsOK.succ (StepsOK.succ (StepsOK.succ (StepsOK.succ (StepsOK.succ (StepsOK.succ (StepsOK.succ (StepsOK.zero) ?_) ?_) ?_) ?_) ?_) ?_) ?_) ?_) ?_) ?_) ?_) ?_
    · exact step_pure hBC 0 _ rfl rfl [] (by kernel_rfl) (some 17) rfl (.agg #[.int .i64 p, .int .i64 n, .int .i64 m, .int .i64 k, .slice A qs.length cap]) rfl rfl (notStore_of rfl) (fun L vals W hd hI => exec_load_all 28 _ rfl w.heap.size (slot_old (by kernel_rfl) rfl) _ _ _ hI.base.2.1 Try.underlying28 rfl 5 (by kernel_rfl) rfl)
    · exact step_call hBC 1 _ rfl rfl [0] (by kernel_rfl) (.agg #[.int .i64 n, .int .i64 m, .int .i64 m, .int .i64 k, .int .i64 n, .int .i64 k]) rfl rfl (notStore_of rfl) (fun L vals W K hd hI hK => wp_call1 (some 18) rfl 50 _ _ rfl (fun args w => by kernel_rfl) _ (hI.slot (by kernel_rfl) (j := 0) (t := 17) (by kernel_rfl) (hd 0 (by simp)) (of_decide_eq_true rfl) (of_decide_eq_true (by kernel_rfl)) rfl) _ (shapesOf_c p n m k _ _) (fun e wn h => by obtain ⟨rfl, b⟩ := h; exact ⟨_, rfl, hK _ b⟩))
    · exact step_pure hBC 2 _ rfl rfl [] (by kernel_rfl) (some 19) rfl (.agg #[.int .i64 n', .int .i64 m', .int .i64 k']) rfl rfl (notStore_of rfl) (fun L vals W hd hI => exec_load_all 53 _ rfl (w.heap.size + 1) (slot_old (by kernel_rfl) rfl) _ _ _ hI.base.2.2.1 Try.underlying53 rfl 3 (by kernel_rfl) rfl)
    · exact step_call hBC 3 _ rfl rfl [2, 1] (by kernel_rfl) (.agg #[.int .i64 n', .int .i64 m', .int .i64 m', .int .i64 k', .int .i64 n', .int .i64 k']) rfl rfl (notStore_of rfl) (fun L vals W K hd hI hK => wp_call1 (some 20) rfl 51 _ _ rfl (fun args w => by kernel_rfl) _ (hI.slot (by kernel_rfl) (j := 2) (t := 19) (by kernel_rfl) (hd 2 (by simp)) (of_decide_eq_true rfl) (of_decide_eq_true (by kernel_rfl)) rfl) _ (shapes_c n' m' k' _) (fun e wn h => by obtain ⟨rfl, b⟩ := h; exact ⟨_, rfl, hK _ b⟩))
    · exact step_pure hBC 4 _ rfl rfl [] (by kernel_rfl) (some 21) rfl (.agg #[.int .i64 dn, .int .i64 dm, .int .i64 dk]) rfl rfl (notStore_of rfl) (fun L vals W hd hI => exec_load_all 53 _ rfl (w.heap.size + 1 + 1) (slot_old (by kernel_rfl) rfl) _ _ _ hI.base.2.2.2 Try.underlying53 rfl 3 (by kernel_rfl) rfl)
    · exact step_call hBC 5 _ rfl rfl [4, 3] (by kernel_rfl) (.agg #[.int .i64 dn, .int .i64 dm, .int .i64 dm, .int .i64 dk, .int .i64 dn, .int .i64 dk]) rfl rfl (notStore_of rfl) (fun L vals W K hd hI hK => wp_call1 (some 22) rfl 51 _ _ rfl (fun args w => by kernel_rfl) _ (hI.slot (by kernel_rfl) (j := 4) (t := 21) (by kernel_rfl) (hd 4 (by simp)) (of_decide_eq_true rfl) (of_decide_eq_true (by kernel_rfl)) rfl) _ (shapes_c dn dm dk _) (fun e wn h => by obtain ⟨rfl, b⟩ := h; exact ⟨_, rfl, hK _ b⟩))
    · exact step_alloc hBC 6 _ rfl rfl [] (by kernel_rfl) 9 (.cells #[.int .i64 0, .int .i64 0, .int .i64 0, .int .i64 0, .int .i64 0, .int .i64 0] 74 (0, 0)) (.cells #[.int .i64 n, .int .i64 m, .int .i64 m, .int .i64 k, .int .i64 n, .int .i64 k] 74 (0, 0)) rfl rfl (by decide) (by kernel_rfl) (notStore_of rfl) (fun a w => exec_alloc_shapes rfl)
    · exact step_alloc hBC 7 _ rfl rfl [] (by kernel_rfl) 10 (.cells #[.int .i64 0, .int .i64 0, .int .i64 0, .int .i64 0, .int .i64 0, .int .i64 0] 74 (0, 0)) (.cells #[.int .i64 n', .int .i64 m', .int .i64 m', .int .i64 k', .int .i64 n', .int .i64 k'] 74 (0, 0)) rfl rfl (by decide) (by kernel_rfl) (notStore_of rfl) (fun a w => exec_alloc_shapes rfl)
    · exact step_alloc hBC 8 _ rfl rfl [] (by kernel_rfl) 11 (.cells #[.int .i64 0, .int .i64 0, .int .i64 0, .int .i64 0, .int .i64 0, .int .i64 0] 74 (0, 0)) (.cells #[.int .i64 dn, .int .i64 dm, .int .i64 dm, .int .i64 dk, .int .i64 dn, .int .i64 dk] 74 (0, 0)) rfl rfl (by decide) (by kernel_rfl) (notStore_of rfl) (fun a w => exec_alloc_shapes rfl)
    · exact step_store hBC 9 _ rfl rfl [6, 1, 5, 0, 1, 6, 7, 8] (by kernel_rfl) rfl 6 (by simp) (.cells #[.int .i64 0, .int .i64 0, .int .i64 0, .int .i64 0, .int .i64 0, .int .i64 0] 74 (0, 0)) (.cells #[.int .i64 n, .int .i64 m, .int .i64 m, .int .i64 k, .int .i64 n, .int .i64 k] 74 (0, 0)) rfl rfl rfl (uniq_of rfl) (fun L vals W b K hd hI hb hAt hK => wp_store_all 74 _ _ rfl rfl b (slot_al (by kernel_rfl) (j := 6) (t := 7) (by kernel_rfl) (hd 6 (by simp)) (of_decide_eq_true rfl) (of_decide_eq_true (by kernel_rfl)) hb) _ (hI.slot (by kernel_rfl) (j := 1) (t := 18) (by kernel_rfl) (hd 1 (by simp)) (of_decide_eq_true rfl) (of_decide_eq_true (by kernel_rfl)) rfl) _ _ hAt 6 (by kernel_rfl) rfl rfl (one6 _ _ _ _ _ _) hK)
    · exact step_store hBC 10 _ rfl rfl [7, 3, 9, 0, 1, 2, 3, 6, 7, 8, 9] (by kernel_rfl) rfl 7 (by simp) (.cells #[.int .i64 0, .int .i64 0, .int .i64 0, .int .i64 0, .int .i64 0, .int .i64 0] 74 (0, 0)) (.cells #[.int .i64 n', .int .i64 m', .int .i64 m', .int .i64 k', .int .i64 n', .int .i64 k'] 74 (0, 0)) rfl rfl rfl (uniq_of rfl) (fun L vals W b K hd hI hb hAt hK => wp_store_all 74 _ _ rfl rfl b (slot_al (by kernel_rfl) (j := 7) (t := 8) (by kernel_rfl) (hd 7 (by simp)) (of_decide_eq_true rfl) (of_decide_eq_true (by kernel_rfl)) hb) _ (hI.slot (by kernel_rfl) (j := 3) (t := 20) (by kernel_rfl) (hd 3 (by simp)) (of_decide_eq_true rfl) (of_decide_eq_true (by kernel_rfl)) rfl) _ _ hAt 6 (by kernel_rfl) rfl rfl (one6 _ _ _ _ _ _) hK)
    · exact step_store hBC 11 _ rfl rfl [8, 5, 10, 0, 1, 2, 3, 4, 5, 6, 7, 8, 9, 10] (by kernel_rfl) rfl 8 (by simp) (.cells #[.int .i64 0, .int .i64 0, .int .i64 0, .int .i64 0, .int .i64 0, .int .i64 0] 74 (0, 0)) (.cells #[.int .i64 dn, .int .i64 dm, .int .i64 dm, .int .i64 dk, .int .i64 dn, .int .i64 dk] 74 (0, 0)) rfl rfl rfl (uniq_of rfl) (fun L vals W b K hd hI hb hAt hK => wp_store_all 74 _ _ rfl rfl b (slot_al (by kernel_rfl) (j := 8) (t := 9) (by kernel_rfl) (hd 8 (by simp)) (of_decide_eq_true rfl) (of_decide_eq_true (by kernel_rfl)) hb) _ (hI.slot (by kernel_rfl) (j := 5) (t := 22) (by kernel_rfl) (hd 5 (by simp)) (of_decide_eq_true rfl) (of_decide_eq_true (by kernel_rfl)) rfl) _ _ hAt 6 (by kernel_rfl) rfl rfl (one6 _ _ _ _ _ _) hK)
  case refine_3 =>
  intro L vals wz hall hI
  obtain ⟨b7, e7, l7, h7⟩ := hI.blk 6 _ _ _ (hall 6 (by omega)) rfl
  rw [if_pos (hall 9 (by omega))] at h7
  obtain ⟨b8, e8, l8, h8⟩ := hI.blk 7 _ _ _ (hall 7 (by omega)) rfl
  rw [if_pos (hall 10 (by omega))] at h8
  obtain ⟨b9, e9, l9, h9⟩ := hI.blk 8 _ _ _ (hall 8 (by omega)) rfl
  rw [if_pos (hall 11 (by omega))] at h9
  have n7_8 : b7 ≠ b8 := fun e => hI.dis 6 7 _ _ _ _ _ _ (by omega) (hall 6 (by omega)) (hall 7 (by omega)) rfl rfl (by rw [e7, e8, e])
  have n7_9 : b7 ≠ b9 := fun e => hI.dis 6 8 _ _ _ _ _ _ (by omega) (hall 6 (by omega)) (hall 8 (by omega)) rfl rfl (by rw [e7, e9, e])
  have n8_9 : b8 ≠ b9 := fun e => hI.dis 7 8 _ _ _ _ _ _ (by omega) (hall 7 (by omega)) (hall 8 (by omega)) rfl rfl (by rw [e8, e9, e])
  rw [putAll_step (n := 11) rfl (hall 11 (by omega)) (d := none) rfl rfl, putAll_step (n := 10) rfl (hall 10 (by omega)) (d := none) rfl rfl, putAll_step (n := 9) rfl (hall 9 (by omega)) (d := none) rfl rfl, putAll_step (n := 8) rfl (hall 8 (by omega)) (d := (some 9)) rfl e9, putAll_step (n := 7) rfl (hall 7 (by omega)) (d := (some 8)) rfl e8, putAll_step (n := 6) rfl (hall 6 (by omega)) (d := (some 7)) rfl e7, putAll_step (n := 5) rfl (hall 5 (by omega)) (d := (some 22)) rfl (hI.val_ 5 _ (hall 5 (by omega)) rfl), putAll_step (n := 4) rfl (hall 4 (by omega)) (d := (some 21)) rfl (hI.val_ 4 _ (hall 4 (by omega)) rfl), putAll_step (n := 3) rfl (hall 3 (by omega)) (d := (some 20)) rfl (hI.val_ 3 _ (hall 3 (by omega)) rfl), putAll_step (n := 2) rfl (hall 2 (by omega)) (d := (some 19)) rfl (hI.val_ 2 _ (hall 2 (by omega)) rfl), putAll_step (n := 1) rfl (hall 1 (by omega)) (d := (some 18)) rfl (hI.val_ 1 _ (hall 1 (by omega)) rfl), putAll_step (n := 0) rfl (hall 0 (by omega)) (d := (some 17)) rfl (hI.val_ 0 _ (hall 0 (by omega)) rfl), putAll_zero]
  have hbase := hI.base
  clear hI hall hBC e7 e8 e9
  go_frame
  obtain ⟨hB, h0, h1, h2⟩ := hbase
  have k0 : wz.cell? ⟨w.heap.size, 0, none⟩ = some (.int .i64 p) := h0.at_ 0
  go_wp2_with (refine wpList_load_all rfl 53 _ rfl (w.heap.size + 1) rfl _ _ _ h1 Try.underlying53 rfl 3 (by kernel_rfl) rfl ?_)
  refine (schemeFor_c p n' m' k' none 0 0 _).mono ?_
  rintro e w3 ⟨rfl, b3⟩
  have lw := Nat.le_trans (Nat.le_of_lt h9.lt) b3.size
  replace hB := below_after hB b3
  replace h0 := h0.after b3
  replace h7 := h7.after b3
  replace h8 := h8.after b3
  replace h9 := h9.after b3
  have bx := below1 w3 (.cells #[.int .i64 p, .int .i64 n', .int .i64 m', .int .i64 k', .slice none 0 0] 28 (0, 0))
  have l33 := h9.lt
  have l37 := h7.lt
  have l38 := h8.lt
  have hK0 : KB w (w.heap.size + 1 + 1 + 1) w3.heap.size p n' m' k' ((ps.take 0).filter nzB) (.slice none 0 0) (w3.alloc (.cells #[.int .i64 p, .int .i64 n', .int .i64 m', .int .i64 k', .slice none 0 0] 28 (0, 0))) := ⟨below_after hB bx, Own.nil _ _, al1_0 _ _, by omega, by omega⟩
  replace h0 := h0.after bx
  replace h7 := h7.after bx
  replace h8 := h8.after bx
  replace h9 := h9.after bx
  have c4 : (w3.alloc (.cells #[.int .i64 p, .int .i64 n', .int .i64 m', .int .i64 k', .slice none 0 0] 28 (0, 0))).cell? ⟨w.heap.size, 4, none⟩ = some (.slice A qs.length cap) := h0.at_ 4
  have hgw : w.heap.size + 1 + 1 + 1 ≤ w3.heap.size := by omega
  clear b3 bx hB k0 h1 h2 lw
  go_wp2_with fail
  go_loopw [30] (fun i wr => ∃ (j : Nat) (v : Value), j ≤ qs.length ∧ i = .int .i64 j ∧ KB w (w.heap.size + 1 + 1 + 1) w3.heap.size p n' m' k' ((ps.take j).filter nzB) v wr ∧ At wr w.heap.size (.cells #[.int .i64 p, .int .i64 n, .int .i64 m, .int .i64 k, .slice A qs.length cap] 28 (0, 0)) ∧ At wr b7 (.cells #[.int .i64 n, .int .i64 m, .int .i64 m, .int .i64 k, .int .i64 n, .int .i64 k] 74 (0, 0)) ∧ At wr b8 (.cells #[.int .i64 n', .int .i64 m', .int .i64 m', .int .i64 k', .int .i64 n', .int .i64 k'] 74 (0, 0)) ∧ At wr b9 (.cells #[.int .i64 dn, .int .i64 dm, .int .i64 dm, .int .i64 dk, .int .i64 dn, .int .i64 dk] 74 (0, 0))) (fun i _ => qs.length - (intOf i).toNat)
  case atStart => exact ⟨0, _, by omega, rfl, hK0, h0, h7, h8, h9⟩
  case round =>
    clear hK0 h0 h7 h8 h9 c4
    obtain ⟨j, v, hj, rfl, hK, h0, h7, h8, h9⟩ := hrel
    obtain ⟨wa, rfl⟩ : ∃ wa : World, wa = wr := ⟨_, rfl⟩
    by_cases hlt : j < qs.length
    · have e0 : IntKind.i64.wrap ((j : Int) + 1) = (j : Int) + 1 := IntWalk.i64_in _ (by omega)
      have hj' : (j : Int) < (qs.length : Int) := by omega
      obtain ⟨b, off, rfl, _⟩ := hr.at_ hlt
      have hqj := hr.good _ (List.getElem_mem hlt)
      have Hc := Lib.hid (Rd.cells27 (hr.keep hK.below) hlt)
      have hjp : j < ps.length := by omega
      have HF := Lib.hid (filter_snoc ps hjp)
      have hfl := filter_le ps j
      have HFb : Hid (∀ r ∈ (ps.take j).filter nzB, Bytes 27 r) := Lib.hid (fun r hm => HPSb.out r (List.mem_of_mem_take (List.mem_filter.1 hm).1))
      have hpj := HPJ.out j hlt hjp
      have hprod := mvQ_prod (N := (n : Int)) (M := (m : Int)) (K := (k : Int)) (n := n) (m := m) (k := k) (n' := n') (m' := m') (k' := k') (dn := dn) (dm := dm) (dk := dk) hp0 hn.2 hm.2 hk.2 hqj (HPB.out _ (List.getElem_mem hlt))
      have hmb := mvQ_bytes (n := n) (m := m) (k := k) (n' := n') (m' := m') (k' := k') (dn := dn) (dm := dm) (dk := dk) hqj
      generalize (ps.take j).filter nzB = F at *
      generalize ps[j] = pj at *
      generalize qs[j] = q at *
      obtain ⟨QA, QB, QC, rfl, hQA, hQB, hQC⟩ := parts3 hqj
      have hmv : mvQ n m k n' m' k' dn dm dk (cat3 QA QB QC) = cat3 (mvF n m n' m' dn dm QA) (mvF m k m' k' dm dk QB) (mvF n k n' k' dn dk QC) := by unfold mvQ; rw [segm_a hQA.len, segm_b hQA.len hQB.len, segm_c hQA.len hQB.len hQC.len]
      rw [hmv] at hpj hprod hmb
      subst hpj
      have HPr := Lib.hid hprod
      clear hmv hprod
      have HA := Lib.hid (fun w => movedForm_c QA n m n' m' dn dm hQA w (by omega) (by omega) (by omega) (by omega) (by omega) (by omega))
      have hFA := mvF_bytes n m n' m' dn dm hQA
      generalize mvF n m n' m' dn dm QA = FA at *
      have HB := Lib.hid (fun w => movedForm_c QB m k m' k' dm dk hQB w (by omega) (by omega) (by omega) (by omega) (by omega) (by omega))
      have hFB := mvF_bytes m k m' k' dm dk hQB
      generalize mvF m k m' k' dm dk QB = FB at *
      have HC := Lib.hid (fun w => movedForm_c QC n k n' k' dn dk hQC w (by omega) (by omega) (by omega) (by omega) (by omega) (by omega))
      have hFC := mvF_bytes n k n' k' dn dk hQC
      generalize mvF n k n' k' dn dk QC = FC at *
      have HFac := Lib.hid (fun w => factorsOf_c (cat3 QA QB QC) hqj w)
      have nq := hK.own.away_new
      have lg := hK.box.lt
      have l7 := h7.lt
      have l8 := h8.lt
      have l9 := h9.lt
      have l0 := h0.lt
      go_wp2_with (first | (refine wpList_load_cells rfl 49 _ rfl b (off + j * 27) rfl (cat3 QA QB QC) _ 27 Hc.out Try.underlying49 rfl (by kernel_rfl) hqj.len ?_) | (refine wpList_abs1 ?_; intro W2 hsz2 hB2 s2; replace s2 : At W2 wa.heap.size (.cells (u8s (List.replicate 27 0)) 49 (0, 0)) := s2; replace hK := hK.after hB2; replace h0 := h0.after hB2; replace h7 := h7.after hB2; replace h8 := h8.after hB2; replace h9 := h9.after hB2) | (refine wpList_store_u8s rfl 49 _ _ rfl rfl wa.heap.size 0 rfl (cat3 QA QB QC) rfl _ _ s2 27 (by kernel_rfl) hqj.len (by simp) ?_; intro W3 p3; replace h0 := p3.other h0 (by omega); replace h7 := p3.other h7 (by omega); replace h8 := p3.other h8 (by omega); replace h9 := p3.other h9 (by omega); replace hK := hK.other p3 (by omega) nq (by omega); have hq := p3.at_; rw [over_all (by rw [hqj.len]; simp)] at hq; clear p3 s2 hsz2 hB2; have ngm := hK.own.away_new; have lq := hq.lt) | (refine wpList_abs1 ?_; intro W4 hsz4 hB4 hm; replace hm : At W4 W3.heap.size (.cells (u8s (cat3 (List.replicate 9 0) (List.replicate 9 0) (List.replicate 9 0))) 77 (0, 0)) := hm; replace hK := hK.after hB4; replace h0 := h0.after hB4; replace h7 := h7.after hB4; replace h8 := h8.after hB4; replace h9 := h9.after hB4; replace hq := hq.after hB4; clear hB4 hsz4; generalize W3.heap.size = gm at *) | (refine wpList_load_all rfl 49 _ rfl wa.heap.size rfl _ _ _ hq Try.underlying49 rfl 27 (by kernel_rfl) ((u8s_size _).trans hqj.len) ?_))
      refine (HFac.out _).mono ?_
      rintro e w5 ⟨rfl, b5⟩
      replace hK := hK.after b5
      replace h0 := h0.after b5
      replace h7 := h7.after b5
      replace h8 := h8.after b5
      replace h9 := h9.after b5
      replace hm := hm.after b5
      clear b5 hq Hc HFac
      go_wp2_with fail
      go_loopw [36] (fun i wr => KB w (w.heap.size + 1 + 1 + 1) w3.heap.size p n' m' k' (F) v wr ∧ At wr w.heap.size (.cells #[.int .i64 p, .int .i64 n, .int .i64 m, .int .i64 k, .slice (some ⟨b, off, none⟩) qs.length cap] 28 (0, 0)) ∧ At wr b7 (.cells #[.int .i64 n, .int .i64 m, .int .i64 m, .int .i64 k, .int .i64 n, .int .i64 k] 74 (0, 0)) ∧ At wr b8 (.cells #[.int .i64 n', .int .i64 m', .int .i64 m', .int .i64 k', .int .i64 n', .int .i64 k'] 74 (0, 0)) ∧ At wr b9 (.cells #[.int .i64 dn, .int .i64 dm, .int .i64 dm, .int .i64 dk, .int .i64 dn, .int .i64 dk] 74 (0, 0)) ∧ ((i = .int .i64 0 ∧ At wr gm (.cells (u8s (cat3 (List.replicate 9 0) (List.replicate 9 0) (List.replicate 9 0))) 77 (0, 0))) ∨ (i = .int .i64 1 ∧ At wr gm (.cells (u8s (cat3 FA (List.replicate 9 0) (List.replicate 9 0))) 77 (0, 0))) ∨ (i = .int .i64 2 ∧ At wr gm (.cells (u8s (cat3 FA FB (List.replicate 9 0))) 77 (0, 0))) ∨ (i = .int .i64 3 ∧ At wr gm (.cells (u8s (cat3 FA FB FC)) 77 (0, 0))))) (fun i _ => 3 - (intOf i).toNat)
      case atStart => exact ⟨hK, h0, h7, h8, h9, .inl ⟨rfl, hm⟩⟩
      case round =>
        clear hK h0 h7 h8 h9 hm
        obtain ⟨hK, h0, h7, h8, h9, ⟨rfl, hm⟩ | ⟨rfl, hm⟩ | ⟨rfl, hm⟩ | ⟨rfl, hm⟩⟩ := hrel
        · have lgm := hm.lt
          have naf := hK.own.away_new
          have l9 := h9.lt
          have l8 := h8.lt
          have l7 := h7.lt
          have ly := hK.box.lt
          have s9 : segm (cat3 QA QB QC) (0 * 9) 9 = QA := segm_a hQA.len
          go_wp2_with (first | (refine wpList_of_exec rfl (exec_index_seg 77 47 _ _ rfl 3 0 9 (cat3 QA QB QC) _ rfl rfl Try.underlying77 Try.underlying47 rfl (by kernel_rfl) (by omega)) ?_; rw [s9]) | (refine wpList_abs1 ?_; intro W2 hsz2 hB2 s2; replace s2 : At W2 wr.heap.size (.cells (u8s (List.replicate 9 0)) 47 (0, 0)) := s2; replace hK := hK.after hB2; replace h0 := h0.after hB2; replace h7 := h7.after hB2; replace h8 := h8.after hB2; replace h9 := h9.after hB2; replace hm := hm.after hB2; clear hB2 hsz2) | (refine wpList_store_u8s rfl 47 _ _ rfl rfl wr.heap.size 0 rfl QA rfl _ (List.replicate 9 0) s2 9 (by kernel_rfl) hQA.len (by simp) ?_; intro W3 p3; replace h0 := p3.other h0 (by omega); replace h7 := p3.other h7 (by omega); replace h8 := p3.other h8 (by omega); replace h9 := p3.other h9 (by omega); replace hm := p3.other hm (by omega); replace hK := hK.other p3 (by omega) naf (by omega); have hf := p3.at_; rw [over_all (by rw [hQA.len]; simp)] at hf; clear p3 s2))
          refine wp_region_held (S := fun w' => At w' wr.heap.size (.cells (u8s QA) 47 (0, 0)) ∧ At w' b7 (.cells #[.int .i64 n, .int .i64 m, .int .i64 m, .int .i64 k, .int .i64 n, .int .i64 k] 74 (0, 0)) ∧ At w' b8 (.cells #[.int .i64 n', .int .i64 m', .int .i64 m', .int .i64 k', .int .i64 n', .int .i64 k'] 74 (0, 0)) ∧ At w' b9 (.cells #[.int .i64 dn, .int .i64 dm, .int .i64 dm, .int .i64 dk, .int .i64 dn, .int .i64 dk] 74 (0, 0))) (by kernel_rfl) ?_
          change wpAnyH _ _ _ _ _ _ _ _ (World.drew _)
          generalize hwdi0 : World.drew _ = wdi0
          replace hK : KB w (w.heap.size + 1 + 1 + 1) w3.heap.size p n' m' k' (F) v wdi0 := by rw [← hwdi0]; exact hK.drew
          replace h0 : At wdi0 w.heap.size (.cells #[.int .i64 p, .int .i64 n, .int .i64 m, .int .i64 k, .slice (some ⟨b, off, none⟩) qs.length cap] 28 (0, 0)) := by rw [← hwdi0]; exact h0
          replace h7 : At wdi0 b7 (.cells #[.int .i64 n, .int .i64 m, .int .i64 m, .int .i64 k, .int .i64 n, .int .i64 k] 74 (0, 0)) := by rw [← hwdi0]; exact h7
          replace h8 : At wdi0 b8 (.cells #[.int .i64 n', .int .i64 m', .int .i64 m', .int .i64 k', .int .i64 n', .int .i64 k'] 74 (0, 0)) := by rw [← hwdi0]; exact h8
          replace h9 : At wdi0 b9 (.cells #[.int .i64 dn, .int .i64 dm, .int .i64 dm, .int .i64 dk, .int .i64 dn, .int .i64 dk] 74 (0, 0)) := by rw [← hwdi0]; exact h9
          replace hm : At wdi0 gm (.cells (u8s (cat3 (List.replicate 9 0) (List.replicate 9 0) (List.replicate 9 0))) 77 (0, 0)) := by rw [← hwdi0]; exact hm
          replace hf : At wdi0 wr.heap.size (.cells (u8s QA) 47 (0, 0)) := by rw [← hwdi0]; exact hf
          clear hwdi0
          refine held_yield 0 (some 40) (.int .i64 0) rfl (by kernel_rfl) (by kernel_rfl) (by kernel_rfl) (fun _ _ _ h => h) rfl rfl ⟨hf, h7, h8, h9⟩ (fun w' h' => exec_move _ rfl (.int .i64 0) rfl) ?_
          go_frame
          refine held_yield 1 (some 41) (.agg (u8s QA)) rfl (by kernel_rfl) (by kernel_rfl) (by kernel_rfl) (fun _ _ _ h => h) rfl rfl ⟨hf, h7, h8, h9⟩ (fun w' h' => exec_load_all 47 _ rfl wr.heap.size rfl _ _ _ h'.1 Try.underlying47 rfl 9 (by kernel_rfl) ((u8s_size _).trans hQA.len)) ?_
          go_frame
          refine held_yield 2 (some 42) (.int .i64 0) rfl (by kernel_rfl) (by kernel_rfl) (by kernel_rfl) (fun _ _ _ h => h) rfl rfl ⟨hf, h7, h8, h9⟩ (fun w' h' => exec_move _ rfl (.int .i64 0) rfl) ?_
          go_frame
          refine held_yield 3 (some 43) (.pointer (some ⟨b7, 0, none⟩)) rfl (by kernel_rfl) (by kernel_rfl) (by kernel_rfl) (fun _ _ _ h => h) rfl rfl ⟨hf, h7, h8, h9⟩ (fun w' h' => exec_index_arr _ 73 _ _ rfl b7 0 3 0 2 rfl rfl Try.underlying74 (by kernel_rfl) (by omega)) ?_
          go_frame
          refine held_yield 4 (some 44) (.agg #[.int .i64 n, .int .i64 m]) rfl (by kernel_rfl) (by kernel_rfl) (by kernel_rfl) (fun _ _ _ h => h) rfl rfl ⟨hf, h7, h8, h9⟩ (fun w' h' => exec_load_lit 73 _ rfl b7 0 rfl _ _ _ 2 h'.2.1 Try.underlying73 rfl (by kernel_rfl) (by simp) _ rfl) ?_
          go_frame
          refine held_yield 5 (some 45) (.int .i64 0) rfl (by kernel_rfl) (by kernel_rfl) (by kernel_rfl) (fun _ _ _ h => h) rfl rfl ⟨hf, h7, h8, h9⟩ (fun w' h' => exec_move _ rfl (.int .i64 0) rfl) ?_
          go_frame
          refine held_yield 6 (some 46) (.pointer (some ⟨b8, 0, none⟩)) rfl (by kernel_rfl) (by kernel_rfl) (by kernel_rfl) (fun _ _ _ h => h) rfl rfl ⟨hf, h7, h8, h9⟩ (fun w' h' => exec_index_arr _ 73 _ _ rfl b8 0 3 0 2 rfl rfl Try.underlying74 (by kernel_rfl) (by omega)) ?_
          go_frame
          refine held_yield 7 (some 47) (.agg #[.int .i64 n', .int .i64 m']) rfl (by kernel_rfl) (by kernel_rfl) (by kernel_rfl) (fun _ _ _ h => h) rfl rfl ⟨hf, h7, h8, h9⟩ (fun w' h' => exec_load_lit 73 _ rfl b8 0 rfl _ _ _ 2 h'.2.2.1 Try.underlying73 rfl (by kernel_rfl) (by simp) _ rfl) ?_
          go_frame
          refine held_yield 8 (some 48) (.int .i64 0) rfl (by kernel_rfl) (by kernel_rfl) (by kernel_rfl) (fun _ _ _ h => h) rfl rfl ⟨hf, h7, h8, h9⟩ (fun w' h' => exec_move _ rfl (.int .i64 0) rfl) ?_
          go_frame
          refine held_yield 9 (some 49) (.pointer (some ⟨b9, 0, none⟩)) rfl (by kernel_rfl) (by kernel_rfl) (by kernel_rfl) (fun _ _ _ h => h) rfl rfl ⟨hf, h7, h8, h9⟩ (fun w' h' => exec_index_arr _ 73 _ _ rfl b9 0 3 0 2 rfl rfl Try.underlying74 (by kernel_rfl) (by omega)) ?_
          go_frame
          refine held_yield 10 (some 50) (.agg #[.int .i64 dn, .int .i64 dm]) rfl (by kernel_rfl) (by kernel_rfl) (by kernel_rfl) (fun _ _ _ h => h) rfl rfl ⟨hf, h7, h8, h9⟩ (fun w' h' => exec_load_lit 73 _ rfl b9 0 rfl _ _ _ 2 h'.2.2.2 Try.underlying73 rfl (by kernel_rfl) (by simp) _ rfl) ?_
          go_frame
          refine held_oper 11 (by kernel_rfl) rfl rfl (fun K' hK' => ?_)
          refine wp_call4 (some 51) rfl 53 _ _ _ _ _ rfl (fun args w => by kernel_rfl) _ _ _ _ rfl rfl rfl rfl _ (HA.out _) (fun e wni01 h => ?_)
          obtain ⟨rfl, bi02⟩ := h
          replace hK := hK.after bi02
          replace h0 := h0.after bi02
          replace h7 := h7.after bi02
          replace h8 := h8.after bi02
          replace h9 := h9.after bi02
          replace hm := hm.after bi02
          replace hf := hf.after bi02
          clear bi02
          refine ⟨_, rfl, hK' _ _ ⟨hf, h7, h8, h9⟩ ?_⟩
          clear hK' K'
          go_frame
          refine held_yield 12 (some 52) (.pointer (some ⟨gm, 0, none⟩)) rfl (by kernel_rfl) (by kernel_rfl) (by kernel_rfl) (fun _ _ _ h => h) rfl rfl ⟨hf, h7, h8, h9⟩ (fun w' h' => exec_index_arr _ 47 _ _ rfl gm 0 3 0 9 rfl rfl Try.underlying77 (by kernel_rfl) (by omega)) ?_
          go_frame
          refine held_oper 13 (by kernel_rfl) rfl rfl (fun K' hK' => ?_)
          refine wp_store_u8s 47 _ _ rfl rfl gm 0 rfl FA rfl _ _ hm 9 (by kernel_rfl) hFA.len (by simp [cat3]) (fun wsi03 Pi04 => ?_)
          replace hK := hK.other Pi04 (by omega) ngm (by omega)
          replace h0 := Pi04.other h0 (by omega)
          replace h7 := Pi04.other h7 (by omega)
          replace h8 := Pi04.other h8 (by omega)
          replace h9 := Pi04.other h9 (by omega)
          replace hf := Pi04.other hf (by omega)
          replace hm := Pi04.at_
          rw [over_a (by simp) hFA.len] at hm
          refine hK' _ _ ⟨hf, h7, h8, h9⟩ ?_
          clear hK' K' Pi04
          refine wpAnyH_done (by kernel_rfl) ?_ _
          go_wp2_with fail
          go_roundw
          case rel => exact ⟨hK, h0, h7, h8, h9, .inr (.inl ⟨rfl, hm⟩)⟩
          case measure => simp [intOf]
        · have lgm := hm.lt
          have naf := hK.own.away_new
          have l9 := h9.lt
          have l8 := h8.lt
          have l7 := h7.lt
          have ly := hK.box.lt
          have s9 : segm (cat3 QA QB QC) (1 * 9) 9 = QB := segm_b hQA.len hQB.len
          go_wp2_with (first | (refine wpList_of_exec rfl (exec_index_seg 77 47 _ _ rfl 3 1 9 (cat3 QA QB QC) _ rfl rfl Try.underlying77 Try.underlying47 rfl (by kernel_rfl) (by omega)) ?_; rw [s9]) | (refine wpList_abs1 ?_; intro W2 hsz2 hB2 s2; replace s2 : At W2 wr.heap.size (.cells (u8s (List.replicate 9 0)) 47 (0, 0)) := s2; replace hK := hK.after hB2; replace h0 := h0.after hB2; replace h7 := h7.after hB2; replace h8 := h8.after hB2; replace h9 := h9.after hB2; replace hm := hm.after hB2; clear hB2 hsz2) | (refine wpList_store_u8s rfl 47 _ _ rfl rfl wr.heap.size 0 rfl QB rfl _ (List.replicate 9 0) s2 9 (by kernel_rfl) hQB.len (by simp) ?_; intro W3 p3; replace h0 := p3.other h0 (by omega); replace h7 := p3.other h7 (by omega); replace h8 := p3.other h8 (by omega); replace h9 := p3.other h9 (by omega); replace hm := p3.other hm (by omega); replace hK := hK.other p3 (by omega) naf (by omega); have hf := p3.at_; rw [over_all (by rw [hQB.len]; simp)] at hf; clear p3 s2))
          refine wp_region_held (S := fun w' => At w' wr.heap.size (.cells (u8s QB) 47 (0, 0)) ∧ At w' b7 (.cells #[.int .i64 n, .int .i64 m, .int .i64 m, .int .i64 k, .int .i64 n, .int .i64 k] 74 (0, 0)) ∧ At w' b8 (.cells #[.int .i64 n', .int .i64 m', .int .i64 m', .int .i64 k', .int .i64 n', .int .i64 k'] 74 (0, 0)) ∧ At w' b9 (.cells #[.int .i64 dn, .int .i64 dm, .int .i64 dm, .int .i64 dk, .int .i64 dn, .int .i64 dk] 74 (0, 0))) (by kernel_rfl) ?_
          change wpAnyH _ _ _ _ _ _ _ _ (World.drew _)
          generalize hwdi1 : World.drew _ = wdi1
          replace hK : KB w (w.heap.size + 1 + 1 + 1) w3.heap.size p n' m' k' (F) v wdi1 := by rw [← hwdi1]; exact hK.drew
          replace h0 : At wdi1 w.heap.size (.cells #[.int .i64 p, .int .i64 n, .int .i64 m, .int .i64 k, .slice (some ⟨b, off, none⟩) qs.length cap] 28 (0, 0)) := by rw [← hwdi1]; exact h0
          replace h7 : At wdi1 b7 (.cells #[.int .i64 n, .int .i64 m, .int .i64 m, .int .i64 k, .int .i64 n, .int .i64 k] 74 (0, 0)) := by rw [← hwdi1]; exact h7
          replace h8 : At wdi1 b8 (.cells #[.int .i64 n', .int .i64 m', .int .i64 m', .int .i64 k', .int .i64 n', .int .i64 k'] 74 (0, 0)) := by rw [← hwdi1]; exact h8
          replace h9 : At wdi1 b9 (.cells #[.int .i64 dn, .int .i64 dm, .int .i64 dm, .int .i64 dk, .int .i64 dn, .int .i64 dk] 74 (0, 0)) := by rw [← hwdi1]; exact h9
          replace hm : At wdi1 gm (.cells (u8s (cat3 FA (List.replicate 9 0) (List.replicate 9 0))) 77 (0, 0)) := by rw [← hwdi1]; exact hm
          replace hf : At wdi1 wr.heap.size (.cells (u8s QB) 47 (0, 0)) := by rw [← hwdi1]; exact hf
          clear hwdi1
          refine held_yield 0 (some 40) (.int .i64 1) rfl (by kernel_rfl) (by kernel_rfl) (by kernel_rfl) (fun _ _ _ h => h) rfl rfl ⟨hf, h7, h8, h9⟩ (fun w' h' => exec_move _ rfl (.int .i64 1) rfl) ?_
          go_frame
          refine held_yield 1 (some 41) (.agg (u8s QB)) rfl (by kernel_rfl) (by kernel_rfl) (by kernel_rfl) (fun _ _ _ h => h) rfl rfl ⟨hf, h7, h8, h9⟩ (fun w' h' => exec_load_all 47 _ rfl wr.heap.size rfl _ _ _ h'.1 Try.underlying47 rfl 9 (by kernel_rfl) ((u8s_size _).trans hQB.len)) ?_
          go_frame
          refine held_yield 2 (some 42) (.int .i64 1) rfl (by kernel_rfl) (by kernel_rfl) (by kernel_rfl) (fun _ _ _ h => h) rfl rfl ⟨hf, h7, h8, h9⟩ (fun w' h' => exec_move _ rfl (.int .i64 1) rfl) ?_
          go_frame
          refine held_yield 3 (some 43) (.pointer (some ⟨b7, 2, none⟩)) rfl (by kernel_rfl) (by kernel_rfl) (by kernel_rfl) (fun _ _ _ h => h) rfl rfl ⟨hf, h7, h8, h9⟩ (fun w' h' => exec_index_arr _ 73 _ _ rfl b7 0 3 1 2 rfl rfl Try.underlying74 (by kernel_rfl) (by omega)) ?_
          go_frame
          refine held_yield 4 (some 44) (.agg #[.int .i64 m, .int .i64 k]) rfl (by kernel_rfl) (by kernel_rfl) (by kernel_rfl) (fun _ _ _ h => h) rfl rfl ⟨hf, h7, h8, h9⟩ (fun w' h' => exec_load_lit 73 _ rfl b7 2 rfl _ _ _ 2 h'.2.1 Try.underlying73 rfl (by kernel_rfl) (by simp) _ rfl) ?_
          go_frame
          refine held_yield 5 (some 45) (.int .i64 1) rfl (by kernel_rfl) (by kernel_rfl) (by kernel_rfl) (fun _ _ _ h => h) rfl rfl ⟨hf, h7, h8, h9⟩ (fun w' h' => exec_move _ rfl (.int .i64 1) rfl) ?_
          go_frame
          refine held_yield 6 (some 46) (.pointer (some ⟨b8, 2, none⟩)) rfl (by kernel_rfl) (by kernel_rfl) (by kernel_rfl) (fun _ _ _ h => h) rfl rfl ⟨hf, h7, h8, h9⟩ (fun w' h' => exec_index_arr _ 73 _ _ rfl b8 0 3 1 2 rfl rfl Try.underlying74 (by kernel_rfl) (by omega)) ?_
          go_frame
          refine held_yield 7 (some 47) (.agg #[.int .i64 m', .int .i64 k']) rfl (by kernel_rfl) (by kernel_rfl) (by kernel_rfl) (fun _ _ _ h => h) rfl rfl ⟨hf, h7, h8, h9⟩ (fun w' h' => exec_load_lit 73 _ rfl b8 2 rfl _ _ _ 2 h'.2.2.1 Try.underlying73 rfl (by kernel_rfl) (by simp) _ rfl) ?_
          go_frame
          refine held_yield 8 (some 48) (.int .i64 1) rfl (by kernel_rfl) (by kernel_rfl) (by kernel_rfl) (fun _ _ _ h => h) rfl rfl ⟨hf, h7, h8, h9⟩ (fun w' h' => exec_move _ rfl (.int .i64 1) rfl) ?_
          go_frame
          refine held_yield 9 (some 49) (.pointer (some ⟨b9, 2, none⟩)) rfl (by kernel_rfl) (by kernel_rfl) (by kernel_rfl) (fun _ _ _ h => h) rfl rfl ⟨hf, h7, h8, h9⟩ (fun w' h' => exec_index_arr _ 73 _ _ rfl b9 0 3 1 2 rfl rfl Try.underlying74 (by kernel_rfl) (by omega)) ?_
          go_frame
          refine held_yield 10 (some 50) (.agg #[.int .i64 dm, .int .i64 dk]) rfl (by kernel_rfl) (by kernel_rfl) (by kernel_rfl) (fun _ _ _ h => h) rfl rfl ⟨hf, h7, h8, h9⟩ (fun w' h' => exec_load_lit 73 _ rfl b9 2 rfl _ _ _ 2 h'.2.2.2 Try.underlying73 rfl (by kernel_rfl) (by simp) _ rfl) ?_
          go_frame
          refine held_oper 11 (by kernel_rfl) rfl rfl (fun K' hK' => ?_)
          refine wp_call4 (some 51) rfl 53 _ _ _ _ _ rfl (fun args w => by kernel_rfl) _ _ _ _ rfl rfl rfl rfl _ (HB.out _) (fun e wni11 h => ?_)
          obtain ⟨rfl, bi12⟩ := h
          replace hK := hK.after bi12
          replace h0 := h0.after bi12
          replace h7 := h7.after bi12
          replace h8 := h8.after bi12
          replace h9 := h9.after bi12
          replace hm := hm.after bi12
          replace hf := hf.after bi12
          clear bi12
          refine ⟨_, rfl, hK' _ _ ⟨hf, h7, h8, h9⟩ ?_⟩
          clear hK' K'
          go_frame
          refine held_yield 12 (some 52) (.pointer (some ⟨gm, 9, none⟩)) rfl (by kernel_rfl) (by kernel_rfl) (by kernel_rfl) (fun _ _ _ h => h) rfl rfl ⟨hf, h7, h8, h9⟩ (fun w' h' => exec_index_arr _ 47 _ _ rfl gm 0 3 1 9 rfl rfl Try.underlying77 (by kernel_rfl) (by omega)) ?_
          go_frame
          refine held_oper 13 (by kernel_rfl) rfl rfl (fun K' hK' => ?_)
          refine wp_store_u8s 47 _ _ rfl rfl gm 9 rfl FB rfl _ _ hm 9 (by kernel_rfl) hFB.len (by simp [cat3, hFA.len]) (fun wsi13 Pi14 => ?_)
          replace hK := hK.other Pi14 (by omega) ngm (by omega)
          replace h0 := Pi14.other h0 (by omega)
          replace h7 := Pi14.other h7 (by omega)
          replace h8 := Pi14.other h8 (by omega)
          replace h9 := Pi14.other h9 (by omega)
          replace hf := Pi14.other hf (by omega)
          replace hm := Pi14.at_
          rw [over_b hFA.len (by simp) hFB.len] at hm
          refine hK' _ _ ⟨hf, h7, h8, h9⟩ ?_
          clear hK' K' Pi14
          refine wpAnyH_done (by kernel_rfl) ?_ _
          go_wp2_with fail
          go_roundw
          case rel => exact ⟨hK, h0, h7, h8, h9, .inr (.inr (.inl ⟨rfl, hm⟩))⟩
          case measure => simp [intOf]
        · have lgm := hm.lt
          have naf := hK.own.away_new
          have l9 := h9.lt
          have l8 := h8.lt
          have l7 := h7.lt
          have ly := hK.box.lt
          have s9 : segm (cat3 QA QB QC) (2 * 9) 9 = QC := segm_c hQA.len hQB.len hQC.len
          go_wp2_with (first | (refine wpList_of_exec rfl (exec_index_seg 77 47 _ _ rfl 3 2 9 (cat3 QA QB QC) _ rfl rfl Try.underlying77 Try.underlying47 rfl (by kernel_rfl) (by omega)) ?_; rw [s9]) | (refine wpList_abs1 ?_; intro W2 hsz2 hB2 s2; replace s2 : At W2 wr.heap.size (.cells (u8s (List.replicate 9 0)) 47 (0, 0)) := s2; replace hK := hK.after hB2; replace h0 := h0.after hB2; replace h7 := h7.after hB2; replace h8 := h8.after hB2; replace h9 := h9.after hB2; replace hm := hm.after hB2; clear hB2 hsz2) | (refine wpList_store_u8s rfl 47 _ _ rfl rfl wr.heap.size 0 rfl QC rfl _ (List.replicate 9 0) s2 9 (by kernel_rfl) hQC.len (by simp) ?_; intro W3 p3; replace h0 := p3.other h0 (by omega); replace h7 := p3.other h7 (by omega); replace h8 := p3.other h8 (by omega); replace h9 := p3.other h9 (by omega); replace hm := p3.other hm (by omega); replace hK := hK.other p3 (by omega) naf (by omega); have hf := p3.at_; rw [over_all (by rw [hQC.len]; simp)] at hf; clear p3 s2))
          refine wp_region_held (S := fun w' => At w' wr.heap.size (.cells (u8s QC) 47 (0, 0)) ∧ At w' b7 (.cells #[.int .i64 n, .int .i64 m, .int .i64 m, .int .i64 k, .int .i64 n, .int .i64 k] 74 (0, 0)) ∧ At w' b8 (.cells #[.int .i64 n', .int .i64 m', .int .i64 m', .int .i64 k', .int .i64 n', .int .i64 k'] 74 (0, 0)) ∧ At w' b9 (.cells #[.int .i64 dn, .int .i64 dm, .int .i64 dm, .int .i64 dk, .int .i64 dn, .int .i64 dk] 74 (0, 0))) (by kernel_rfl) ?_
          change wpAnyH _ _ _ _ _ _ _ _ (World.drew _)
          generalize hwdi2 : World.drew _ = wdi2
          replace hK : KB w (w.heap.size + 1 + 1 + 1) w3.heap.size p n' m' k' (F) v wdi2 := by rw [← hwdi2]; exact hK.drew
          replace h0 : At wdi2 w.heap.size (.cells #[.int .i64 p, .int .i64 n, .int .i64 m, .int .i64 k, .slice (some ⟨b, off, none⟩) qs.length cap] 28 (0, 0)) := by rw [← hwdi2]; exact h0
          replace h7 : At wdi2 b7 (.cells #[.int .i64 n, .int .i64 m, .int .i64 m, .int .i64 k, .int .i64 n, .int .i64 k] 74 (0, 0)) := by rw [← hwdi2]; exact h7
          replace h8 : At wdi2 b8 (.cells #[.int .i64 n', .int .i64 m', .int .i64 m', .int .i64 k', .int .i64 n', .int .i64 k'] 74 (0, 0)) := by rw [← hwdi2]; exact h8
          replace h9 : At wdi2 b9 (.cells #[.int .i64 dn, .int .i64 dm, .int .i64 dm, .int .i64 dk, .int .i64 dn, .int .i64 dk] 74 (0, 0)) := by rw [← hwdi2]; exact h9
          replace hm : At wdi2 gm (.cells (u8s (cat3 FA FB (List.replicate 9 0))) 77 (0, 0)) := by rw [← hwdi2]; exact hm
          replace hf : At wdi2 wr.heap.size (.cells (u8s QC) 47 (0, 0)) := by rw [← hwdi2]; exact hf
          clear hwdi2
          refine held_yield 0 (some 40) (.int .i64 2) rfl (by kernel_rfl) (by kernel_rfl) (by kernel_rfl) (fun _ _ _ h => h) rfl rfl ⟨hf, h7, h8, h9⟩ (fun w' h' => exec_move _ rfl (.int .i64 2) rfl) ?_
          go_frame
          refine held_yield 1 (some 41) (.agg (u8s QC)) rfl (by kernel_rfl) (by kernel_rfl) (by kernel_rfl) (fun _ _ _ h => h) rfl rfl ⟨hf, h7, h8, h9⟩ (fun w' h' => exec_load_all 47 _ rfl wr.heap.size rfl _ _ _ h'.1 Try.underlying47 rfl 9 (by kernel_rfl) ((u8s_size _).trans hQC.len)) ?_
          go_frame
          refine held_yield 2 (some 42) (.int .i64 2) rfl (by kernel_rfl) (by kernel_rfl) (by kernel_rfl) (fun _ _ _ h => h) rfl rfl ⟨hf, h7, h8, h9⟩ (fun w' h' => exec_move _ rfl (.int .i64 2) rfl) ?_
          go_frame
          refine held_yield 3 (some 43) (.pointer (some ⟨b7, 4, none⟩)) rfl (by kernel_rfl) (by kernel_rfl) (by kernel_rfl) (fun _ _ _ h => h) rfl rfl ⟨hf, h7, h8, h9⟩ (fun w' h' => exec_index_arr _ 73 _ _ rfl b7 0 3 2 2 rfl rfl Try.underlying74 (by kernel_rfl) (by omega)) ?_
          go_frame
          refine held_yield 4 (some 44) (.agg #[.int .i64 n, .int .i64 k]) rfl (by kernel_rfl) (by kernel_rfl) (by kernel_rfl) (fun _ _ _ h => h) rfl rfl ⟨hf, h7, h8, h9⟩ (fun w' h' => exec_load_lit 73 _ rfl b7 4 rfl _ _ _ 2 h'.2.1 Try.underlying73 rfl (by kernel_rfl) (by simp) _ rfl) ?_
          go_frame
          refine held_yield 5 (some 45) (.int .i64 2) rfl (by kernel_rfl) (by kernel_rfl) (by kernel_rfl) (fun _ _ _ h => h) rfl rfl ⟨hf, h7, h8, h9⟩ (fun w' h' => exec_move _ rfl (.int .i64 2) rfl) ?_
          go_frame
          refine held_yield 6 (some 46) (.pointer (some ⟨b8, 4, none⟩)) rfl (by kernel_rfl) (by kernel_rfl) (by kernel_rfl) (fun _ _ _ h => h) rfl rfl ⟨hf, h7, h8, h9⟩ (fun w' h' => exec_index_arr _ 73 _ _ rfl b8 0 3 2 2 rfl rfl Try.underlying74 (by kernel_rfl) (by omega)) ?_
          go_frame
          refine held_yield 7 (some 47) (.agg #[.int .i64 n', .int .i64 k']) rfl (by kernel_rfl) (by kernel_rfl) (by kernel_rfl) (fun _ _ _ h => h) rfl rfl ⟨hf, h7, h8, h9⟩ (fun w' h' => exec_load_lit 73 _ rfl b8 4 rfl _ _ _ 2 h'.2.2.1 Try.underlying73 rfl (by kernel_rfl) (by simp) _ rfl) ?_
          go_frame
          refine held_yield 8 (some 48) (.int .i64 2) rfl (by kernel_rfl) (by kernel_rfl) (by kernel_rfl) (fun _ _ _ h => h) rfl rfl ⟨hf, h7, h8, h9⟩ (fun w' h' => exec_move _ rfl (.int .i64 2) rfl) ?_
          go_frame
          refine held_yield 9 (some 49) (.pointer (some ⟨b9, 4, none⟩)) rfl (by kernel_rfl) (by kernel_rfl) (by kernel_rfl) (fun _ _ _ h => h) rfl rfl ⟨hf, h7, h8, h9⟩ (fun w' h' => exec_index_arr _ 73 _ _ rfl b9 0 3 2 2 rfl rfl Try.underlying74 (by kernel_rfl) (by omega)) ?_
          go_frame
          refine held_yield 10 (some 50) (.agg #[.int .i64 dn, .int .i64 dk]) rfl (by kernel_rfl) (by kernel_rfl) (by kernel_rfl) (fun _ _ _ h => h) rfl rfl ⟨hf, h7, h8, h9⟩ (fun w' h' => exec_load_lit 73 _ rfl b9 4 rfl _ _ _ 2 h'.2.2.2 Try.underlying73 rfl (by kernel_rfl) (by simp) _ rfl) ?_
          go_frame
          refine held_oper 11 (by kernel_rfl) rfl rfl (fun K' hK' => ?_)
          refine wp_call4 (some 51) rfl 53 _ _ _ _ _ rfl (fun args w => by kernel_rfl) _ _ _ _ rfl rfl rfl rfl _ (HC.out _) (fun e wni21 h => ?_)
          obtain ⟨rfl, bi22⟩ := h
          replace hK := hK.after bi22
          replace h0 := h0.after bi22
          replace h7 := h7.after bi22
          replace h8 := h8.after bi22
          replace h9 := h9.after bi22
          replace hm := hm.after bi22
          replace hf := hf.after bi22
          clear bi22
          refine ⟨_, rfl, hK' _ _ ⟨hf, h7, h8, h9⟩ ?_⟩
          clear hK' K'
          go_frame
          refine held_yield 12 (some 52) (.pointer (some ⟨gm, 18, none⟩)) rfl (by kernel_rfl) (by kernel_rfl) (by kernel_rfl) (fun _ _ _ h => h) rfl rfl ⟨hf, h7, h8, h9⟩ (fun w' h' => exec_index_arr _ 47 _ _ rfl gm 0 3 2 9 rfl rfl Try.underlying77 (by kernel_rfl) (by omega)) ?_
          go_frame
          refine held_oper 13 (by kernel_rfl) rfl rfl (fun K' hK' => ?_)
          refine wp_store_u8s 47 _ _ rfl rfl gm 18 rfl FC rfl _ _ hm 9 (by kernel_rfl) hFC.len (by simp [cat3, hFA.len, hFB.len]) (fun wsi23 Pi24 => ?_)
          replace hK := hK.other Pi24 (by omega) ngm (by omega)
          replace h0 := Pi24.other h0 (by omega)
          replace h7 := Pi24.other h7 (by omega)
          replace h8 := Pi24.other h8 (by omega)
          replace h9 := Pi24.other h9 (by omega)
          replace hf := Pi24.other hf (by omega)
          replace hm := Pi24.at_
          rw [over_c hFA.len hFB.len (by simp) hFC.len] at hm
          refine hK' _ _ ⟨hf, h7, h8, h9⟩ ?_
          clear hK' K' Pi24
          refine wpAnyH_done (by kernel_rfl) ?_ _
          go_wp2_with fail
          go_roundw
          case rel => exact ⟨hK, h0, h7, h8, h9, .inr (.inr (.inr ⟨rfl, hm⟩))⟩
          case measure => simp [intOf]
        · have lK := hK.box.lt
          go_wp2_with (refine wpList_load_all rfl 77 _ rfl gm rfl _ _ _ hm Try.underlying77 rfl 27 (by kernel_rfl) ((u8s_size _).trans hmb.len) ?_)
          refine (productOf_c _ hmb _).mono ?_
          rintro e w6 ⟨rfl, b6⟩
          replace hK := hK.after b6
          replace h0 := h0.after b6
          replace h7 := h7.after b6
          replace h8 := h8.after b6
          replace h9 := h9.after b6
          clear b6 hm
          have nq6 := hK.own.away_new
          have ly6 := hK.box.lt
          have l06 := h0.lt
          have l76 := h7.lt
          have l86 := h8.lt
          have l96 := h9.lt
          obtain ⟨A1, c1, rfl, _⟩ := hK.own.rd HFb.out
          go_wp2_with (first | (refine wpList_abs1 ?_; intro W2 hsz2 hB2 s2; replace s2 : At W2 w6.heap.size (.cells (u8s (List.replicate 27 0)) 49 (0, 0)) := s2; replace hK := hK.after hB2; replace h0 := h0.after hB2; replace h7 := h7.after hB2; replace h8 := h8.after hB2; replace h9 := h9.after hB2; clear hB2 hsz2) | (refine wpList_store_u8s rfl 49 _ _ rfl rfl w6.heap.size 0 rfl (cat3 FA FB FC) rfl _ _ s2 27 (by kernel_rfl) hmb.len (by simp) ?_; intro W3 p3; replace h0 := p3.other h0 (by omega); replace h7 := p3.other h7 (by omega); replace h8 := p3.other h8 (by omega); replace h9 := p3.other h9 (by omega); replace hK := hK.other p3 (by omega) nq6 (by omega); have hq6 := p3.at_; rw [over_all (by rw [hmb.len]; simp)] at hq6; clear p3 s2; have hyb := hK.box) | (refine wpList_load_all rfl 28 _ rfl w3.heap.size rfl _ _ _ hyb Try.underlying28 rfl 5 (by kernel_rfl) rfl ?_) | (refine wpList_load_all rfl 49 _ rfl w6.heap.size rfl _ _ _ hq6 Try.underlying49 rfl 27 (by kernel_rfl) ((u8s_size _).trans hmb.len) ?_))
          refine (isProductFor_c p n' m' k' _ (cat3 FA FB FC) hp0 hmb (by simp [sizeB]; omega) (by simp [sizeB]; omega) (by simp [sizeB]; omega) _).mono ?_
          rintro e w7 ⟨rfl, b7x⟩
          rw [HPr.out]
          replace hK := hK.after b7x
          replace h0 := h0.after b7x
          replace h7 := h7.after b7x
          replace h8 := h8.after b7x
          replace h9 := h9.after b7x
          replace hq6 := At.after hq6 b7x
          clear b7x hyb
          cases hz : nzB (cat3 FA FB FC) with
          | false =>
            have HQ := Lib.hid hz
            clear hz
            go_wp2_with fail
            exact ⟨⟨j + 1, _, by omega, by go_num, by rw [HF.out, HQ.out]; simpa using hK, h0, h7, h8, h9⟩, by simp [intOf]; omega⟩
          | true =>
            have HQ := Lib.hid hz
            clear hz
            have c4 := hK.c4
            go_wp2_with (first | (refine wpList_load_all rfl 49 _ rfl w6.heap.size rfl _ _ _ hq6 Try.underlying49 rfl 27 (by kernel_rfl) ((u8s_size _).trans hmb.len) ?_) | (refine wpList_buildSlice1 rfl _ 49 _ rfl (cat3 FA FB FC) rfl Try.underlying26 infoProd hmb.len ?_; intro W7 n7; replace hK := hK.new n7; replace h0 := n7.old h0; replace h7 := n7.old h7; replace h8 := n7.old h8; replace h9 := n7.old h9; have hRq := Rd.one n7 hmb; have lW := hK.box.lt) | (at_builtin; refine wpList_append_rd rfl _ rfl _ _ rfl (.slice A1 F.length c1) F [cat3 FA FB FC] rfl hK.own (some ⟨_, 0, none⟩) 1 rfl hRq (by simp) (by simp; omega) (by omega) ?_; intro v1 W8 ho8 gr8; have G := hK.grow2 gr8 ho8; have hv1 := ho8.shp.cells; replace h0 := h0.grown gr8 (hK.own.off h0 (by decide)); replace h7 := h7.grown gr8 (hK.own.off h7 (by decide)); replace h8 := h8.grown gr8 (hK.own.off h8 (by decide)); replace h9 := h9.grown gr8 (hK.own.off h9 (by decide)); clear gr8) | (refine wpList_store_one rfl 26 _ _ rfl rfl w3.heap.size 4 rfl v1 rfl hv1.1 hv1.2 _ _ G.2.2 (by kernel_rfl) (by simp) ?_; intro W9 p9; replace h0 := p9.other h0 (by omega); replace h7 := p9.other h7 (by omega); replace h8 := p9.other h8 (by omega); replace h9 := p9.other h9 (by omega)))
            exact ⟨⟨j + 1, v1, by omega, by go_num, by rw [HF.out, HQ.out]; exact KB.put G (by omega) (by omega) (by exact p9), h0, h7, h8, h9⟩, by simp [intOf]; omega⟩
    · obtain rfl : j = qs.length := by omega
      rw [← hpl, List.take_length] at hK
      have c4 := hK.c4
      go_wp2_with fail
      go_ret
      refine ⟨v, rfl, ?_, hK.below⟩
      rw [HPS.out]
      exact hK.own.mono (by omega)
end Go.Proofs.Ytelicajipilhjaa
