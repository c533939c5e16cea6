/-
  impl.turnedProduct, transposedProduct. (Made by mktr3.py.)
-/
import Derived.Test.YtolbkaojhkgidaaTr2
import Derived.Test.YtolbkaojhkgidaaLK1
namespace Go.Proofs.Ytolbkaojhkgidaa
open Go.RowKit
set_option maxRecDepth 100000
def turQ (n m k : Nat) (q : List Nat) : List Nat := cat3 (segm q 9 9) (trF n k (segm q 18 9)) (trF n m (segm q 0 9))
theorem turQ_bytes {n m k : Nat} {q : List Nat} (hq : Bytes 27 q) : Bytes 27 (turQ n m k q) := bytes3 (segm_bytes hq (by omega)) (trF_bytes _ _ (segm_bytes hq (by omega))) (trF_bytes _ _ (segm_bytes hq (by omega)))
def traQ (n m k : Nat) (q : List Nat) : List Nat := cat3 (trF m k (segm q 9 9)) (trF n m (segm q 0 9)) (trF n k (segm q 18 9))
theorem traQ_bytes {n m k : Nat} {q : List Nat} (hq : Bytes 27 q) : Bytes 27 (traQ n m k q) := bytes3 (trF_bytes _ _ (segm_bytes hq (by omega))) (trF_bytes _ _ (segm_bytes hq (by omega))) (trF_bytes _ _ (segm_bytes hq (by omega)))
set_option maxHeartbeats 1600000 in
theorem turnedProduct_c (p : Int) (n m k : Nat) (V : Value) (q : List Nat) (hq : Bytes 27 q) (w : World) (hn : 1 ≤ n ∧ n ≤ 3) (hm : 1 ≤ m ∧ m ≤ 3) (hk : 1 ≤ k ∧ k ≤ 3) :
    Calls Try.prog 19 #[.agg #[.int .i64 p, .int .i64 n, .int .i64 m, .int .i64 k, V], .agg (u8s q)] w fun e w' => e = .returned (.agg (u8s (turQ n m k q))) ∧ Below w.heap.size w w' := by
  obtain ⟨n1, n3⟩ := hn
  obtain ⟨m1, m3⟩ := hm
  obtain ⟨k1, k3⟩ := hk
  have HQ : Hid (turQ n m k q = turQ n m k q) := Lib.hid rfl
  obtain ⟨QA, QB, QC, rfl, hQA, hQB, hQC⟩ := parts3 hq
  replace HQ : Hid (turQ n m k (cat3 QA QB QC) = cat3 QB (trF n k QC) (trF n m QA)) := Lib.hid (by unfold turQ; rw [segm_a hQA.len, segm_b hQA.len hQB.len, segm_c hQA.len hQB.len hQC.len])
  have l27 : 27 ≤ (cat3 QA QB QC).length := by rw [hq.len]; exact Nat.le_refl _
  have HC := Lib.hid (fun w => transposedForm_c QC n k hQC w (by omega) (by omega) (by omega) (by omega))
  have hFC := trF_bytes n k hQC
  generalize trF n k QC = FC at *
  have HA := Lib.hid (fun w => transposedForm_c QA n m hQA w (by omega) (by omega) (by omega) (by omega))
  have hFA := trF_bytes n m hQA
  generalize trF n m QA = FA at *
  have hR := bytes3 hQB hFC hFA
  go_enter Try.func19, Try.ntmps19
  go_wp2_with (first | (refine wpList_abs3 ?_; intro W hsz hB h0 h1 h2) | (refine wpList_load_all rfl 28 _ rfl w.heap.size rfl _ _ _ h0 Try.underlying28 rfl 5 (by kernel_rfl) rfl ?_))
  refine (shapesOf_c p n m k V _).mono ?_
  rintro e w1 ⟨rfl, b1⟩
  have z1 : w.heap.size + 1 + 1 + 1 ≤ w1.heap.size := size_after (Nat.le_of_eq hsz.symm) b1
  replace h1 := h1.after b1
  replace h2 := h2.after b1
  replace hB := below_after hB b1
  clear b1 hsz h0
  have hS := al1_0 w1 (.cells #[.int .i64 n, .int .i64 m, .int .i64 m, .int .i64 k, .int .i64 n, .int .i64 k] 58 (0, 0))
  have bx := below1 w1 (.cells #[.int .i64 n, .int .i64 m, .int .i64 m, .int .i64 k, .int .i64 n, .int .i64 k] 58 (0, 0))
  replace h1 := h1.after bx
  replace h2 := h2.after bx
  replace hB := below_after hB bx
  obtain ⟨g, hg⟩ : ∃ g, w1.heap.size = g := ⟨_, rfl⟩
  have hgl : w.heap.size + 1 + 1 + 1 ≤ g := by omega
  rw [hg] at hS
  clear bx z1
  go_wp2_with fail
  try rw [hg]
  refine wp_region_held (S := fun w' => At w' (w.heap.size + 1) (.cells (u8s (cat3 QA QB QC)) 40 (0, 0)) ∧ At w' g (.cells #[.int .i64 n, .int .i64 m, .int .i64 m, .int .i64 k, .int .i64 n, .int .i64 k] 58 (0, 0))) (by kernel_rfl) ?_
  change wpAnyH _ _ _ _ _ _ _ _ (World.drew _)
  generalize hwdc : World.drew _ = wdc
  replace hB : Below w.heap.size w wdc := by rw [← hwdc]; exact hB.drew
  replace h1 : At wdc (w.heap.size + 1) (.cells (u8s (cat3 QA QB QC)) 40 (0, 0)) := by rw [← hwdc]; exact h1
  replace hS : At wdc g (.cells #[.int .i64 n, .int .i64 m, .int .i64 m, .int .i64 k, .int .i64 n, .int .i64 k] 58 (0, 0)) := by rw [← hwdc]; exact hS
  replace h2 : At wdc (w.heap.size + 1 + 1) (.cells (u8s (List.replicate 27 0)) 40 (0, 0)) := by rw [← hwdc]; exact h2
  clear hwdc
  refine held_yield 0 (some 8) (.pointer (some ⟨w.heap.size + 1, 9, none⟩)) rfl (by kernel_rfl) (by kernel_rfl) (by kernel_rfl) (fun _ _ _ h => h) rfl rfl ⟨h1, hS⟩ (fun w' h' => exec_fieldAddr 40 _ 1 rfl _ (by kernel_rfl)) ?_
  go_frame
  refine held_yield 1 (some 9) (.agg (u8s QB)) rfl (by kernel_rfl) (by kernel_rfl) (by kernel_rfl) (fun _ _ _ h => h) rfl rfl ⟨h1, hS⟩ (fun w' h' => exec_load_seg 38 _ rfl (w.heap.size + 1) 9 rfl _ (cat3 QA QB QC) _ 9 h'.1 Try.underlying38 rfl (by kernel_rfl) (by omega) _ (segm_b hQA.len hQB.len)) ?_
  go_frame
  refine held_yield 2 (some 10) (.pointer (some ⟨w.heap.size + 1, 18, none⟩)) rfl (by kernel_rfl) (by kernel_rfl) (by kernel_rfl) (fun _ _ _ h => h) rfl rfl ⟨h1, hS⟩ (fun w' h' => exec_fieldAddr 40 _ 2 rfl _ (by kernel_rfl)) ?_
  go_frame
  refine held_yield 3 (some 11) (.agg (u8s QC)) rfl (by kernel_rfl) (by kernel_rfl) (by kernel_rfl) (fun _ _ _ h => h) rfl rfl ⟨h1, hS⟩ (fun w' h' => exec_load_seg 38 _ rfl (w.heap.size + 1) 18 rfl _ (cat3 QA QB QC) _ 9 h'.1 Try.underlying38 rfl (by kernel_rfl) (by omega) _ (segm_c hQA.len hQB.len hQC.len)) ?_
  go_frame
  refine held_yield 4 (some 12) (.pointer (some ⟨g, 4, none⟩)) rfl (by kernel_rfl) (by kernel_rfl) (by kernel_rfl) (fun _ _ _ h => h) rfl rfl ⟨h1, hS⟩ (fun w' h' => exec_index_arr _ 57 _ _ rfl g 0 3 2 2 rfl rfl Try.underlying58 (by kernel_rfl) (by omega)) ?_
  go_frame
  refine held_yield 5 (some 13) (.agg #[.int .i64 n, .int .i64 k]) rfl (by kernel_rfl) (by kernel_rfl) (by kernel_rfl) (fun _ _ _ h => h) rfl rfl ⟨h1, hS⟩ (fun w' h' => exec_load_lit 57 _ rfl g 4 rfl _ _ _ 2 h'.2 Try.underlying57 rfl (by kernel_rfl) (by simp) _ rfl) ?_
  go_frame
  refine held_yield 7 (some 15) (.pointer (some ⟨w.heap.size + 1, 0, none⟩)) rfl (by kernel_rfl) (by kernel_rfl) (by kernel_rfl) (fun _ _ _ h => h) rfl rfl ⟨h1, hS⟩ (fun w' h' => exec_fieldAddr 40 _ 0 rfl _ (by kernel_rfl)) ?_
  go_frame
  refine held_yield 8 (some 16) (.agg (u8s QA)) rfl (by kernel_rfl) (by kernel_rfl) (by kernel_rfl) (fun _ _ _ h => h) rfl rfl ⟨h1, hS⟩ (fun w' h' => exec_load_seg 38 _ rfl (w.heap.size + 1) 0 rfl _ (cat3 QA QB QC) _ 9 h'.1 Try.underlying38 rfl (by kernel_rfl) (by omega) _ (segm_a hQA.len)) ?_
  go_frame
  refine held_yield 9 (some 17) (.pointer (some ⟨g, 0, none⟩)) rfl (by kernel_rfl) (by kernel_rfl) (by kernel_rfl) (fun _ _ _ h => h) rfl rfl ⟨h1, hS⟩ (fun w' h' => exec_index_arr _ 57 _ _ rfl g 0 3 0 2 rfl rfl Try.underlying58 (by kernel_rfl) (by omega)) ?_
  go_frame
  refine held_yield 10 (some 18) (.agg #[.int .i64 n, .int .i64 m]) rfl (by kernel_rfl) (by kernel_rfl) (by kernel_rfl) (fun _ _ _ h => h) rfl rfl ⟨h1, hS⟩ (fun w' h' => exec_load_lit 57 _ rfl g 0 rfl _ _ _ 2 h'.2 Try.underlying57 rfl (by kernel_rfl) (by simp) _ rfl) ?_
  go_frame
  refine held_oper 6 (by kernel_rfl) rfl rfl (fun K' hK' => ?_)
  refine wp_call2 (some 14) rfl 31 _ _ _ rfl (fun args w => by kernel_rfl) _ _ rfl rfl _ (HC.out _) (fun e wnc1 h => ?_)
  obtain ⟨rfl, bc2⟩ := h
  replace hB := below_after hB bc2
  replace h1 := h1.after bc2
  replace hS := hS.after bc2
  replace h2 := h2.after bc2
  clear bc2
  refine ⟨_, rfl, hK' _ _ ⟨h1, hS⟩ ?_⟩
  clear hK' K'
  go_frame
  refine held_oper 11 (by kernel_rfl) rfl rfl (fun K' hK' => ?_)
  refine wp_call2 (some 19) rfl 31 _ _ _ rfl (fun args w => by kernel_rfl) _ _ rfl rfl _ (HA.out _) (fun e wnc3 h => ?_)
  obtain ⟨rfl, bc4⟩ := h
  replace hB := below_after hB bc4
  replace h1 := h1.after bc4
  replace hS := hS.after bc4
  replace h2 := h2.after bc4
  clear bc4
  refine ⟨_, rfl, hK' _ _ ⟨h1, hS⟩ ?_⟩
  clear hK' K'
  go_frame
  refine held_yield 12 (some 20) (.agg (u8s (cat3 QB FC FA))) rfl (by kernel_rfl) (by kernel_rfl) (by kernel_rfl) (fun _ _ _ h => h) rfl rfl ⟨h1, hS⟩ (fun w' h' => exec_prod _ _ _ rfl QB FC FA rfl rfl rfl hQB.len hFC.len hFA.len) ?_
  go_frame
  refine held_oper 13 (by kernel_rfl) rfl rfl (fun K' hK' => ?_)
  refine wp_store_bytes 40 _ _ rfl rfl (w.heap.size + 1 + 1) rfl (cat3 QB FC FA) rfl _ _ h2 27 (by kernel_rfl) hR.len (by simp) (fun ws ps => ?_)
  replace hB := ps.below hB (by omega)
  replace h1 := ps.other h1 (by omega)
  replace hS := ps.other hS (by omega)
  replace h2 := ps.at_
  clear ps
  refine hK' _ _ ⟨h1, hS⟩ ?_
  clear hK' K'
  refine wpAnyH_done (by kernel_rfl) ?_ _
  go_wp2_with fail
  refine bodyPost_ret (results_at rfl _ _ (w.heap.size + 1 + 1) _ _ _ rfl h2 Try.underlying40 rfl 27 (by kernel_rfl) ((u8s_size _).trans hR.len)) rfl ?_
  exact ⟨by rw [HQ.out], hB⟩
set_option maxHeartbeats 1600000 in
theorem transposedProduct_c (p : Int) (n m k : Nat) (V : Value) (q : List Nat) (hq : Bytes 27 q) (w : World) (hn : 1 ≤ n ∧ n ≤ 3) (hm : 1 ≤ m ∧ m ≤ 3) (hk : 1 ≤ k ∧ k ≤ 3) :
    Calls Try.prog 23 #[.agg #[.int .i64 p, .int .i64 n, .int .i64 m, .int .i64 k, V], .agg (u8s q)] w fun e w' => e = .returned (.agg (u8s (traQ n m k q))) ∧ Below w.heap.size w w' := by
  obtain ⟨n1, n3⟩ := hn
  obtain ⟨m1, m3⟩ := hm
  obtain ⟨k1, k3⟩ := hk
  have HQ : Hid (traQ n m k q = traQ n m k q) := Lib.hid rfl
  obtain ⟨QA, QB, QC, rfl, hQA, hQB, hQC⟩ := parts3 hq
  replace HQ : Hid (traQ n m k (cat3 QA QB QC) = cat3 (trF m k QB) (trF n m QA) (trF n k QC)) := Lib.hid (by unfold traQ; rw [segm_a hQA.len, segm_b hQA.len hQB.len, segm_c hQA.len hQB.len hQC.len])
  have l27 : 27 ≤ (cat3 QA QB QC).length := by rw [hq.len]; exact Nat.le_refl _
  have HB := Lib.hid (fun w => transposedForm_c QB m k hQB w (by omega) (by omega) (by omega) (by omega))
  have hFB := trF_bytes m k hQB
  generalize trF m k QB = FB at *
  have HA := Lib.hid (fun w => transposedForm_c QA n m hQA w (by omega) (by omega) (by omega) (by omega))
  have hFA := trF_bytes n m hQA
  generalize trF n m QA = FA at *
  have HC := Lib.hid (fun w => transposedForm_c QC n k hQC w (by omega) (by omega) (by omega) (by omega))
  have hFC := trF_bytes n k hQC
  generalize trF n k QC = FC at *
  have hR := bytes3 hFB hFA hFC
  go_enter Try.func23, Try.ntmps23
  go_wp2_with (first | (refine wpList_abs3 ?_; intro W hsz hB h0 h1 h2) | (refine wpList_load_all rfl 28 _ rfl w.heap.size rfl _ _ _ h0 Try.underlying28 rfl 5 (by kernel_rfl) rfl ?_))
  refine (shapesOf_c p n m k V _).mono ?_
  rintro e w1 ⟨rfl, b1⟩
  have z1 : w.heap.size + 1 + 1 + 1 ≤ w1.heap.size := size_after (Nat.le_of_eq hsz.symm) b1
  replace h1 := h1.after b1
  replace h2 := h2.after b1
  replace hB := below_after hB b1
  clear b1 hsz h0
  have hS := al1_0 w1 (.cells #[.int .i64 n, .int .i64 m, .int .i64 m, .int .i64 k, .int .i64 n, .int .i64 k] 58 (0, 0))
  have bx := below1 w1 (.cells #[.int .i64 n, .int .i64 m, .int .i64 m, .int .i64 k, .int .i64 n, .int .i64 k] 58 (0, 0))
  replace h1 := h1.after bx
  replace h2 := h2.after bx
  replace hB := below_after hB bx
  obtain ⟨g, hg⟩ : ∃ g, w1.heap.size = g := ⟨_, rfl⟩
  have hgl : w.heap.size + 1 + 1 + 1 ≤ g := by omega
  rw [hg] at hS
  clear bx z1
  go_wp2_with fail
  try rw [hg]
  refine wp_region_held (S := fun w' => At w' (w.heap.size + 1) (.cells (u8s (cat3 QA QB QC)) 40 (0, 0)) ∧ At w' g (.cells #[.int .i64 n, .int .i64 m, .int .i64 m, .int .i64 k, .int .i64 n, .int .i64 k] 58 (0, 0))) (by kernel_rfl) ?_
  change wpAnyH _ _ _ _ _ _ _ _ (World.drew _)
  generalize hwdc : World.drew _ = wdc
  replace hB : Below w.heap.size w wdc := by rw [← hwdc]; exact hB.drew
  replace h1 : At wdc (w.heap.size + 1) (.cells (u8s (cat3 QA QB QC)) 40 (0, 0)) := by rw [← hwdc]; exact h1
  replace hS : At wdc g (.cells #[.int .i64 n, .int .i64 m, .int .i64 m, .int .i64 k, .int .i64 n, .int .i64 k] 58 (0, 0)) := by rw [← hwdc]; exact hS
  replace h2 : At wdc (w.heap.size + 1 + 1) (.cells (u8s (List.replicate 27 0)) 40 (0, 0)) := by rw [← hwdc]; exact h2
  clear hwdc
  refine held_yield 0 (some 8) (.pointer (some ⟨w.heap.size + 1, 9, none⟩)) rfl (by kernel_rfl) (by kernel_rfl) (by kernel_rfl) (fun _ _ _ h => h) rfl rfl ⟨h1, hS⟩ (fun w' h' => exec_fieldAddr 40 _ 1 rfl _ (by kernel_rfl)) ?_
  go_frame
  refine held_yield 1 (some 9) (.agg (u8s QB)) rfl (by kernel_rfl) (by kernel_rfl) (by kernel_rfl) (fun _ _ _ h => h) rfl rfl ⟨h1, hS⟩ (fun w' h' => exec_load_seg 38 _ rfl (w.heap.size + 1) 9 rfl _ (cat3 QA QB QC) _ 9 h'.1 Try.underlying38 rfl (by kernel_rfl) (by omega) _ (segm_b hQA.len hQB.len)) ?_
  go_frame
  refine held_yield 2 (some 10) (.pointer (some ⟨g, 2, none⟩)) rfl (by kernel_rfl) (by kernel_rfl) (by kernel_rfl) (fun _ _ _ h => h) rfl rfl ⟨h1, hS⟩ (fun w' h' => exec_index_arr _ 57 _ _ rfl g 0 3 1 2 rfl rfl Try.underlying58 (by kernel_rfl) (by omega)) ?_
  go_frame
  refine held_yield 3 (some 11) (.agg #[.int .i64 m, .int .i64 k]) rfl (by kernel_rfl) (by kernel_rfl) (by kernel_rfl) (fun _ _ _ h => h) rfl rfl ⟨h1, hS⟩ (fun w' h' => exec_load_lit 57 _ rfl g 2 rfl _ _ _ 2 h'.2 Try.underlying57 rfl (by kernel_rfl) (by simp) _ rfl) ?_
  go_frame
  refine held_yield 5 (some 13) (.pointer (some ⟨w.heap.size + 1, 0, none⟩)) rfl (by kernel_rfl) (by kernel_rfl) (by kernel_rfl) (fun _ _ _ h => h) rfl rfl ⟨h1, hS⟩ (fun w' h' => exec_fieldAddr 40 _ 0 rfl _ (by kernel_rfl)) ?_
  go_frame
  refine held_yield 6 (some 14) (.agg (u8s QA)) rfl (by kernel_rfl) (by kernel_rfl) (by kernel_rfl) (fun _ _ _ h => h) rfl rfl ⟨h1, hS⟩ (fun w' h' => exec_load_seg 38 _ rfl (w.heap.size + 1) 0 rfl _ (cat3 QA QB QC) _ 9 h'.1 Try.underlying38 rfl (by kernel_rfl) (by omega) _ (segm_a hQA.len)) ?_
  go_frame
  refine held_yield 7 (some 15) (.pointer (some ⟨g, 0, none⟩)) rfl (by kernel_rfl) (by kernel_rfl) (by kernel_rfl) (fun _ _ _ h => h) rfl rfl ⟨h1, hS⟩ (fun w' h' => exec_index_arr _ 57 _ _ rfl g 0 3 0 2 rfl rfl Try.underlying58 (by kernel_rfl) (by omega)) ?_
  go_frame
  refine held_yield 8 (some 16) (.agg #[.int .i64 n, .int .i64 m]) rfl (by kernel_rfl) (by kernel_rfl) (by kernel_rfl) (fun _ _ _ h => h) rfl rfl ⟨h1, hS⟩ (fun w' h' => exec_load_lit 57 _ rfl g 0 rfl _ _ _ 2 h'.2 Try.underlying57 rfl (by kernel_rfl) (by simp) _ rfl) ?_
  go_frame
  refine held_yield 10 (some 18) (.pointer (some ⟨w.heap.size + 1, 18, none⟩)) rfl (by kernel_rfl) (by kernel_rfl) (by kernel_rfl) (fun _ _ _ h => h) rfl rfl ⟨h1, hS⟩ (fun w' h' => exec_fieldAddr 40 _ 2 rfl _ (by kernel_rfl)) ?_
  go_frame
  refine held_yield 11 (some 19) (.agg (u8s QC)) rfl (by kernel_rfl) (by kernel_rfl) (by kernel_rfl) (fun _ _ _ h => h) rfl rfl ⟨h1, hS⟩ (fun w' h' => exec_load_seg 38 _ rfl (w.heap.size + 1) 18 rfl _ (cat3 QA QB QC) _ 9 h'.1 Try.underlying38 rfl (by kernel_rfl) (by omega) _ (segm_c hQA.len hQB.len hQC.len)) ?_
  go_frame
  refine held_yield 12 (some 20) (.pointer (some ⟨g, 4, none⟩)) rfl (by kernel_rfl) (by kernel_rfl) (by kernel_rfl) (fun _ _ _ h => h) rfl rfl ⟨h1, hS⟩ (fun w' h' => exec_index_arr _ 57 _ _ rfl g 0 3 2 2 rfl rfl Try.underlying58 (by kernel_rfl) (by omega)) ?_
  go_frame
  refine held_yield 13 (some 21) (.agg #[.int .i64 n, .int .i64 k]) rfl (by kernel_rfl) (by kernel_rfl) (by kernel_rfl) (fun _ _ _ h => h) rfl rfl ⟨h1, hS⟩ (fun w' h' => exec_load_lit 57 _ rfl g 4 rfl _ _ _ 2 h'.2 Try.underlying57 rfl (by kernel_rfl) (by simp) _ rfl) ?_
  go_frame
  refine held_oper 4 (by kernel_rfl) rfl rfl (fun K' hK' => ?_)
  refine wp_call2 (some 12) rfl 31 _ _ _ rfl (fun args w => by kernel_rfl) _ _ rfl rfl _ (HB.out _) (fun e wnc1 h => ?_)
  obtain ⟨rfl, bc2⟩ := h
  replace hB := below_after hB bc2
  replace h1 := h1.after bc2
  replace hS := hS.after bc2
  replace h2 := h2.after bc2
  clear bc2
  refine ⟨_, rfl, hK' _ _ ⟨h1, hS⟩ ?_⟩
  clear hK' K'
  go_frame
  refine held_oper 9 (by kernel_rfl) rfl rfl (fun K' hK' => ?_)
  refine wp_call2 (some 17) rfl 31 _ _ _ rfl (fun args w => by kernel_rfl) _ _ rfl rfl _ (HA.out _) (fun e wnc3 h => ?_)
  obtain ⟨rfl, bc4⟩ := h
  replace hB := below_after hB bc4
  replace h1 := h1.after bc4
  replace hS := hS.after bc4
  replace h2 := h2.after bc4
  clear bc4
  refine ⟨_, rfl, hK' _ _ ⟨h1, hS⟩ ?_⟩
  clear hK' K'
  go_frame
  refine held_oper 14 (by kernel_rfl) rfl rfl (fun K' hK' => ?_)
  refine wp_call2 (some 22) rfl 31 _ _ _ rfl (fun args w => by kernel_rfl) _ _ rfl rfl _ (HC.out _) (fun e wnc5 h => ?_)
  obtain ⟨rfl, bc6⟩ := h
  replace hB := below_after hB bc6
  replace h1 := h1.after bc6
  replace hS := hS.after bc6
  replace h2 := h2.after bc6
  clear bc6
  refine ⟨_, rfl, hK' _ _ ⟨h1, hS⟩ ?_⟩
  clear hK' K'
  go_frame
  refine held_yield 15 (some 23) (.agg (u8s (cat3 FB FA FC))) rfl (by kernel_rfl) (by kernel_rfl) (by kernel_rfl) (fun _ _ _ h => h) rfl rfl ⟨h1, hS⟩ (fun w' h' => exec_prod _ _ _ rfl FB FA FC rfl rfl rfl hFB.len hFA.len hFC.len) ?_
  go_frame
  refine held_oper 16 (by kernel_rfl) rfl rfl (fun K' hK' => ?_)
  refine wp_store_bytes 40 _ _ rfl rfl (w.heap.size + 1 + 1) rfl (cat3 FB FA FC) rfl _ _ h2 27 (by kernel_rfl) hR.len (by simp) (fun ws ps => ?_)
  replace hB := ps.below hB (by omega)
  replace h1 := ps.other h1 (by omega)
  replace hS := ps.other hS (by omega)
  replace h2 := ps.at_
  clear ps
  refine hK' _ _ ⟨h1, hS⟩ ?_
  clear hK' K'
  refine wpAnyH_done (by kernel_rfl) ?_ _
  go_wp2_with fail
  refine bodyPost_ret (results_at rfl _ _ (w.heap.size + 1 + 1) _ _ _ rfl h2 Try.underlying40 rfl 27 (by kernel_rfl) ((u8s_size _).trans hR.len)) rfl ?_
  exact ⟨by rw [HQ.out], hB⟩
end Go.Proofs.Ytolbkaojhkgidaa
