/-
  Exact schemes: spec.l08Exact; impl.exactTwig, exactOf. (Made by mktwe.py.)
-/
import Derived.Test.YtnlidegmllcdhaaTwC
import Derived.Test.YtnlidegmllcdhaaHeldT
import Derived.Test.YtnlidegmllcdhaaRK
namespace Go.Proofs.Ytnlidegmllcdhaa
open Go.RowKit
set_option maxRecDepth 100000

/-- A product of the exact scheme of h, made of the powers i of A and j of B, and the rest of C. -/
def prQ (h : Nat) (t : List Nat) (i j : Nat) : List Nat := cat3 (partL (segm t 0 36) i) (partL (segm t 36 36) j) (partL (segm t 72 36) (h - (i + j)))
def pr (h : Nat) (t : List Nat) (i j : Nat) : List (List Nat) := if i + j ≤ h ∧ h - (i + j) ≤ 3 ∧ nzB (prQ h t i j) = true then [prQ h t i j] else []
def exR (h : Nat) (t : List Nat) (i : Nat) : Nat → List (List Nat)
  | 0 => []
  | j + 1 => exR h t i j ++ pr h t i j
def exI (h : Nat) (t : List Nat) : Nat → List (List Nat)
  | 0 => []
  | i + 1 => exI h t i ++ exR h t i 4
def exL (h : Nat) (ts : List (List Nat)) : List (List Nat) := ts.flatMap fun t => exI h t 4
/-- The list behind so many products of a twig. -/
def exS (pre : List (List Nat)) (h : Nat) (t : List Nat) (i j : Nat) : List (List Nat) := pre ++ (exI h t i ++ exR h t i j)
theorem prQ_bytes {t : List Nat} (ht : Bytes 108 t) (h i j : Nat) : Bytes 27 (prQ h t i j) := bytes3 (partL_bytes (segm_bytes ht (by omega)) _) (partL_bytes (segm_bytes ht (by omega)) _) (partL_bytes (segm_bytes ht (by omega)) _)
theorem pr_len (h : Nat) (t : List Nat) (i j : Nat) : (pr h t i j).length ≤ 1 := by unfold pr; split <;> simp
theorem pr_bytes {t : List Nat} (ht : Bytes 108 t) (h i j : Nat) : ∀ q ∈ pr h t i j, Bytes 27 q := by
  unfold pr
  split
  · intro q hq; simp at hq; subst hq; exact prQ_bytes ht h i j
  · simp
theorem exR_len (h : Nat) (t : List Nat) (i : Nat) : ∀ j, (exR h t i j).length ≤ j
  | 0 => by simp [exR]
  | j + 1 => by
    have h1 := exR_len h t i j
    have h2 := pr_len h t i j
    simp only [exR, List.length_append]
    omega
theorem exI_len (h : Nat) (t : List Nat) : ∀ i, (exI h t i).length ≤ 4 * i
  | 0 => by simp [exI]
  | i + 1 => by
    have h1 := exI_len h t i
    have h2 := exR_len h t i 4
    simp only [exI, List.length_append]
    omega
theorem exR_bytes {t : List Nat} (ht : Bytes 108 t) (h i : Nat) : ∀ j, ∀ q ∈ exR h t i j, Bytes 27 q
  | 0 => by simp [exR]
  | j + 1 => fun q hq => by
    simp only [exR, List.mem_append] at hq
    rcases hq with hq | hq
    · exact exR_bytes ht h i j q hq
    · exact pr_bytes ht h i j q hq
theorem exI_bytes {t : List Nat} (ht : Bytes 108 t) (h : Nat) : ∀ i, ∀ q ∈ exI h t i, Bytes 27 q
  | 0 => by simp [exI]
  | i + 1 => fun q hq => by
    simp only [exI, List.mem_append] at hq
    rcases hq with hq | hq
    · exact exI_bytes ht h i q hq
    · exact exR_bytes ht h i 4 q hq
theorem exL_bytes {ts : List (List Nat)} (hts : ∀ t ∈ ts, Bytes 108 t) (h : Nat) : ∀ q ∈ exL h ts, Bytes 27 q := fun q hq => by
  obtain ⟨t, ht, hq⟩ := List.mem_flatMap.1 hq
  exact exI_bytes (hts t ht) h 4 q hq
theorem exL_step {h : Nat} {ts : List (List Nat)} {a : Nat} (ha : a < ts.length) : exL h (ts.take (a + 1)) = exL h (ts.take a) ++ exI h ts[a] 4 := by
  unfold exL
  rw [List.take_add_one, List.getElem?_eq_getElem ha, List.flatMap_append]
  simp
theorem exL_len (h : Nat) (ts : List (List Nat)) : ∀ a, a ≤ ts.length → (exL h (ts.take a)).length ≤ 16 * a
  | 0, _ => by simp [exL]
  | a + 1, ha => by
    rw [exL_step (show a < ts.length by omega), List.length_append]
    have h1 := exL_len h ts a (by omega)
    have h2 := exI_len h ts[a] 4
    omega
theorem exS_len {pre : List (List Nat)} {h : Nat} {t : List Nat} {i j : Nat} : (exS pre h t i j).length ≤ pre.length + (4 * i + j) := by
  have h1 := exI_len h t i
  have h2 := exR_len h t i j
  simp only [exS, List.length_append]
  omega
theorem exS_start (pre : List (List Nat)) (h : Nat) (t : List Nat) : exS pre h t 0 0 = pre := by simp [exS, exI, exR]
theorem exS_row (pre : List (List Nat)) (h : Nat) (t : List Nat) (i : Nat) : exS pre h t i 4 = exS pre h t (i + 1) 0 := by simp only [exS, exI]; simp [exR]
theorem exS_end (pre : List (List Nat)) (h : Nat) (t : List Nat) : exS pre h t 4 0 = pre ++ exI h t 4 := by simp [exS, exR]
theorem exS_put {pre : List (List Nat)} {h : Nat} {t : List Nat} {i j : Nat} (h1 : i + j ≤ h) (h2 : h - (i + j) ≤ 3) : putL (exS pre h t i j) (prQ h t i j) = exS pre h t i (j + 1) := by
  unfold putL
  simp only [exS, exR, List.append_assoc]
  congr 3
  unfold pr
  by_cases hn : nzB (prQ h t i j) = true
  · rw [if_pos hn, if_pos ⟨h1, h2, hn⟩]
  · rw [if_neg hn, if_neg (fun hh => hn hh.2.2)]
theorem exS_add {pre : List (List Nat)} {h : Nat} {t : List Nat} {i j : Nat} (h1 : i + j ≤ h) (h2 : h - (i + j) ≤ 3) (hn : nzB (prQ h t i j) = true) : exS pre h t i j ++ [prQ h t i j] = exS pre h t i (j + 1) := by
  rw [← exS_put h1 h2]
  unfold putL
  rw [if_pos hn]
theorem exS_skip {pre : List (List Nat)} {h : Nat} {t : List Nat} {i j : Nat} (hno : ¬ (i + j ≤ h ∧ h - (i + j) ≤ 3 ∧ nzB (prQ h t i j) = true)) : exS pre h t i j = exS pre h t i (j + 1) := by
  simp only [exS, exR]
  have : pr h t i j = [] := by unfold pr; rw [if_neg hno]
  rw [this, List.append_nil]
theorem exS_rest {pre : List (List Nat)} {h : Nat} {t : List Nat} {i j : Nat} (hj : j ≤ 4) (hh : j = 4 ∨ h < i + j) : exS pre h t i j = exS pre h t (i + 1) 0 := by
  rw [← exS_row]
  have key : ∀ n j, n + j = 4 → (j = 4 ∨ h < i + j) → exS pre h t i j = exS pre h t i 4 := by
    intro n
    induction n with
    | zero => intro j hn _; rw [show j = 4 by omega]
    | succ n ih =>
      intro j hn hh
      rw [exS_skip (fun hc => by omega)]
      exact ih (j + 1) (by omega) (by omega)
  exact key (4 - j) j (by omega) hh
theorem exR_nil {h : Nat} {t : List Nat} {i : Nat} (hh : h < i) : ∀ j, exR h t i j = []
  | 0 => rfl
  | j + 1 => by
    have h1 : pr h t i j = [] := by unfold pr; rw [if_neg (fun hc => by omega)]
    simp only [exR, exR_nil hh j, h1, List.append_nil]
theorem exI_rest {h : Nat} {t : List Nat} {i : Nat} (hi : i ≤ 4) (hh : i = 4 ∨ h < i) : exI h t i = exI h t 4 := by
  have key : ∀ n i, n + i = 4 → (i = 4 ∨ h < i) → exI h t i = exI h t 4 := by
    intro n
    induction n with
    | zero => intro i hn _; rw [show i = 4 by omega]
    | succ n ih =>
      intro i hn hh
      rw [← ih (i + 1) (by omega) (by omega)]
      simp only [exI]
      rw [exR_nil (by omega), List.append_nil]
  exact key (4 - i) i (by omega) hh
theorem exec_minN {P : Program} {o : Oper} {a : Act} {w : World} (x y : Operand) (t : TypeId) (ho : o.op = .call { callee := .builtin .min, args := #[x, y], argTypes := #[t, t] }) (m n : Nat) (hx : a.eval x = .int .i64 m) (hy : a.eval y = .int .i64 n) :
    (execOp a.eval o).run P w = .ok (.value (.int .i64 ((min m n : Nat) : Int))) w := by
  unfold execOp
  simp only [ho, hx, hy, resolve, invoke, builtin, Sem.run_bind, Sem.run_pure, Result.andThen_ok, List.map_toArray, List.map_cons, List.map_nil]
  simp [go_sem]
  rw [Int.min_def]
  by_cases hmn : m ≤ n
  · rw [if_pos (by omega), Nat.min_eq_left hmn]
  · rw [if_neg (by omega), Nat.min_eq_right (by omega)]
theorem exec_formZ {o : Oper} {a : Act} {w : World} (x i : Operand) (ho : o.op = .indexAddr 62 x i) (b k : Nat) (z : Int) (hx : a.eval x = .pointer (some ⟨b, 0, none⟩)) (hi : a.eval i = .int .i64 z) (hz : z = (k : Int)) (hlt : k < 4) : (execOp a.eval o).run Try.prog w = .ok (.value (.pointer (some ⟨b, k * 9, none⟩))) w := by
  subst hz
  exact exec_index_arr0 62 55 x i ho b 4 k 9 hx hi Try.underlying62 (by kernel_rfl) hlt
theorem exec_load_partE {o : Oper} {a : Act} {w : World} (x : Operand) (ho : o.op = .load 55 x) (g i : Nat) (hx : a.eval x = .pointer (some ⟨g, i * 9, none⟩)) (t : TypeId) (s : List Nat) (hg : At w g (.cells (u8s (partsL s)) t (0, 0))) (hi : i < 4) :
    (execOp a.eval o).run Try.prog w = .ok (.value (.agg (u8s (partL s i)))) w :=
  exec_load_seg (P := Try.prog) (w := w) 55 x ho g (i * 9) hx t (partsL s) _ 9 hg Try.underlying55 rfl (by kernel_rfl) (by rw [partsL_len]; omega) (partL s i) (partsL_seg s i hi)
theorem exec_allocP {o : Oper} {a : Act} {w : World} (ho : o.op = .alloc 62) : (execOp a.eval o).run Try.prog w = .ok (.value (.pointer (some ⟨w.heap.size, 0, none⟩))) (w.alloc (.cells (u8s (List.replicate 36 0)) 62 (0, 0))) := by
  unfold execOp
  rw [ho]
  kernel_rfl
theorem cut_world3 {n : Nat} {w W : World} (_ : Below n w W) : ∃ x : World, x = W := ⟨W, rfl⟩
theorem cellP {w : World} {g i x : Nat} {l : List Nat} {t : TypeId} (h : At w g (.cells (u8s l) t (0, 0))) (hi : i < l.length) (hx : l[i]?.getD 0 = x) : w.cell? ⟨g, i, none⟩ = some (.int .u8 (x : Int)) := by
  rw [← hx]
  exact h.cell hi
attribute [local irreducible] wpList
theorem al_impl_Product {o : Oper} {a : Act} {w : World} (ho : o.op = .alloc 58) : (execOp a.eval o).run Try.prog w = .ok (.value (.pointer (some ⟨w.heap.size, 0, none⟩))) (w.alloc (.cells (u8s (List.replicate 27 0)) 58 (0, 0))) := by
  unfold execOp
  rw [ho]
  kernel_rfl
theorem al_impl_Twig {o : Oper} {a : Act} {w : World} (ho : o.op = .alloc 52) : (execOp a.eval o).run Try.prog w = .ok (.value (.pointer (some ⟨w.heap.size, 0, none⟩))) (w.alloc (.cells (u8s (List.replicate 108 0)) 52 (0, 0))) := by
  unfold execOp
  rw [ho]
  kernel_rfl
set_option maxHeartbeats 12800000 in
theorem l08Part2_c (f : List Nat) (i : Nat) (hf : Bytes 36 f) (hi4 : i < 4) (w : World) :
    Calls Try.prog 64 #[.agg (u8s f), .int .i64 (i : Int)] w (fun e w' => e = .returned (.agg (u8s (partL f i))) ∧ Below w.heap.size w w') := by
  have hB := Below.refl w.heap.size w
  have HF := Lib.hid hf.len
  go_enter Try.func64, Try.ntmps64
  go_upto_region 0 with (fail)
  refine wp_region_lit ?_
  refine ls_op rfl (fun K' hK' => ?_)
  have lz1 := hB.size
  refine wp_new (some 2) rfl (exec_box 50 _ rfl (u8s (f)) rfl) (fun Wz2 nnz3 => ?_)
  have bz4 := nnz3.below (Below.refl _ _) (Nat.le_refl _)
  replace hB := below_after hB bz4
  have hz5 : At Wz2 w.heap.size (.cells (u8s (f)) 50 (0, 0)) := nnz3.at_
  refine hK' _ _ ?_
  clear hK' K' nnz3 bz4
  go_frame
  refine ls_op rfl (fun K' hK' => ?_)
  have lz6 := hB.size
  have lz7 := hz5.lt
  refine wp_new (some 4) rfl (al_impl_Form rfl) (fun Wz8 nnz9 => ?_)
  have bz10 := nnz9.below (Below.refl _ _) (Nat.le_refl _)
  replace hB := below_after hB bz10
  replace hz5 := hz5.after bz10
  have hz11 : At Wz8 Wz2.heap.size (.cells (u8s (List.replicate 9 0)) 55 (0, 0)) := nnz9.at_
  refine hK' _ _ ?_
  clear hK' K' nnz9 bz10
  go_frame
  refine wpList_nil ?_
  go_upto_region 1 with (fail)
  refine wp_region_lit ?_
  refine ls_ex (some 7) (.agg (u8s (List.replicate 9 0))) rfl rfl (exec_build_nil 55 rfl _ (by kernel_rfl)) ?_
  go_frame
  refine ls_op rfl (fun K' hK' => ?_)
  have lz12 := hB.size
  have lz13 := hz5.lt
  have lz14 := hz11.lt
  refine wp_new (some 5) rfl (al_impl_Form rfl) (fun Wz15 nnz16 => ?_)
  have bz17 := nnz16.below (Below.refl _ _) (Nat.le_refl _)
  replace hB := below_after hB bz17
  replace hz5 := hz5.after bz17
  replace hz11 := hz11.after bz17
  have hz18 : At Wz15 Wz8.heap.size (.cells (u8s (List.replicate 9 0)) 55 (0, 0)) := nnz16.at_
  refine hK' _ _ ?_
  clear hK' K' nnz16 bz17
  go_frame
  refine ls_op rfl (fun K' hK' => ?_)
  refine wp_store_bytes 55 _ _ rfl rfl Wz8.heap.size rfl (List.replicate 9 0) rfl _ _ hz18 9 (by kernel_rfl) (by simp) (by simp) (fun Wz19 pz20 => ?_)
  replace hB := pz20.below hB (by omega)
  replace hz5 := pz20.other hz5 (by omega)
  replace hz11 := pz20.other hz11 (by omega)
  replace hz18 : At Wz19 Wz8.heap.size (.cells (u8s (List.replicate 9 0)) 55 (0, 0)) := pz20.at_
  refine hK' _ _ ?_
  clear hK' K' pz20
  refine wpList_nil ?_
  go_upto_region 2 with (fail)
  refine wp_region_lit ?_
  refine ls_ex (some 6) (.int .i64 0) rfl rfl (exec_assign _ rfl (.int .i64 0) rfl) ?_
  go_frame
  refine wpList_nil ?_
  go_wp2_with fail
  go_loopw [6] (fun s6 wr => ∃ c : Nat, c ≤ 9 ∧ s6 = .int .i64 c ∧ Below w.heap.size w wr ∧ At wr w.heap.size (.cells (u8s (f)) 50 (0, 0)) ∧ At wr Wz8.heap.size (.cells (u8s ((partL f i).take c ++ List.replicate (9 - c) 0)) 55 (0, 0)) ∧ At wr Wz2.heap.size (.cells (u8s (List.replicate 9 0)) 55 (0, 0))) (fun s6 _ => 9 - (intOf s6).toNat)
  case atStart => exact ⟨0, by omega, rfl, hB, hz5, by rw [List.take_zero]; exact hz18, hz11⟩
  case round =>
    clear hB hz5 hz11 hz18
    obtain ⟨c, hc, rfl, hB, h0, h1, h2⟩ := hrel
    by_cases hc9 : c < 9
    · obtain ⟨x, hx⟩ : ∃ x, f[c * 4 + i]?.getD 0 = x := ⟨_, rfl⟩
      have hcx := cellP h0 (by rw [HF.out]; omega) hx
      have HP : Hid (((partL f i).take c ++ List.replicate (9 - c) 0).set c x = (partL f i).take (c + 1) ++ List.replicate (9 - (c + 1)) 0) := Lib.hid (by rw [← hx, ← partL_get f i c hc9]; exact fill_step (partL_len f i) hc9)
      have hml : ((partL f i).take c ++ List.replicate (9 - c) 0).length = 9 := by rw [List.length_append, List.length_take, partL_len, List.length_replicate]; omega
      have Hml := Lib.hid hml
      clear hx hml
      go_upto_region 3 with (fail)
      refine wp_region_lit ?_
      refine ls_ex (some 8) (.int .i64 c) rfl rfl (exec_move _ rfl (.int .i64 c) rfl) ?_
      go_frame
      refine ls_ex (some 9) (.bool true) rfl rfl (exec_lss _ _ _ _ rfl c 9 rfl rfl true (decide_eq_true (by omega))) ?_
      go_frame
      refine wpList_nil ?_
      go_upto_region 5 with (fail)
      refine wp_region_lit ?_
      refine ls_ex (some 12) (.int .i64 c) rfl rfl (exec_move _ rfl (.int .i64 c) rfl) ?_
      go_frame
      refine ls_ex (some 13) (.int .i64 c) rfl rfl (exec_move _ rfl (.int .i64 c) rfl) ?_
      go_frame
      refine ls_ex (some 14) (.int .i64 i) rfl rfl (exec_move _ rfl (.int .i64 i) rfl) ?_
      go_frame
      refine ls_ex (some 15) (.pointer (some ⟨w.heap.size, c * 4, none⟩)) rfl rfl (exec_index_arr0 50 48 _ _ rfl w.heap.size 9 c 4 rfl rfl Try.underlying50 (by kernel_rfl) hc9) ?_
      go_frame
      refine ls_ex (some 16) (.pointer (some ⟨w.heap.size, c * 4 + i, none⟩)) rfl rfl (exec_index_arr1 48 5 _ _ rfl w.heap.size (c * 4) 4 i rfl rfl Try.underlying48 (by kernel_rfl) hi4) ?_
      go_frame
      refine ls_ex (some 17) (.int .u8 (x : Nat)) rfl rfl (exec_load_one 5 _ rfl w.heap.size (c * 4 + i) rfl (.int .u8 (x : Nat)) _ Try.underlying5 rfl hcx) ?_
      go_frame
      refine ls_ex (some 18) (.pointer (some ⟨Wz8.heap.size, 0 + c, none⟩)) rfl rfl (exec_index_arr1 55 5 _ _ rfl Wz8.heap.size 0 9 c rfl rfl Try.underlying55 (by kernel_rfl) hc9) ?_
      go_frame
      refine ls_op rfl (fun K' hK' => ?_)
      refine wp_store_b1 5 _ _ rfl rfl Wz8.heap.size (0 + c) rfl (x) rfl _ _ h1 (by kernel_rfl) (by rw [Hml.out]; omega) (fun Wz21 pz22 => ?_)
      replace hB := pz22.below hB (by omega)
      replace h0 := pz22.other h0 (by omega)
      replace h2 := pz22.other h2 (by omega)
      replace h1 : At Wz21 Wz8.heap.size (.cells (u8s ((partL f i).take (c + 1) ++ List.replicate (9 - (c + 1)) 0)) 55 (0, 0)) := by have h9 := pz22.at_; rwa [Nat.zero_add, HP.out] at h9
      refine hK' _ _ ?_
      clear hK' K' pz22
      refine wpList_nil ?_
      go_upto_region 4 with (fail)
      refine wp_region_lit ?_
      refine ls_ex (some 10) (.int .i64 c) rfl rfl (exec_move _ rfl (.int .i64 c) rfl) ?_
      go_frame
      refine ls_ex (some 11) (.int .i64 (c + 1)) rfl rfl (exec_add _ _ _ _ rfl c 1 (c + 1) rfl rfl (IntWalk.i64_in _ (by omega))) ?_
      go_frame
      refine ls_ex (some 6) (.int .i64 (c + 1)) rfl rfl (exec_assign _ rfl (.int .i64 (c + 1)) rfl) ?_
      go_frame
      refine wpList_nil ?_
      go_wp2_with fail
      go_roundw
      case rel => exact ⟨c + 1, by omega, by go_num, hB, h0, h1, h2⟩
      case measure => simp [intOf]; omega
    · have HR : Hid ((partL f i).take c ++ List.replicate (9 - c) 0 = partL f i) := Lib.hid (by rw [show c = 9 by omega]; exact fill_end (partL_len f i))
      rw [HR.out] at h1
      go_upto_region 3 with (fail)
      refine wp_region_lit ?_
      refine ls_ex (some 8) (.int .i64 c) rfl rfl (exec_move _ rfl (.int .i64 c) rfl) ?_
      go_frame
      refine ls_ex (some 9) (.bool false) rfl rfl (exec_lss _ _ _ _ rfl c 9 rfl rfl false (decide_eq_false (by omega))) ?_
      go_frame
      refine wpList_nil ?_
      go_upto_region 6 with (fail)
      refine wp_region_lit ?_
      refine ls_ex (some 19) (.agg (u8s (partL f i))) rfl rfl (exec_load_all 55 _ rfl Wz8.heap.size rfl _ _ _ h1 Try.underlying55 rfl 9 (by kernel_rfl) ((u8s_size _).trans (partL_len f i))) ?_
      go_frame
      refine ls_op rfl (fun K' hK' => ?_)
      refine wp_store_bytes 55 _ _ rfl rfl Wz2.heap.size rfl (partL f i) rfl _ _ h2 9 (by kernel_rfl) (partL_len f i) (by simp) (fun Wz23 pz24 => ?_)
      replace hB := pz24.below hB (by omega)
      replace h0 := pz24.other h0 (by omega)
      replace h1 := pz24.other h1 (by omega)
      replace h2 : At Wz23 Wz2.heap.size (.cells (u8s (partL f i)) 55 (0, 0)) := pz24.at_
      refine hK' _ _ ?_
      clear hK' K' pz24
      refine wpList_nil ?_
      go_wp2_with fail
      refine bodyPost_ret (results_at rfl _ _ Wz2.heap.size _ _ _ rfl h2 Try.underlying55 rfl 9 (by kernel_rfl) ((u8s_size _).trans (partL_len f i))) rfl ?_
      exact ⟨rfl, hB⟩
set_option maxHeartbeats 25600000 in
theorem l08Exact_c (p n m k : Int) (A : Option Addr) (c : Nat) (ts : List (List Nat)) (h : Nat) (h9 : h ≤ 9) (w : World) (hR : RdT w A ts) (hlen : ts.length ≤ 30) :
    Calls Try.prog 41 #[.agg #[.int .i64 p, .int .i64 n, .int .i64 m, .int .i64 k, .slice A ts.length c], .int .i64 (h : Int)] w (fun e w' => ∃ v, e = .returned (.agg #[.int .i64 p, .int .i64 n, .int .i64 m, .int .i64 k, v]) ∧ Own w' w.heap.size v (exL h ts) ∧ Below w.heap.size w w') := by
  have hB := Below.refl w.heap.size w
  skip
  go_enter Try.func41, Try.ntmps41
  go_upto_region 0 with (fail)
  refine wp_region_lit ?_
  refine ls_op rfl (fun K' hK' => ?_)
  have lz1 := hB.size
  refine wp_new (some 2) rfl (exec_box 33 _ rfl (#[.int .i64 p, .int .i64 n, .int .i64 m, .int .i64 k, .slice A ts.length c]) rfl) (fun Wz2 nnz3 => ?_)
  have bz4 := nnz3.below (Below.refl _ _) (Nat.le_refl _)
  replace hB := below_after hB bz4
  have hz5 : At Wz2 w.heap.size (.cells #[.int .i64 p, .int .i64 n, .int .i64 m, .int .i64 k, .slice A ts.length c] 33 (0, 0)) := nnz3.at_
  refine hK' _ _ ?_
  clear hK' K' nnz3 bz4
  go_frame
  refine ls_op rfl (fun K' hK' => ?_)
  have lz6 := hB.size
  have lz7 := hz5.lt
  refine wp_new (some 4) rfl (al_impl_Scheme rfl) (fun Wz8 nnz9 => ?_)
  have bz10 := nnz9.below (Below.refl _ _) (Nat.le_refl _)
  replace hB := below_after hB bz10
  replace hz5 := hz5.after bz10
  have hz11 : At Wz8 Wz2.heap.size (.cells #[.int .i64 0, .int .i64 0, .int .i64 0, .int .i64 0, .slice none 0 0] 28 (0, 0)) := nnz9.at_
  refine hK' _ _ ?_
  clear hK' K' nnz9 bz10
  go_frame
  refine wpList_nil ?_
  go_upto_region 1 with (fail)
  refine wp_region_lit ?_
  refine ls_ex (some 11) (.agg #[.int .i64 p, .int .i64 n, .int .i64 m, .int .i64 k, .slice A ts.length c]) rfl rfl (exec_load_all 33 _ rfl w.heap.size rfl _ _ _ hz5 Try.underlying33 rfl 5 (by kernel_rfl) rfl) ?_
  go_frame
  refine ls_op rfl (fun K' hK' => ?_)
  have lz14 := hB.size
  have lz15 := hz5.lt
  have lz16 := hz11.lt
  have lo9 := hB.size
  refine wp_call1 (some 12) rfl 25 _ _ rfl (fun args w => by kernel_rfl) _ rfl _ (l08Like_c p n m k A ts.length c _) (fun e Wz12 h => ?_)
  obtain ⟨v7, rfl, ho, bz13⟩ := h
  replace hB := below_after hB bz13
  replace hz5 := hz5.after bz13
  replace hz11 := hz11.after bz13
  obtain ⟨A7, c7, rfl⟩ := Own.rdN2 ho (n := 0) rfl
  clear bz13
  refine ⟨_, rfl, ?_⟩
  refine hK' _ _ ?_
  clear hK' K'
  go_frame
  refine ls_op rfl (fun K' hK' => ?_)
  have lz17 := hB.size
  have lz18 := hz5.lt
  have lz19 := hz11.lt
  have naz24 := ho.away_new
  refine wp_new (some 5) rfl (al_impl_Scheme rfl) (fun Wz20 nnz21 => ?_)
  have bz22 := nnz21.below (Below.refl _ _) (Nat.le_refl _)
  replace hB := below_after hB bz22
  replace hz5 := hz5.after bz22
  replace hz11 := hz11.after bz22
  replace ho := ho.below bz22
  have hz23 : At Wz20 Wz12.heap.size (.cells #[.int .i64 0, .int .i64 0, .int .i64 0, .int .i64 0, .slice none 0 0] 28 (0, 0)) := nnz21.at_
  refine hK' _ _ ?_
  clear hK' K' nnz21 bz22
  go_frame
  refine ls_op rfl (fun K' hK' => ?_)
  refine wp_store_all 28 _ _ rfl rfl Wz12.heap.size rfl #[.int .i64 p, .int .i64 n, .int .i64 m, .int .i64 k, .slice A7 0 c7] rfl _ _ hz23 5 (by kernel_rfl) rfl rfl (one5 _ _ _ _ _ _ _) (fun Wz25 pz26 => ?_)
  replace hB := pz26.below hB (by omega)
  replace hz5 := pz26.other hz5 (by omega)
  replace hz11 := pz26.other hz11 (by omega)
  replace ho := ho.put pz26 naz24
  replace hz23 : At Wz25 Wz12.heap.size (.cells #[.int .i64 p, .int .i64 n, .int .i64 m, .int .i64 k, .slice A7 0 c7] 28 (0, 0)) := pz26.at_
  refine hK' _ _ ?_
  clear hK' K' pz26
  refine wpList_nil ?_
  go_upto_region 2 with (fail)
  refine wp_region_lit ?_
  refine ls_ex (some 6) (.int .i64 0) rfl rfl (exec_assign _ rfl (.int .i64 0) rfl) ?_
  go_frame
  refine wpList_nil ?_
  go_wp2_with fail
  go_loopw [6] (fun s6 wr => ∃ (a : Nat) (v : Value), a ≤ ts.length ∧ s6 = .int .i64 a ∧ Below w.heap.size w wr ∧ At wr w.heap.size (.cells #[.int .i64 p, .int .i64 n, .int .i64 m, .int .i64 k, .slice A ts.length c] 33 (0, 0)) ∧ At wr Wz2.heap.size (.cells #[.int .i64 0, .int .i64 0, .int .i64 0, .int .i64 0, .slice none 0 0] 28 (0, 0)) ∧ At wr Wz12.heap.size (.cells #[.int .i64 p, .int .i64 n, .int .i64 m, .int .i64 k, v] 28 (0, 0)) ∧ Own wr w.heap.size v (exL h (ts.take a))) (fun s6 _ => ts.length - (intOf s6).toNat)
  case atStart => exact ⟨0, _, by omega, rfl, hB, hz5, hz11, hz23, ho.mono (by omega)⟩
  case round =>
    clear hB hz5 hz11 ho hz23
    obtain ⟨a, v, ha, rfl, hB, h0, h1, h2, ho⟩ := hrel
    by_cases hlt : a < ts.length
    · obtain ⟨b, off, rfl, hc⟩ := (hR.keep hB).at_ hlt
      clear hc
      have hq := hR.good _ (List.getElem_mem hlt)
      have Hq108 := Lib.hid hq.len
      have hpl := exL_len h ts a (by omega)
      obtain ⟨N8, hN8⟩ : ∃ N, (exL h (ts.take a)).length = N := ⟨_, rfl⟩
      obtain ⟨A9, c9, rfl⟩ := Own.rdN2 ho (n := N8) hN8
      clear hN8
      go_upto_region 3 with (fail)
      refine wp_region_lit ?_
      refine ls_ex (some 13) (.int .i64 a) rfl rfl (exec_move _ rfl (.int .i64 a) rfl) ?_
      go_frame
      refine ls_ex (some 14) (.pointer (some ⟨w.heap.size, 4, none⟩)) rfl rfl (exec_fieldAddr 33 _ 4 rfl _ (by kernel_rfl)) ?_
      go_frame
      refine ls_ex (some 15) (.slice (some ⟨b, off, none⟩) ts.length c) rfl rfl (exec_load_one 31 _ rfl w.heap.size 4 rfl (.slice (some ⟨b, off, none⟩) ts.length c) _ Try.underlying31 rfl (h0.at_ 4)) ?_
      go_frame
      refine ls_ex (some 16) (.int .i64 ts.length) rfl rfl (exec_len _ 31 52 rfl ((some ⟨b, off, none⟩)) ts.length c rfl Try.underlying31) ?_
      go_frame
      refine ls_ex (some 17) (.bool true) rfl rfl (exec_lss _ _ _ _ rfl a ts.length rfl rfl true (decide_eq_true (by omega))) ?_
      go_frame
      refine wpList_nil ?_
      go_upto_region 5 with (fail)
      refine wp_region_lit ?_
      refine ls_ex (some 20) (.pointer (some ⟨w.heap.size, 4, none⟩)) rfl rfl (exec_fieldAddr 33 _ 4 rfl _ (by kernel_rfl)) ?_
      go_frame
      refine ls_ex (some 21) (.slice (some ⟨b, off, none⟩) ts.length c) rfl rfl (exec_load_one 31 _ rfl w.heap.size 4 rfl (.slice (some ⟨b, off, none⟩) ts.length c) _ Try.underlying31 rfl (h0.at_ 4)) ?_
      go_frame
      refine ls_ex (some 22) (.int .i64 a) rfl rfl (exec_move _ rfl (.int .i64 a) rfl) ?_
      go_frame
      refine ls_ex (some 23) (.pointer (some ⟨b, off + a * 108, none⟩)) rfl rfl (exec_index_slice _ 52 _ _ rfl b off ts.length c a 108 rfl rfl Try.underlying31 (by kernel_rfl) (by omega)) ?_
      go_frame
      refine ls_ex (some 24) (.agg (u8s (ts[a]))) rfl rfl (exec_load_cells 52 _ rfl b (off + a * 108) rfl ts[a] _ 108 (RdT.c108 (hR.keep hB) hlt) Try.underlying52 rfl (by kernel_rfl) Hq108.out) ?_
      go_frame
      refine ls_op rfl (fun K' hK' => ?_)
      have lz27 := hB.size
      have lz28 := h0.lt
      have lz29 := h1.lt
      have lz30 := h2.lt
      have naz35 := ho.away_new
      refine wp_new (some 7) rfl (al_impl_Twig rfl) (fun Wz31 nnz32 => ?_)
      have bz33 := nnz32.below (Below.refl _ _) (Nat.le_refl _)
      replace hB := below_after hB bz33
      replace h0 := h0.after bz33
      replace h1 := h1.after bz33
      replace h2 := h2.after bz33
      replace ho := ho.below bz33
      have hz34 : At Wz31 wr.heap.size (.cells (u8s (List.replicate 108 0)) 52 (0, 0)) := nnz32.at_
      refine hK' _ _ ?_
      clear hK' K' nnz32 bz33
      go_frame
      refine ls_op rfl (fun K' hK' => ?_)
      refine wp_store_bytes 52 _ _ rfl rfl wr.heap.size rfl (ts[a]) rfl _ _ hz34 108 (by kernel_rfl) Hq108.out (by simp) (fun Wz36 pz37 => ?_)
      replace hB := pz37.below hB (by omega)
      replace h0 := pz37.other h0 (by omega)
      replace h1 := pz37.other h1 (by omega)
      replace h2 := pz37.other h2 (by omega)
      replace ho := ho.put pz37 naz35
      replace hz34 : At Wz36 wr.heap.size (.cells (u8s (ts[a])) 52 (0, 0)) := pz37.at_
      refine hK' _ _ ?_
      clear hK' K' pz37
      refine wpList_nil ?_
      go_upto_region 6 with (fail)
      refine wp_region_lit ?_
      refine ls_ex (some 8) (.int .i64 0) rfl rfl (exec_assign _ rfl (.int .i64 0) rfl) ?_
      go_frame
      refine wpList_nil ?_
      go_wp2_with fail
      obtain ⟨we, rfl⟩ : ∃ x : World, x = wr := ⟨_, rfl⟩
      go_loopw [8] (fun s8 wr => ∃ (i : Nat) (v : Value), i ≤ 4 ∧ s8 = .int .i64 i ∧ Below w.heap.size w wr ∧ At wr w.heap.size (.cells #[.int .i64 p, .int .i64 n, .int .i64 m, .int .i64 k, .slice (some ⟨b, off, none⟩) ts.length c] 33 (0, 0)) ∧ At wr Wz2.heap.size (.cells #[.int .i64 0, .int .i64 0, .int .i64 0, .int .i64 0, .slice none 0 0] 28 (0, 0)) ∧ At wr Wz12.heap.size (.cells #[.int .i64 p, .int .i64 n, .int .i64 m, .int .i64 k, v] 28 (0, 0)) ∧ Own wr w.heap.size v (exS (exL h (ts.take a)) h ts[a] i 0) ∧ At wr we.heap.size (.cells (u8s ts[a]) 52 (0, 0))) (fun s8 _ => 4 - (intOf s8).toNat)
      case atStart => exact ⟨0, _, by omega, rfl, hB, h0, h1, h2, by rw [exS_start]; exact ho, hz34⟩
      case round =>
        clear hB h0 h1 h2 ho hz34
        obtain ⟨i, v, hi4, rfl, hB, h0, h1, h2, ho, h3⟩ := hrel
        by_cases hi : i ≤ min h 3
        · go_upto_region 7 with (fail)
          refine wp_region_lit ?_
          refine ls_ex (some 25) (.int .i64 i) rfl rfl (exec_move _ rfl (.int .i64 i) rfl) ?_
          go_frame
          refine ls_ex (some 26) (.int .i64 h) rfl rfl (exec_move _ rfl (.int .i64 h) rfl) ?_
          go_frame
          refine ls_ex (some 27) (.int .i64 ((min h 3 : Nat) : Int)) rfl rfl (exec_minN _ _ _ rfl h 3 rfl rfl) ?_
          go_frame
          refine ls_ex (some 28) (.bool true) rfl rfl (exec_leq _ _ _ _ rfl i (((min h 3 : Nat) : Int)) rfl rfl true (decide_eq_true (by omega))) ?_
          go_frame
          refine wpList_nil ?_
          go_upto_region 9 with (fail)
          refine wp_region_lit ?_
          refine ls_ex (some 9) (.int .i64 0) rfl rfl (exec_assign _ rfl (.int .i64 0) rfl) ?_
          go_frame
          refine wpList_nil ?_
          go_wp2_with fail
          obtain ⟨wf, rfl⟩ : ∃ x : World, x = wr := ⟨_, rfl⟩
          go_loopw [9] (fun s9 wr => ∃ (j : Nat) (v : Value), j ≤ 4 ∧ s9 = .int .i64 j ∧ Below w.heap.size w wr ∧ At wr w.heap.size (.cells #[.int .i64 p, .int .i64 n, .int .i64 m, .int .i64 k, .slice (some ⟨b, off, none⟩) ts.length c] 33 (0, 0)) ∧ At wr Wz2.heap.size (.cells #[.int .i64 0, .int .i64 0, .int .i64 0, .int .i64 0, .slice none 0 0] 28 (0, 0)) ∧ At wr Wz12.heap.size (.cells #[.int .i64 p, .int .i64 n, .int .i64 m, .int .i64 k, v] 28 (0, 0)) ∧ Own wr w.heap.size v (exS (exL h (ts.take a)) h ts[a] i j) ∧ At wr we.heap.size (.cells (u8s ts[a]) 52 (0, 0))) (fun s9 _ => 4 - (intOf s9).toNat)
          case atStart => exact ⟨0, _, by omega, rfl, hB, h0, h1, h2, ho, h3⟩
          case round =>
            clear hB h0 h1 h2 ho h3
            obtain ⟨j, v, hj4, rfl, hB, h0, h1, h2, ho, h3⟩ := hrel
            by_cases hj : j ≤ min (h - i) 3
            · by_cases hl3 : h - (i + j) ≤ 3
              · obtain ⟨N8, hN8⟩ : ∃ N, (exS (exL h (ts.take a)) h ts[a] i j).length = N := ⟨_, rfl⟩
                obtain ⟨A9, c9, rfl⟩ := Own.rdN2 ho (n := N8) hN8
                clear hN8
                have HT : Hid (putL (exS (exL h (ts.take a)) h ts[a] i j) (prQ h ts[a] i j) = exS (exL h (ts.take a)) h ts[a] i (j + 1)) := Lib.hid (exS_put (by omega) hl3)
                obtain ⟨N7, hN7⟩ : ∃ N, (exS (exL h (ts.take a)) h ts[a] i (j + 1)).length = N := ⟨_, rfl⟩
                have HN7 := Lib.hid hN7
                have HN8 : Hid ((exS (exL h (ts.take a)) h ts[a] i j).length ≤ 1000000) := Lib.hid (by have h9 := exS_len (pre := exL h (ts.take a)) (h := h) (t := ts[a]) (i := i) (j := j); omega)
                clear hN7
                go_upto_region 10 with (fail)
                refine wp_region_lit ?_
                refine ls_ex (some 31) (.int .i64 j) rfl rfl (exec_move _ rfl (.int .i64 j) rfl) ?_
                go_frame
                refine ls_ex (some 32) (.int .i64 h) rfl rfl (exec_move _ rfl (.int .i64 h) rfl) ?_
                go_frame
                refine ls_ex (some 33) (.int .i64 i) rfl rfl (exec_move _ rfl (.int .i64 i) rfl) ?_
                go_frame
                refine ls_ex (some 34) (.int .i64 ((h - i : Nat) : Int)) rfl rfl (exec_sub _ _ _ _ rfl (h : Int) (i : Int) ((h - i : Nat) : Int) rfl rfl (by rw [IntWalk.i64_in _ (by omega)]; omega)) ?_
                go_frame
                refine ls_ex (some 35) (.int .i64 ((min (h - i) 3 : Nat) : Int)) rfl rfl (exec_minN _ _ _ rfl (h - i) 3 rfl rfl) ?_
                go_frame
                refine ls_ex (some 36) (.bool true) rfl rfl (exec_leq _ _ _ _ rfl j (((min (h - i) 3 : Nat) : Int)) rfl rfl true (decide_eq_true (by omega))) ?_
                go_frame
                refine wpList_nil ?_
                go_upto_region 12 with (fail)
                refine wp_region_lit ?_
                refine ls_ex (some 39) (.int .i64 h) rfl rfl (exec_move _ rfl (.int .i64 h) rfl) ?_
                go_frame
                refine ls_ex (some 40) (.int .i64 i) rfl rfl (exec_move _ rfl (.int .i64 i) rfl) ?_
                go_frame
                refine ls_ex (some 41) (.int .i64 ((h - i : Nat) : Int)) rfl rfl (exec_sub _ _ _ _ rfl (h : Int) (i : Int) ((h - i : Nat) : Int) rfl rfl (by rw [IntWalk.i64_in _ (by omega)]; omega)) ?_
                go_frame
                refine ls_ex (some 42) (.int .i64 j) rfl rfl (exec_move _ rfl (.int .i64 j) rfl) ?_
                go_frame
                refine ls_ex (some 43) (.int .i64 ((h - (i + j) : Nat) : Int)) rfl rfl (exec_sub _ _ _ _ rfl ((h - i : Nat) : Int) (j : Int) ((h - (i + j) : Nat) : Int) rfl rfl (by rw [IntWalk.i64_in _ (by omega)]; omega)) ?_
                go_frame
                refine ls_ex (some 10) (.int .i64 ((h - (i + j) : Nat) : Int)) rfl rfl (exec_assign _ rfl (.int .i64 ((h - (i + j) : Nat) : Int)) rfl) ?_
                go_frame
                refine wpList_nil ?_
                go_upto_region 13 with (fail)
                refine wp_region_lit ?_
                refine ls_ex (some 44) (.int .i64 ((h - (i + j) : Nat) : Int)) rfl rfl (exec_move _ rfl (.int .i64 ((h - (i + j) : Nat) : Int)) rfl) ?_
                go_frame
                refine ls_ex (some 45) (.bool true) rfl rfl (exec_leq _ _ _ _ rfl (((h - (i + j) : Nat) : Int)) 3 rfl rfl true (decide_eq_true (by omega))) ?_
                go_frame
                refine wpList_nil ?_
                go_upto_region 14 with (fail)
                refine wp_region_y (zs := [15]) (S := fun w' => Below w.heap.size w w' ∧ At w' we.heap.size (.cells (u8s (ts[a])) 52 (0, 0))) (S2 := fun w' => At w' Wz12.heap.size (.cells #[.int .i64 p, .int .i64 n, .int .i64 m, .int .i64 k, .slice A9 N8 c9] 28 (0, 0))) (by kernel_rfl) ?_
                change wpAnyY _ _ _ _ _ _ _ _ _ _ (World.drew _)
                generalize hwdz38 : World.drew _ = wdz38
                replace hB : Below w.heap.size w wdz38 := by rw [← hwdz38]; exact hB.drew
                replace h0 : At wdz38 w.heap.size (.cells #[.int .i64 p, .int .i64 n, .int .i64 m, .int .i64 k, .slice (some ⟨b, off, none⟩) ts.length c] 33 (0, 0)) := by rw [← hwdz38]; exact h0
                replace h1 : At wdz38 Wz2.heap.size (.cells #[.int .i64 0, .int .i64 0, .int .i64 0, .int .i64 0, .slice none 0 0] 28 (0, 0)) := by rw [← hwdz38]; exact h1
                replace h2 : At wdz38 Wz12.heap.size (.cells #[.int .i64 p, .int .i64 n, .int .i64 m, .int .i64 k, .slice A9 N8 c9] 28 (0, 0)) := by rw [← hwdz38]; exact h2
                replace ho : Own wdz38 w.heap.size (.slice A9 N8 c9) (exS (exL h (ts.take a)) h ts[a] i j) := by rw [← hwdz38]; exact ho.drew
                replace h3 : At wdz38 we.heap.size (.cells (u8s (ts[a])) 52 (0, 0)) := by rw [← hwdz38]; exact h3
                clear hwdz38
                refine y_yield3 0 (some 46) (.agg #[.int .i64 p, .int .i64 n, .int .i64 m, .int .i64 k, .slice A9 N8 c9]) rfl 16 (by kernel_rfl) (by kernel_rfl) (by kernel_rfl) (by kernel_rfl) (by kernel_rfl) (fun _ _ _ h => h) rfl rfl ⟨hB, h3⟩ h2 (fun w' h' h2' => exec_load_all 28 _ rfl Wz12.heap.size rfl _ _ _ h2' Try.underlying28 rfl 5 (by kernel_rfl) rfl) ?_
                go_frame
                refine y_yield 1 (some 47) (.pointer (some ⟨we.heap.size, 0, none⟩)) rfl (by kernel_rfl) (by kernel_rfl) (by kernel_rfl) (fun _ _ _ h => h) rfl rfl ⟨hB, h3⟩ (fun w' h' => exec_fieldAddr 52 _ 0 rfl _ (by kernel_rfl)) ?_
                go_frame
                refine y_yield 2 (some 48) (.agg (u8s (segm (ts[a]) 0 36))) rfl (by kernel_rfl) (by kernel_rfl) (by kernel_rfl) (fun _ _ _ h => h) rfl rfl ⟨hB, h3⟩ (fun w' h' => exec_load_seg 50 _ rfl we.heap.size (0) rfl _ (ts[a]) _ 36 h'.2 Try.underlying50 rfl (by kernel_rfl) (by rw [Hq108.out]; omega) (segm (ts[a]) 0 36) rfl) ?_
                go_frame
                refine y_yield 3 (some 49) (.int .i64 i) rfl (by kernel_rfl) (by kernel_rfl) (by kernel_rfl) (fun _ _ _ h => h) rfl rfl ⟨hB, h3⟩ (fun w' h' => exec_move _ rfl (.int .i64 i) rfl) ?_
                go_frame
                refine y_yield 5 (some 51) (.pointer (some ⟨we.heap.size, 36, none⟩)) rfl (by kernel_rfl) (by kernel_rfl) (by kernel_rfl) (fun _ _ _ h => h) rfl rfl ⟨hB, h3⟩ (fun w' h' => exec_fieldAddr 52 _ 1 rfl _ (by kernel_rfl)) ?_
                go_frame
                refine y_yield 6 (some 52) (.agg (u8s (segm (ts[a]) 36 36))) rfl (by kernel_rfl) (by kernel_rfl) (by kernel_rfl) (fun _ _ _ h => h) rfl rfl ⟨hB, h3⟩ (fun w' h' => exec_load_seg 50 _ rfl we.heap.size (36) rfl _ (ts[a]) _ 36 h'.2 Try.underlying50 rfl (by kernel_rfl) (by rw [Hq108.out]; omega) (segm (ts[a]) 36 36) rfl) ?_
                go_frame
                refine y_yield 7 (some 53) (.int .i64 j) rfl (by kernel_rfl) (by kernel_rfl) (by kernel_rfl) (fun _ _ _ h => h) rfl rfl ⟨hB, h3⟩ (fun w' h' => exec_move _ rfl (.int .i64 j) rfl) ?_
                go_frame
                refine y_yield 9 (some 55) (.pointer (some ⟨we.heap.size, 72, none⟩)) rfl (by kernel_rfl) (by kernel_rfl) (by kernel_rfl) (fun _ _ _ h => h) rfl rfl ⟨hB, h3⟩ (fun w' h' => exec_fieldAddr 52 _ 2 rfl _ (by kernel_rfl)) ?_
                go_frame
                refine y_yield 10 (some 56) (.agg (u8s (segm (ts[a]) 72 36))) rfl (by kernel_rfl) (by kernel_rfl) (by kernel_rfl) (fun _ _ _ h => h) rfl rfl ⟨hB, h3⟩ (fun w' h' => exec_load_seg 50 _ rfl we.heap.size (72) rfl _ (ts[a]) _ 36 h'.2 Try.underlying50 rfl (by kernel_rfl) (by rw [Hq108.out]; omega) (segm (ts[a]) 72 36) rfl) ?_
                go_frame
                refine y_yield 11 (some 57) (.int .i64 ((h - (i + j) : Nat) : Int)) rfl (by kernel_rfl) (by kernel_rfl) (by kernel_rfl) (fun _ _ _ h => h) rfl rfl ⟨hB, h3⟩ (fun w' h' => exec_move _ rfl (.int .i64 ((h - (i + j) : Nat) : Int)) rfl) ?_
                go_frame
                refine y_oper 4 (by kernel_rfl) rfl rfl (fun K' hK' => ?_)
                have lz41 := hB.size
                have lz42 := h0.lt
                have lz43 := h1.lt
                have lz44 := h2.lt
                have lz45 := h3.lt
                refine wp_call2 (some 50) rfl 64 _ _ _ rfl (fun args w => by kernel_rfl) _ _ rfl rfl _ (l08Part2_c (segm ts[a] 0 36) i (segm_bytes hq (by omega)) (by omega) _) (fun e Wz39 h => ?_)
                obtain ⟨rfl, bz40⟩ := h
                replace hB := below_after hB bz40
                replace h0 := h0.after bz40
                replace h1 := h1.after bz40
                replace h2 := h2.after bz40
                replace ho := ho.below bz40
                replace h3 := h3.after bz40
                clear bz40
                refine ⟨_, rfl, ?_⟩
                refine hK' _ _ ⟨hB, h3⟩ (fun _ => h2) ?_
                clear hK' K'
                go_frame
                refine y_oper 8 (by kernel_rfl) rfl rfl (fun K' hK' => ?_)
                have lz48 := hB.size
                have lz49 := h0.lt
                have lz50 := h1.lt
                have lz51 := h2.lt
                have lz52 := h3.lt
                refine wp_call2 (some 54) rfl 64 _ _ _ rfl (fun args w => by kernel_rfl) _ _ rfl rfl _ (l08Part2_c (segm ts[a] 36 36) j (segm_bytes hq (by omega)) (by omega) _) (fun e Wz46 h => ?_)
                obtain ⟨rfl, bz47⟩ := h
                replace hB := below_after hB bz47
                replace h0 := h0.after bz47
                replace h1 := h1.after bz47
                replace h2 := h2.after bz47
                replace ho := ho.below bz47
                replace h3 := h3.after bz47
                clear bz47
                refine ⟨_, rfl, ?_⟩
                refine hK' _ _ ⟨hB, h3⟩ (fun _ => h2) ?_
                clear hK' K'
                go_frame
                refine y_oper 12 (by kernel_rfl) rfl rfl (fun K' hK' => ?_)
                have lz55 := hB.size
                have lz56 := h0.lt
                have lz57 := h1.lt
                have lz58 := h2.lt
                have lz59 := h3.lt
                refine wp_call2 (some 58) rfl 64 _ _ _ rfl (fun args w => by kernel_rfl) _ _ rfl rfl _ (l08Part2_c (segm ts[a] 72 36) (h - (i + j)) (segm_bytes hq (by omega)) (by omega) _) (fun e Wz53 h => ?_)
                obtain ⟨rfl, bz54⟩ := h
                replace hB := below_after hB bz54
                replace h0 := h0.after bz54
                replace h1 := h1.after bz54
                replace h2 := h2.after bz54
                replace ho := ho.below bz54
                replace h3 := h3.after bz54
                clear bz54
                refine ⟨_, rfl, ?_⟩
                refine hK' _ _ ⟨hB, h3⟩ (fun _ => h2) ?_
                clear hK' K'
                go_frame
                refine y_yield 13 (some 59) (.agg (u8s (cat3 (partL (segm ts[a] 0 36) i) (partL (segm ts[a] 36 36) j) (partL (segm ts[a] 72 36) (h - (i + j)))))) rfl (by kernel_rfl) (by kernel_rfl) (by kernel_rfl) (fun _ _ _ h => h) rfl rfl ⟨hB, h3⟩ (fun w' h' => exec_prodC _ _ _ rfl (partL (segm ts[a] 0 36) i) (partL (segm ts[a] 36 36) j) (partL (segm ts[a] 72 36) (h - (i + j))) rfl rfl rfl (partL_len _ _) (partL_len _ _) (partL_len _ _)) ?_
                go_frame
                refine y_oper 14 (by kernel_rfl) rfl rfl (fun K' hK' => ?_)
                have lz63 := hB.size
                have lz64 := h0.lt
                have lz65 := h1.lt
                have lz66 := h2.lt
                have lz67 := h3.lt
                refine wp_call2 (some 60) rfl 26 _ _ _ rfl (fun args w => by kernel_rfl) _ _ rfl rfl _ (l08Put_c p n m k A9 N8 c9 (exS (exL h (ts.take a)) h ts[a] i j) (prQ h ts[a] i j) (prQ_bytes hq h i j) _ _ ho HN8.out (by omega)) (fun e Wz60 h => ?_)
                obtain ⟨v6, rfl, noz62, grz61⟩ := h
                rw [HT.out] at noz62
                obtain ⟨A6, c6, rfl⟩ := Own.rdN2 noz62 (n := N7) HN7.out
                replace hB := below_grown hB grz61 ho (by omega)
                replace h0 := h0.grown grz61 (ho.off h0 (by decide))
                replace h1 := h1.grown grz61 (ho.off h1 (by decide))
                replace h2 := h2.grown grz61 (ho.off h2 (by decide))
                replace h3 := h3.grown grz61 (ho.off h3 (by decide))
                replace ho := noz62
                refine ⟨_, rfl, ?_⟩
                refine hK' _ _ ⟨hB, h3⟩ (fun _ => h2) ?_
                clear hK' K' grz61
                go_frame
                refine y_oper 15 (by kernel_rfl) rfl rfl (fun K' hK' => ?_)
                refine wp_store_all 28 _ _ rfl rfl Wz12.heap.size rfl #[.int .i64 p, .int .i64 n, .int .i64 m, .int .i64 k, .slice A6 N7 c6] rfl _ _ h2 5 (by kernel_rfl) rfl rfl (one5 _ _ _ _ _ _ _) (fun Wz68 pz69 => ?_)
                replace hB := pz69.below hB (by omega)
                replace h0 := pz69.other h0 (by omega)
                replace h1 := pz69.other h1 (by omega)
                replace ho := ho.put pz69 (ho.off h2 (by decide))
                replace h3 := pz69.other h3 (by omega)
                replace h2 : At Wz68 Wz12.heap.size (.cells #[.int .i64 p, .int .i64 n, .int .i64 m, .int .i64 k, .slice A6 N7 c6] 28 (0, 0)) := pz69.at_
                refine hK' _ _ ⟨hB, h3⟩ (fun h => absurd (by decide) h) ?_
                clear hK' K' pz69
                refine y_done (by kernel_rfl) ?_ _
                go_upto_region 11 with (fail)
                refine wp_region_lit ?_
                refine ls_ex (some 37) (.int .i64 j) rfl rfl (exec_move _ rfl (.int .i64 j) rfl) ?_
                go_frame
                refine ls_ex (some 38) (.int .i64 (j + 1)) rfl rfl (exec_add _ _ _ _ rfl j 1 (j + 1) rfl rfl (IntWalk.i64_in _ (by omega))) ?_
                go_frame
                refine ls_ex (some 9) (.int .i64 (j + 1)) rfl rfl (exec_assign _ rfl (.int .i64 (j + 1)) rfl) ?_
                go_frame
                refine wpList_nil ?_
                go_wp2_with fail
                go_roundw
                case rel => exact ⟨j + 1, _, by omega, by go_num, hB, h0, h1, h2, ho, h3⟩
                case measure => simp [intOf]; omega
              · obtain ⟨N8, hN8⟩ : ∃ N, (exS (exL h (ts.take a)) h ts[a] i j).length = N := ⟨_, rfl⟩
                obtain ⟨A9, c9, rfl⟩ := Own.rdN2 ho (n := N8) hN8
                clear hN8
                have HT : Hid (exS (exL h (ts.take a)) h ts[a] i j = exS (exL h (ts.take a)) h ts[a] i (j + 1)) := Lib.hid (exS_skip (fun hc => by omega))
                rw [HT.out] at ho
                go_upto_region 10 with (fail)
                refine wp_region_lit ?_
                refine ls_ex (some 31) (.int .i64 j) rfl rfl (exec_move _ rfl (.int .i64 j) rfl) ?_
                go_frame
                refine ls_ex (some 32) (.int .i64 h) rfl rfl (exec_move _ rfl (.int .i64 h) rfl) ?_
                go_frame
                refine ls_ex (some 33) (.int .i64 i) rfl rfl (exec_move _ rfl (.int .i64 i) rfl) ?_
                go_frame
                refine ls_ex (some 34) (.int .i64 ((h - i : Nat) : Int)) rfl rfl (exec_sub _ _ _ _ rfl (h : Int) (i : Int) ((h - i : Nat) : Int) rfl rfl (by rw [IntWalk.i64_in _ (by omega)]; omega)) ?_
                go_frame
                refine ls_ex (some 35) (.int .i64 ((min (h - i) 3 : Nat) : Int)) rfl rfl (exec_minN _ _ _ rfl (h - i) 3 rfl rfl) ?_
                go_frame
                refine ls_ex (some 36) (.bool true) rfl rfl (exec_leq _ _ _ _ rfl j (((min (h - i) 3 : Nat) : Int)) rfl rfl true (decide_eq_true (by omega))) ?_
                go_frame
                refine wpList_nil ?_
                go_upto_region 12 with (fail)
                refine wp_region_lit ?_
                refine ls_ex (some 39) (.int .i64 h) rfl rfl (exec_move _ rfl (.int .i64 h) rfl) ?_
                go_frame
                refine ls_ex (some 40) (.int .i64 i) rfl rfl (exec_move _ rfl (.int .i64 i) rfl) ?_
                go_frame
                refine ls_ex (some 41) (.int .i64 ((h - i : Nat) : Int)) rfl rfl (exec_sub _ _ _ _ rfl (h : Int) (i : Int) ((h - i : Nat) : Int) rfl rfl (by rw [IntWalk.i64_in _ (by omega)]; omega)) ?_
                go_frame
                refine ls_ex (some 42) (.int .i64 j) rfl rfl (exec_move _ rfl (.int .i64 j) rfl) ?_
                go_frame
                refine ls_ex (some 43) (.int .i64 ((h - (i + j) : Nat) : Int)) rfl rfl (exec_sub _ _ _ _ rfl ((h - i : Nat) : Int) (j : Int) ((h - (i + j) : Nat) : Int) rfl rfl (by rw [IntWalk.i64_in _ (by omega)]; omega)) ?_
                go_frame
                refine ls_ex (some 10) (.int .i64 ((h - (i + j) : Nat) : Int)) rfl rfl (exec_assign _ rfl (.int .i64 ((h - (i + j) : Nat) : Int)) rfl) ?_
                go_frame
                refine wpList_nil ?_
                go_upto_region 13 with (fail)
                refine wp_region_lit ?_
                refine ls_ex (some 44) (.int .i64 ((h - (i + j) : Nat) : Int)) rfl rfl (exec_move _ rfl (.int .i64 ((h - (i + j) : Nat) : Int)) rfl) ?_
                go_frame
                refine ls_ex (some 45) (.bool false) rfl rfl (exec_leq _ _ _ _ rfl (((h - (i + j) : Nat) : Int)) 3 rfl rfl false (decide_eq_false (by omega))) ?_
                go_frame
                refine wpList_nil ?_
                go_upto_region 11 with (fail)
                refine wp_region_lit ?_
                refine ls_ex (some 37) (.int .i64 j) rfl rfl (exec_move _ rfl (.int .i64 j) rfl) ?_
                go_frame
                refine ls_ex (some 38) (.int .i64 (j + 1)) rfl rfl (exec_add _ _ _ _ rfl j 1 (j + 1) rfl rfl (IntWalk.i64_in _ (by omega))) ?_
                go_frame
                refine ls_ex (some 9) (.int .i64 (j + 1)) rfl rfl (exec_assign _ rfl (.int .i64 (j + 1)) rfl) ?_
                go_frame
                refine wpList_nil ?_
                go_wp2_with fail
                go_roundw
                case rel => exact ⟨j + 1, _, by omega, by go_num, hB, h0, h1, h2, ho, h3⟩
                case measure => simp [intOf]; omega
            · have HT : Hid (exS (exL h (ts.take a)) h ts[a] i j = exS (exL h (ts.take a)) h ts[a] (i + 1) 0) := Lib.hid (exS_rest hj4 (by omega))
              rw [HT.out] at ho
              go_upto_region 10 with (fail)
              refine wp_region_lit ?_
              refine ls_ex (some 31) (.int .i64 j) rfl rfl (exec_move _ rfl (.int .i64 j) rfl) ?_
              go_frame
              refine ls_ex (some 32) (.int .i64 h) rfl rfl (exec_move _ rfl (.int .i64 h) rfl) ?_
              go_frame
              refine ls_ex (some 33) (.int .i64 i) rfl rfl (exec_move _ rfl (.int .i64 i) rfl) ?_
              go_frame
              refine ls_ex (some 34) (.int .i64 ((h - i : Nat) : Int)) rfl rfl (exec_sub _ _ _ _ rfl (h : Int) (i : Int) ((h - i : Nat) : Int) rfl rfl (by rw [IntWalk.i64_in _ (by omega)]; omega)) ?_
              go_frame
              refine ls_ex (some 35) (.int .i64 ((min (h - i) 3 : Nat) : Int)) rfl rfl (exec_minN _ _ _ rfl (h - i) 3 rfl rfl) ?_
              go_frame
              refine ls_ex (some 36) (.bool false) rfl rfl (exec_leq _ _ _ _ rfl j (((min (h - i) 3 : Nat) : Int)) rfl rfl false (decide_eq_false (by omega))) ?_
              go_frame
              refine wpList_nil ?_
              go_upto_region 8 with (fail)
              refine wp_region_lit ?_
              refine ls_ex (some 29) (.int .i64 i) rfl rfl (exec_move _ rfl (.int .i64 i) rfl) ?_
              go_frame
              refine ls_ex (some 30) (.int .i64 (i + 1)) rfl rfl (exec_add _ _ _ _ rfl i 1 (i + 1) rfl rfl (IntWalk.i64_in _ (by omega))) ?_
              go_frame
              refine ls_ex (some 8) (.int .i64 (i + 1)) rfl rfl (exec_assign _ rfl (.int .i64 (i + 1)) rfl) ?_
              go_frame
              refine wpList_nil ?_
              go_wp2_with fail
              go_roundw
              case rel => exact ⟨i + 1, _, by omega, by go_num, hB, h0, h1, h2, ho, h3⟩
              case measure => simp [intOf]; omega
        · have HT : Hid (exS (exL h (ts.take a)) h ts[a] i 0 = exL h (ts.take (a + 1))) := Lib.hid (by rw [exL_step hlt]; unfold exS; rw [exI_rest hi4 (by omega)]; simp [exR])
          rw [HT.out] at ho
          go_upto_region 7 with (fail)
          refine wp_region_lit ?_
          refine ls_ex (some 25) (.int .i64 i) rfl rfl (exec_move _ rfl (.int .i64 i) rfl) ?_
          go_frame
          refine ls_ex (some 26) (.int .i64 h) rfl rfl (exec_move _ rfl (.int .i64 h) rfl) ?_
          go_frame
          refine ls_ex (some 27) (.int .i64 ((min h 3 : Nat) : Int)) rfl rfl (exec_minN _ _ _ rfl h 3 rfl rfl) ?_
          go_frame
          refine ls_ex (some 28) (.bool false) rfl rfl (exec_leq _ _ _ _ rfl i (((min h 3 : Nat) : Int)) rfl rfl false (decide_eq_false (by omega))) ?_
          go_frame
          refine wpList_nil ?_
          go_upto_region 4 with (fail)
          refine wp_region_lit ?_
          refine ls_ex (some 18) (.int .i64 a) rfl rfl (exec_move _ rfl (.int .i64 a) rfl) ?_
          go_frame
          refine ls_ex (some 19) (.int .i64 (a + 1)) rfl rfl (exec_add _ _ _ _ rfl a 1 (a + 1) rfl rfl (IntWalk.i64_in _ (by omega))) ?_
          go_frame
          refine ls_ex (some 6) (.int .i64 (a + 1)) rfl rfl (exec_assign _ rfl (.int .i64 (a + 1)) rfl) ?_
          go_frame
          refine wpList_nil ?_
          go_wp2_with fail
          go_roundw
          case rel => exact ⟨a + 1, _, by omega, by go_num, hB, h0, h1, h2, ho⟩
          case measure => simp [intOf]; omega
    · obtain ⟨N8, hN8⟩ : ∃ N, (exL h (ts.take a)).length = N := ⟨_, rfl⟩
      obtain ⟨A9, c9, rfl⟩ := Own.rdN2 ho (n := N8) hN8
      clear hN8
      have HE : Hid (exL h (ts.take a) = exL h ts) := Lib.hid (by rw [show a = ts.length by omega, List.take_length])
      rw [HE.out] at ho
      go_upto_region 3 with (fail)
      refine wp_region_lit ?_
      refine ls_ex (some 13) (.int .i64 a) rfl rfl (exec_move _ rfl (.int .i64 a) rfl) ?_
      go_frame
      refine ls_ex (some 14) (.pointer (some ⟨w.heap.size, 4, none⟩)) rfl rfl (exec_fieldAddr 33 _ 4 rfl _ (by kernel_rfl)) ?_
      go_frame
      refine ls_ex (some 15) (.slice A ts.length c) rfl rfl (exec_load_one 31 _ rfl w.heap.size 4 rfl (.slice A ts.length c) _ Try.underlying31 rfl (h0.at_ 4)) ?_
      go_frame
      refine ls_ex (some 16) (.int .i64 ts.length) rfl rfl (exec_len _ 31 52 rfl A ts.length c rfl Try.underlying31) ?_
      go_frame
      refine ls_ex (some 17) (.bool false) rfl rfl (exec_lss _ _ _ _ rfl a ts.length rfl rfl false (decide_eq_false (by omega))) ?_
      go_frame
      refine wpList_nil ?_
      go_upto_region 15 with (fail)
      refine wp_region_lit ?_
      refine ls_ex (some 61) (.agg #[.int .i64 p, .int .i64 n, .int .i64 m, .int .i64 k, .slice A9 N8 c9]) rfl rfl (exec_load_all 28 _ rfl Wz12.heap.size rfl _ _ _ h2 Try.underlying28 rfl 5 (by kernel_rfl) rfl) ?_
      go_frame
      refine ls_op rfl (fun K' hK' => ?_)
      refine wp_store_all 28 _ _ rfl rfl Wz2.heap.size rfl #[.int .i64 p, .int .i64 n, .int .i64 m, .int .i64 k, .slice A9 N8 c9] rfl _ _ h1 5 (by kernel_rfl) rfl rfl (one5 _ _ _ _ _ _ _) (fun Wz70 pz71 => ?_)
      replace hB := pz71.below hB (by omega)
      replace h0 := pz71.other h0 (by omega)
      replace h2 := pz71.other h2 (by omega)
      replace ho := ho.put pz71 (ho.off h1 (by decide))
      replace h1 : At Wz70 Wz2.heap.size (.cells #[.int .i64 p, .int .i64 n, .int .i64 m, .int .i64 k, .slice A9 N8 c9] 28 (0, 0)) := pz71.at_
      refine hK' _ _ ?_
      clear hK' K' pz71
      refine wpList_nil ?_
      go_wp2_with fail
      refine bodyPost_ret (results_at rfl _ _ Wz2.heap.size _ _ _ rfl h1 Try.underlying28 rfl 5 (by kernel_rfl) rfl) rfl ?_
      exact ⟨_, rfl, ho, hB⟩
set_option maxHeartbeats 25600000 in
theorem exactTwig_c (t : List Nat) (ht : Bytes 108 t) (h : Nat) (h9 : h ≤ 9) (w : World) :
    Calls Try.prog 66 #[.agg (u8s t), .int .i64 (h : Int)] w (fun e w' => ∃ v, e = .returned v ∧ Own w' w.heap.size v (exI h t 4) ∧ Below w.heap.size w w') := by
  have hB := Below.refl w.heap.size w
  have HTl := Lib.hid ht.len
  go_enter Try.func66, Try.ntmps66
  go_upto_region 0 with (fail)
  refine wp_region_lit ?_
  refine ls_op rfl (fun K' hK' => ?_)
  have lz1 := hB.size
  refine wp_new (some 2) rfl (exec_box 52 _ rfl (u8s (t)) rfl) (fun Wz2 nnz3 => ?_)
  have bz4 := nnz3.below (Below.refl _ _) (Nat.le_refl _)
  replace hB := below_after hB bz4
  have hz5 : At Wz2 w.heap.size (.cells (u8s (t)) 52 (0, 0)) := nnz3.at_
  refine hK' _ _ ?_
  clear hK' K' nnz3 bz4
  go_frame
  refine ls_ex (some 4) (.slice none 0 0) rfl rfl (exec_assign _ rfl (.slice none 0 0) rfl) ?_
  go_frame
  refine wpList_nil ?_
  go_upto_region 1 with (fail)
  have hBC : BC (fun W => Below w.heap.size w W ∧ At W w.heap.size (.cells (u8s (t)) 52 (0, 0))) (w.heap.size + 1) := ⟨fun h hb => ⟨below_after h.1 hb, h.2.after hb⟩, fun h hg hP => ⟨hP.below h.1 (by omega), hP.other h.2 (by omega)⟩, fun h => h.2.lt⟩
  refine wp_region_inv (by kernel_rfl) (by kernel_rfl) (by kernel_rfl) (RI (fun W => Below w.heap.size w W ∧ At W w.heap.size (.cells (u8s (t)) 52 (0, 0))) (w.heap.size + 1) (valOf [(0, .pointer (some ⟨w.heap.size, 0, none⟩)), (1, .agg (u8s (segm t 0 36))), (2, .agg (u8s (partsL (segm t 0 36)))), (3, .pointer (some ⟨w.heap.size, 36, none⟩)), (4, .agg (u8s (segm t 36 36))), (5, .agg (u8s (partsL (segm t 36 36)))), (6, .pointer (some ⟨w.heap.size, 72, none⟩)), (7, .agg (u8s (segm t 72 36))), (8, .agg (u8s (partsL (segm t 72 36))))]) (alOf [(9, 12, .cells (u8s (List.replicate 36 0)) 62 (0, 0), .cells (u8s (partsL (segm t 0 36))) 62 (0, 0)), (10, 13, .cells (u8s (List.replicate 36 0)) 62 (0, 0), .cells (u8s (partsL (segm t 36 36))) 62 (0, 0)), (11, 14, .cells (u8s (List.replicate 36 0)) 62 (0, 0), .cells (u8s (partsL (segm t 72 36))) 62 (0, 0))])) (RI.start ?_) 15 rfl ?_ ?_
  case refine_1 => exact ⟨hB.drew, hz5⟩
  case refine_2 =>
    refine StepsOK.succ (StepsOK.succ (StepsOK.succ (StepsOK.succ (StepsOK.succ (StepsOK.succ (StepsOK.succ (StepsOK.succ (StepsOK.succ (StepsOK.succ (StepsOK.succ (StepsOK.succ (StepsOK.succ (StepsOK.succ (StepsOK.succ (StepsOK.zero) ?_) ?_) ?_) ?_) ?_) ?_) ?_) ?_) ?_) ?_) ?_) ?_) ?_) ?_) ?_
    · exact step_pure hBC 0 _ rfl rfl [] (by kernel_rfl) (some 15) rfl (.pointer (some ⟨w.heap.size, 0, none⟩)) rfl rfl (notStore_of rfl) (fun L vals W hd hI => exec_fieldAddr_x 52 _ 0 rfl _ (slot_old (by kernel_rfl) rfl) _ (by kernel_rfl))
    · exact step_pure hBC 1 _ rfl rfl [0] (by kernel_rfl) (some 16) rfl (.agg (u8s (segm t 0 36))) rfl rfl (notStore_of rfl) (fun L vals W hd hI => exec_load_seg 50 _ rfl w.heap.size 0 (hI.slot (by kernel_rfl) (j := 0) (t := 15) (by kernel_rfl) (hd 0 (by simp)) (of_decide_eq_true rfl) (of_decide_eq_true (by kernel_rfl)) rfl) _ t _ 36 hI.base.2 Try.underlying50 rfl (by kernel_rfl) (by rw [HTl.out]; omega) _ rfl)
    · exact step_call hBC 2 _ rfl rfl [1] (by kernel_rfl) (.agg (u8s (partsL (segm t 0 36)))) rfl rfl (notStore_of rfl) (fun L vals W K hd hI hK => wp_call1 (some 17) rfl 31 _ _ rfl (fun args w => by kernel_rfl) _ (hI.slot (by kernel_rfl) (j := 1) (t := 16) (by kernel_rfl) (hd 1 (by simp)) (of_decide_eq_true rfl) (of_decide_eq_true (by kernel_rfl)) rfl) _ (partsOf_c (segm t 0 36) (segm_bytes ht (by omega)) _) (fun e wn h => by obtain ⟨rfl, b⟩ := h; exact ⟨_, rfl, hK _ b⟩))
    · exact step_pure hBC 3 _ rfl rfl [] (by kernel_rfl) (some 18) rfl (.pointer (some ⟨w.heap.size, 36, none⟩)) rfl rfl (notStore_of rfl) (fun L vals W hd hI => exec_fieldAddr_x 52 _ 1 rfl _ (slot_old (by kernel_rfl) rfl) _ (by kernel_rfl))
    · exact step_pure hBC 4 _ rfl rfl [3] (by kernel_rfl) (some 19) rfl (.agg (u8s (segm t 36 36))) rfl rfl (notStore_of rfl) (fun L vals W hd hI => exec_load_seg 50 _ rfl w.heap.size 36 (hI.slot (by kernel_rfl) (j := 3) (t := 18) (by kernel_rfl) (hd 3 (by simp)) (of_decide_eq_true rfl) (of_decide_eq_true (by kernel_rfl)) rfl) _ t _ 36 hI.base.2 Try.underlying50 rfl (by kernel_rfl) (by rw [HTl.out]; omega) _ rfl)
    · exact step_call hBC 5 _ rfl rfl [4, 2] (by kernel_rfl) (.agg (u8s (partsL (segm t 36 36)))) rfl rfl (notStore_of rfl) (fun L vals W K hd hI hK => wp_call1 (some 20) rfl 31 _ _ rfl (fun args w => by kernel_rfl) _ (hI.slot (by kernel_rfl) (j := 4) (t := 19) (by kernel_rfl) (hd 4 (by simp)) (of_decide_eq_true rfl) (of_decide_eq_true (by kernel_rfl)) rfl) _ (partsOf_c (segm t 36 36) (segm_bytes ht (by omega)) _) (fun e wn h => by obtain ⟨rfl, b⟩ := h; exact ⟨_, rfl, hK _ b⟩))
    · exact step_pure hBC 6 _ rfl rfl [] (by kernel_rfl) (some 21) rfl (.pointer (some ⟨w.heap.size, 72, none⟩)) rfl rfl (notStore_of rfl) (fun L vals W hd hI => exec_fieldAddr_x 52 _ 2 rfl _ (slot_old (by kernel_rfl) rfl) _ (by kernel_rfl))
    · exact step_pure hBC 7 _ rfl rfl [6] (by kernel_rfl) (some 22) rfl (.agg (u8s (segm t 72 36))) rfl rfl (notStore_of rfl) (fun L vals W hd hI => exec_load_seg 50 _ rfl w.heap.size 72 (hI.slot (by kernel_rfl) (j := 6) (t := 21) (by kernel_rfl) (hd 6 (by simp)) (of_decide_eq_true rfl) (of_decide_eq_true (by kernel_rfl)) rfl) _ t _ 36 hI.base.2 Try.underlying50 rfl (by kernel_rfl) (by rw [HTl.out]; omega) _ rfl)
    · exact step_call hBC 8 _ rfl rfl [7, 5] (by kernel_rfl) (.agg (u8s (partsL (segm t 72 36)))) rfl rfl (notStore_of rfl) (fun L vals W K hd hI hK => wp_call1 (some 23) rfl 31 _ _ rfl (fun args w => by kernel_rfl) _ (hI.slot (by kernel_rfl) (j := 7) (t := 22) (by kernel_rfl) (hd 7 (by simp)) (of_decide_eq_true rfl) (of_decide_eq_true (by kernel_rfl)) rfl) _ (partsOf_c (segm t 72 36) (segm_bytes ht (by omega)) _) (fun e wn h => by obtain ⟨rfl, b⟩ := h; exact ⟨_, rfl, hK _ b⟩))
    · exact step_alloc hBC 9 _ rfl rfl [] (by kernel_rfl) 12 (.cells (u8s (List.replicate 36 0)) 62 (0, 0)) (.cells (u8s (partsL (segm t 0 36))) 62 (0, 0)) rfl rfl (by decide) (by kernel_rfl) (notStore_of rfl) (fun a w => exec_allocP rfl)
    · exact step_alloc hBC 10 _ rfl rfl [] (by kernel_rfl) 13 (.cells (u8s (List.replicate 36 0)) 62 (0, 0)) (.cells (u8s (partsL (segm t 36 36))) 62 (0, 0)) rfl rfl (by decide) (by kernel_rfl) (notStore_of rfl) (fun a w => exec_allocP rfl)
    · exact step_alloc hBC 11 _ rfl rfl [] (by kernel_rfl) 14 (.cells (u8s (List.replicate 36 0)) 62 (0, 0)) (.cells (u8s (partsL (segm t 72 36))) 62 (0, 0)) rfl rfl (by decide) (by kernel_rfl) (notStore_of rfl) (fun a w => exec_allocP rfl)
    · exact step_store hBC 12 _ rfl rfl [9, 2, 8, 0, 1, 2, 9, 10, 11] (by kernel_rfl) rfl 9 (by simp) (.cells (u8s (List.replicate 36 0)) 62 (0, 0)) (.cells (u8s (partsL (segm t 0 36))) 62 (0, 0)) rfl rfl rfl (uniq_of rfl) (fun L vals W b K hd hI hb hAt hK => wp_store_bytes 62 _ _ rfl rfl b (slot_al (by kernel_rfl) (j := 9) (t := 5) (by kernel_rfl) (hd 9 (by simp)) (of_decide_eq_true rfl) (of_decide_eq_true (by kernel_rfl)) hb) (partsL (segm t 0 36)) (hI.slot (by kernel_rfl) (j := 2) (t := 17) (by kernel_rfl) (hd 2 (by simp)) (of_decide_eq_true rfl) (of_decide_eq_true (by kernel_rfl)) rfl) _ _ hAt 36 (by kernel_rfl) (partsL_len _) (by simp) hK)
    · exact step_store hBC 13 _ rfl rfl [10, 5, 12, 0, 1, 2, 3, 4, 5, 9, 10, 11, 12] (by kernel_rfl) rfl 10 (by simp) (.cells (u8s (List.replicate 36 0)) 62 (0, 0)) (.cells (u8s (partsL (segm t 36 36))) 62 (0, 0)) rfl rfl rfl (uniq_of rfl) (fun L vals W b K hd hI hb hAt hK => wp_store_bytes 62 _ _ rfl rfl b (slot_al (by kernel_rfl) (j := 10) (t := 6) (by kernel_rfl) (hd 10 (by simp)) (of_decide_eq_true rfl) (of_decide_eq_true (by kernel_rfl)) hb) (partsL (segm t 36 36)) (hI.slot (by kernel_rfl) (j := 5) (t := 20) (by kernel_rfl) (hd 5 (by simp)) (of_decide_eq_true rfl) (of_decide_eq_true (by kernel_rfl)) rfl) _ _ hAt 36 (by kernel_rfl) (partsL_len _) (by simp) hK)
    · exact step_store hBC 14 _ rfl rfl [11, 8, 13, 0, 1, 2, 3, 4, 5, 6, 7, 8, 9, 10, 11, 12, 13] (by kernel_rfl) rfl 11 (by simp) (.cells (u8s (List.replicate 36 0)) 62 (0, 0)) (.cells (u8s (partsL (segm t 72 36))) 62 (0, 0)) rfl rfl rfl (uniq_of rfl) (fun L vals W b K hd hI hb hAt hK => wp_store_bytes 62 _ _ rfl rfl b (slot_al (by kernel_rfl) (j := 11) (t := 7) (by kernel_rfl) (hd 11 (by simp)) (of_decide_eq_true rfl) (of_decide_eq_true (by kernel_rfl)) hb) (partsL (segm t 72 36)) (hI.slot (by kernel_rfl) (j := 8) (t := 23) (by kernel_rfl) (hd 8 (by simp)) (of_decide_eq_true rfl) (of_decide_eq_true (by kernel_rfl)) rfl) _ _ hAt 36 (by kernel_rfl) (partsL_len _) (by simp) hK)
  case refine_3 =>
  intro L vals wz hall hI
  obtain ⟨br5, er5, lr5, hr5⟩ := hI.blk 9 _ _ _ (hall 9 (by omega)) rfl
  rw [if_pos (hall 12 (by omega))] at hr5
  obtain ⟨br6, er6, lr6, hr6⟩ := hI.blk 10 _ _ _ (hall 10 (by omega)) rfl
  rw [if_pos (hall 13 (by omega))] at hr6
  obtain ⟨br7, er7, lr7, hr7⟩ := hI.blk 11 _ _ _ (hall 11 (by omega)) rfl
  rw [if_pos (hall 14 (by omega))] at hr7
  have nr5_6 : br5 ≠ br6 := fun e => hI.dis 9 10 _ _ _ _ _ _ (by omega) (hall 9 (by omega)) (hall 10 (by omega)) rfl rfl (by rw [er5, er6, e])
  have nr5_7 : br5 ≠ br7 := fun e => hI.dis 9 11 _ _ _ _ _ _ (by omega) (hall 9 (by omega)) (hall 11 (by omega)) rfl rfl (by rw [er5, er7, e])
  have nr6_7 : br6 ≠ br7 := fun e => hI.dis 10 11 _ _ _ _ _ _ (by omega) (hall 10 (by omega)) (hall 11 (by omega)) rfl rfl (by rw [er6, er7, e])
  rw [putAll_step (n := 14) rfl (hall 14 (by omega)) (d := none) rfl rfl, putAll_step (n := 13) rfl (hall 13 (by omega)) (d := none) rfl rfl, putAll_step (n := 12) rfl (hall 12 (by omega)) (d := none) rfl rfl, putAll_step (n := 11) rfl (hall 11 (by omega)) (d := (some 7)) rfl er7, putAll_step (n := 10) rfl (hall 10 (by omega)) (d := (some 6)) rfl er6, putAll_step (n := 9) rfl (hall 9 (by omega)) (d := (some 5)) rfl er5, putAll_step (n := 8) rfl (hall 8 (by omega)) (d := (some 23)) rfl (hI.val_ 8 _ (hall 8 (by omega)) rfl), putAll_step (n := 7) rfl (hall 7 (by omega)) (d := (some 22)) rfl (hI.val_ 7 _ (hall 7 (by omega)) rfl), putAll_step (n := 6) rfl (hall 6 (by omega)) (d := (some 21)) rfl (hI.val_ 6 _ (hall 6 (by omega)) rfl), putAll_step (n := 5) rfl (hall 5 (by omega)) (d := (some 20)) rfl (hI.val_ 5 _ (hall 5 (by omega)) rfl), putAll_step (n := 4) rfl (hall 4 (by omega)) (d := (some 19)) rfl (hI.val_ 4 _ (hall 4 (by omega)) rfl), putAll_step (n := 3) rfl (hall 3 (by omega)) (d := (some 18)) rfl (hI.val_ 3 _ (hall 3 (by omega)) rfl), putAll_step (n := 2) rfl (hall 2 (by omega)) (d := (some 17)) rfl (hI.val_ 2 _ (hall 2 (by omega)) rfl), putAll_step (n := 1) rfl (hall 1 (by omega)) (d := (some 16)) rfl (hI.val_ 1 _ (hall 1 (by omega)) rfl), putAll_step (n := 0) rfl (hall 0 (by omega)) (d := (some 15)) rfl (hI.val_ 0 _ (hall 0 (by omega)) rfl), putAll_zero]
  have hbase := hI.base
  clear hI hall hBC er5 er6 er7
  go_frame
  obtain ⟨hB, h0⟩ := hbase
  go_upto_region 2 with (fail)
  refine wp_region_lit ?_
  refine ls_ex (some 8) (.slice none 0 0) rfl rfl (exec_assign _ rfl (.slice none 0 0) rfl) ?_
  go_frame
  refine wpList_nil ?_
  go_upto_region 3 with (fail)
  refine wp_region_lit ?_
  refine ls_ex (some 24) (.agg (u8s (partsL (segm t 0 36)))) rfl rfl (exec_load_all 62 _ rfl br5 rfl _ _ _ hr5 Try.underlying62 rfl 36 (by kernel_rfl) ((u8s_size _).trans (partsL_len _))) ?_
  go_frame
  refine ls_ex (some 25) (.int .i64 0) rfl rfl (exec_move _ rfl (.int .i64 0) rfl) ?_
  go_frame
  refine wpList_nil ?_
  go_wp2_with fail
  go_loopw [8, 25] (fun s8 s25 wr => ∃ (i : Nat) (v : Value), i ≤ 4 ∧ s25 = .int .i64 i ∧ s8 = v ∧ Below w.heap.size w wr ∧ At wr br6 (.cells (u8s (partsL (segm t 36 36))) 62 (0, 0)) ∧ At wr br7 (.cells (u8s (partsL (segm t 72 36))) 62 (0, 0)) ∧ Own wr w.heap.size v (exS [] h t i 0)) (fun _ s25 _ => 4 - (intOf s25).toNat)
  case atStart => exact ⟨0, _, by omega, rfl, rfl, hB, hr6, hr7, by rw [exS_start]; exact Own.nil _ _⟩
  case round =>
    clear hB hr5 hr6 hr7
    obtain ⟨i, v, hi, rfl, rfl, hB, hr6, hr7, ho⟩ := hrel
    by_cases hi4 : i < 4
    · obtain ⟨N8, hN8⟩ : ∃ N, (exS [] h t i 0).length = N := ⟨_, rfl⟩
      obtain ⟨A9, c9, rfl⟩ := Own.rdN2 ho (n := N8) hN8
      clear hN8
      go_upto_region 4 with (fail)
      refine wp_region_lit ?_
      refine ls_ex (some 26) (.bool true) rfl rfl (exec_lss _ _ _ _ rfl i 4 rfl rfl true (decide_eq_true (by omega))) ?_
      go_frame
      refine wpList_nil ?_
      go_upto_region 5 with (fail)
      refine wp_region_lit ?_
      refine ls_ex (some 27) (.int .i64 i) rfl rfl (exec_move _ rfl (.int .i64 i) rfl) ?_
      go_frame
      refine ls_ex (some 28) (.agg (u8s (partL (segm t 0 36) i))) rfl rfl (exec_index_part4 _ _ rfl i (segm t 0 36) rfl rfl hi4) ?_
      go_frame
      refine ls_op rfl (fun K' hK' => ?_)
      have lz6 := hB.size
      have lz7 := hr6.lt
      have lz8 := hr7.lt
      have naz13 := ho.away_new
      refine wp_new (some 10) rfl (al_impl_Form rfl) (fun Wz9 nnz10 => ?_)
      have bz11 := nnz10.below (Below.refl _ _) (Nat.le_refl _)
      replace hB := below_after hB bz11
      replace hr6 := hr6.after bz11
      replace hr7 := hr7.after bz11
      replace ho := ho.below bz11
      have hz12 : At Wz9 wr.heap.size (.cells (u8s (List.replicate 9 0)) 55 (0, 0)) := nnz10.at_
      refine hK' _ _ ?_
      clear hK' K' nnz10 bz11
      go_frame
      refine ls_ex (some 9) (.int .i64 i) rfl rfl (exec_assign _ rfl (.int .i64 i) rfl) ?_
      go_frame
      refine ls_op rfl (fun K' hK' => ?_)
      refine wp_store_bytes 55 _ _ rfl rfl wr.heap.size rfl (partL (segm t 0 36) i) rfl _ _ hz12 9 (by kernel_rfl) (partL_len _ _) (by simp) (fun Wz14 pz15 => ?_)
      replace hB := pz15.below hB (by omega)
      replace hr6 := pz15.other hr6 (by omega)
      replace hr7 := pz15.other hr7 (by omega)
      replace ho := ho.put pz15 naz13
      replace hz12 : At Wz14 wr.heap.size (.cells (u8s (partL (segm t 0 36) i)) 55 (0, 0)) := pz15.at_
      refine hK' _ _ ?_
      clear hK' K' pz15
      refine wpList_nil ?_
      go_upto_region 6 with (fail)
      refine wp_region_lit ?_
      refine ls_ex (some 29) (.agg (u8s (partsL (segm t 36 36)))) rfl rfl (exec_load_all 62 _ rfl br6 rfl _ _ _ hr6 Try.underlying62 rfl 36 (by kernel_rfl) ((u8s_size _).trans (partsL_len _))) ?_
      go_frame
      refine ls_ex (some 30) (.int .i64 0) rfl rfl (exec_move _ rfl (.int .i64 0) rfl) ?_
      go_frame
      refine wpList_nil ?_
      go_wp2_with fail
      obtain ⟨we, rfl⟩ : ∃ x : World, x = wr := ⟨_, rfl⟩
      go_loopw [8, 30] (fun s8 s30 wr => ∃ (j : Nat) (v : Value), j ≤ 4 ∧ s30 = .int .i64 j ∧ s8 = v ∧ Below w.heap.size w wr ∧ At wr br6 (.cells (u8s (partsL (segm t 36 36))) 62 (0, 0)) ∧ At wr br7 (.cells (u8s (partsL (segm t 72 36))) 62 (0, 0)) ∧ At wr we.heap.size (.cells (u8s (partL (segm t 0 36) i)) 55 (0, 0)) ∧ Own wr w.heap.size v (exS [] h t i j)) (fun _ s30 _ => 4 - (intOf s30).toNat)
      case atStart => exact ⟨0, _, by omega, rfl, rfl, hB, hr6, hr7, hz12, ho⟩
      case round =>
        clear hB hr6 hr7 ho hz12
        obtain ⟨j, v, hj, rfl, rfl, hB, hr6, hr7, h3, ho⟩ := hrel
        by_cases hj4 : j < 4
        · by_cases hb : i + j ≤ h ∧ h - (i + j) ≤ 3
          · cases hnz : nzB (prQ h t i j) with
            | true =>
              obtain ⟨N8, hN8⟩ : ∃ N, (exS [] h t i j).length = N := ⟨_, rfl⟩
              obtain ⟨A9, c9, rfl⟩ := Own.rdN2 ho (n := N8) hN8
              clear hN8
              have HBt : Hid ((decide (0 ≤ ((h : Int) - (i : Int)) - (j : Int)) && decide (((h : Int) - (i : Int)) - (j : Int) ≤ 3)) = true) := Lib.hid (by rw [decide_eq_true (by omega), decide_eq_true (by omega)]; rfl)
              have HNz := Lib.hid hnz
              have HT : Hid (exS [] h t i j ++ [prQ h t i j] = exS [] h t i (j + 1)) := Lib.hid (exS_add hb.1 hb.2 hnz)
              obtain ⟨N7, hN7⟩ : ∃ N, (exS [] h t i (j + 1)).length = N := ⟨_, rfl⟩
              have HN7 := Lib.hid hN7
              have HN8 : Hid ((exS [] h t i j).length ≤ 1000000) := Lib.hid (by have h9 := exS_len (pre := []) (h := h) (t := t) (i := i) (j := j); simp only [List.length_nil] at h9; omega)
              clear hN7 hnz
              go_upto_region 7 with (fail)
              refine wp_region_lit ?_
              refine ls_ex (some 31) (.bool true) rfl rfl (exec_lss _ _ _ _ rfl j 4 rfl rfl true (decide_eq_true (by omega))) ?_
              go_frame
              refine wpList_nil ?_
              go_upto_region 8 with (fail)
              refine wp_region_lit ?_
              refine ls_ex (some 32) (.int .i64 j) rfl rfl (exec_move _ rfl (.int .i64 j) rfl) ?_
              go_frame
              refine ls_ex (some 33) (.agg (u8s (partL (segm t 36 36) j))) rfl rfl (exec_index_part4 _ _ rfl j (segm t 36 36) rfl rfl hj4) ?_
              go_frame
              refine ls_op rfl (fun K' hK' => ?_)
              have lz16 := hB.size
              have lz17 := hr6.lt
              have lz18 := hr7.lt
              have lz19 := h3.lt
              have naz24 := ho.away_new
              refine wp_new (some 12) rfl (al_impl_Form rfl) (fun Wz20 nnz21 => ?_)
              have bz22 := nnz21.below (Below.refl _ _) (Nat.le_refl _)
              replace hB := below_after hB bz22
              replace hr6 := hr6.after bz22
              replace hr7 := hr7.after bz22
              replace h3 := h3.after bz22
              replace ho := ho.below bz22
              have hz23 : At Wz20 wr.heap.size (.cells (u8s (List.replicate 9 0)) 55 (0, 0)) := nnz21.at_
              refine hK' _ _ ?_
              clear hK' K' nnz21 bz22
              go_frame
              refine ls_ex (some 11) (.int .i64 j) rfl rfl (exec_assign _ rfl (.int .i64 j) rfl) ?_
              go_frame
              refine ls_op rfl (fun K' hK' => ?_)
              refine wp_store_bytes 55 _ _ rfl rfl wr.heap.size rfl (partL (segm t 36 36) j) rfl _ _ hz23 9 (by kernel_rfl) (partL_len _ _) (by simp) (fun Wz25 pz26 => ?_)
              replace hB := pz26.below hB (by omega)
              replace hr6 := pz26.other hr6 (by omega)
              replace hr7 := pz26.other hr7 (by omega)
              replace h3 := pz26.other h3 (by omega)
              replace ho := ho.put pz26 naz24
              replace hz23 : At Wz25 wr.heap.size (.cells (u8s (partL (segm t 36 36) j)) 55 (0, 0)) := pz26.at_
              refine hK' _ _ ?_
              clear hK' K' pz26
              refine wpList_nil ?_
              go_upto_region 9 with (fail)
              refine wp_region_lit ?_
              refine ls_ex (some 34) (.int .i64 h) rfl rfl (exec_move _ rfl (.int .i64 h) rfl) ?_
              go_frame
              refine ls_ex (some 35) (.int .i64 i) rfl rfl (exec_move _ rfl (.int .i64 i) rfl) ?_
              go_frame
              refine ls_ex (some 36) (.int .i64 ((h : Int) - (i : Int))) rfl rfl (exec_sub _ _ _ _ rfl (h : Int) (i : Int) ((h : Int) - (i : Int)) rfl rfl (IntWalk.i64_in _ (by omega))) ?_
              go_frame
              refine ls_ex (some 37) (.int .i64 j) rfl rfl (exec_move _ rfl (.int .i64 j) rfl) ?_
              go_frame
              refine ls_ex (some 38) (.int .i64 (((h : Int) - (i : Int)) - (j : Int))) rfl rfl (exec_sub _ _ _ _ rfl ((h : Int) - (i : Int)) (j : Int) (((h : Int) - (i : Int)) - (j : Int)) rfl rfl (IntWalk.i64_in _ (by omega))) ?_
              go_frame
              refine ls_ex (some 13) (.int .i64 (((h : Int) - (i : Int)) - (j : Int))) rfl rfl (exec_assign _ rfl (.int .i64 (((h : Int) - (i : Int)) - (j : Int))) rfl) ?_
              go_frame
              refine wpList_nil ?_
              go_upto_region 10 with (fail)
              refine wp_region_lit ?_
              refine ls_ex (some 39) (.int .i64 (((h : Int) - (i : Int)) - (j : Int))) rfl rfl (exec_move _ rfl (.int .i64 (((h : Int) - (i : Int)) - (j : Int))) rfl) ?_
              go_frame
              refine ls_op rfl (fun K' hK' => ?_)
              have lz29 := hB.size
              have lz30 := hr6.lt
              have lz31 := hr7.lt
              have lz32 := h3.lt
              have lz33 := hz23.lt
              refine wp_call3 (some 40) rfl 65 _ _ _ _ rfl (fun args w => by kernel_rfl) _ _ _ rfl rfl rfl _ (isBetween_c 0 (((h : Int) - (i : Int)) - (j : Int)) 3 _) (fun e Wz27 h => ?_)
              obtain ⟨rfl, rfl⟩ := h
              rw [HBt.out]
              refine ⟨_, rfl, ?_⟩
              refine hK' _ _ ?_
              clear hK' K'
              go_frame
              refine ls_ex (some 41) (.bool false) rfl rfl (exec_not _ _ rfl true rfl) ?_
              go_frame
              refine wpList_nil ?_
              go_upto_region 11 with (fail)
              refine wp_region_y (zs := []) (S := fun w' => Below w.heap.size w w' ∧ At w' we.heap.size (.cells (u8s (partL (segm t 0 36) i)) 55 (0, 0)) ∧ At w' wr.heap.size (.cells (u8s (partL (segm t 36 36) j)) 55 (0, 0)) ∧ At w' br7 (.cells (u8s (partsL (segm t 72 36))) 62 (0, 0))) (S2 := fun w' => True) (by kernel_rfl) ?_
              change wpAnyY _ _ _ _ _ _ _ _ _ _ (World.drew _)
              generalize hwdz34 : World.drew _ = wdz34
              replace hB : Below w.heap.size w wdz34 := by rw [← hwdz34]; exact hB.drew
              replace hr6 : At wdz34 br6 (.cells (u8s (partsL (segm t 36 36))) 62 (0, 0)) := by rw [← hwdz34]; exact hr6
              replace hr7 : At wdz34 br7 (.cells (u8s (partsL (segm t 72 36))) 62 (0, 0)) := by rw [← hwdz34]; exact hr7
              replace h3 : At wdz34 we.heap.size (.cells (u8s (partL (segm t 0 36) i)) 55 (0, 0)) := by rw [← hwdz34]; exact h3
              replace ho : Own wdz34 w.heap.size (.slice A9 N8 c9) (exS [] h t i j) := by rw [← hwdz34]; exact ho.drew
              replace hz23 : At wdz34 wr.heap.size (.cells (u8s (partL (segm t 36 36) j)) 55 (0, 0)) := by rw [← hwdz34]; exact hz23
              clear hwdz34
              refine y_yield 0 (some 42) (.agg (u8s (partL (segm t 0 36) i))) rfl (by kernel_rfl) (by kernel_rfl) (by kernel_rfl) (fun _ _ _ h => h) rfl rfl ⟨hB, h3, hz23, hr7⟩ (fun w' h' => exec_load_all 55 _ rfl we.heap.size rfl _ _ _ h'.2.1 Try.underlying55 rfl 9 (by kernel_rfl) ((u8s_size _).trans (partL_len _ _))) ?_
              go_frame
              refine y_yield 1 (some 43) (.agg (u8s (partL (segm t 36 36) j))) rfl (by kernel_rfl) (by kernel_rfl) (by kernel_rfl) (fun _ _ _ h => h) rfl rfl ⟨hB, h3, hz23, hr7⟩ (fun w' h' => exec_load_all 55 _ rfl wr.heap.size rfl _ _ _ h'.2.2.1 Try.underlying55 rfl 9 (by kernel_rfl) ((u8s_size _).trans (partL_len _ _))) ?_
              go_frame
              refine y_yield 2 (some 44) (.int .i64 (((h : Int) - (i : Int)) - (j : Int))) rfl (by kernel_rfl) (by kernel_rfl) (by kernel_rfl) (fun _ _ _ h => h) rfl rfl ⟨hB, h3, hz23, hr7⟩ (fun w' h' => exec_move _ rfl (.int .i64 (((h : Int) - (i : Int)) - (j : Int))) rfl) ?_
              go_frame
              refine y_yield 3 (some 45) (.pointer (some ⟨br7, (h - (i + j)) * 9, none⟩)) rfl (by kernel_rfl) (by kernel_rfl) (by kernel_rfl) (fun _ _ _ h => h) rfl rfl ⟨hB, h3, hz23, hr7⟩ (fun w' h' => exec_formZ _ _ rfl br7 (h - (i + j)) (((h : Int) - (i : Int)) - (j : Int)) rfl rfl (by omega) (by omega)) ?_
              go_frame
              refine y_yield 4 (some 46) (.agg (u8s (partL (segm t 72 36) (h - (i + j))))) rfl (by kernel_rfl) (by kernel_rfl) (by kernel_rfl) (fun _ _ _ h => h) rfl rfl ⟨hB, h3, hz23, hr7⟩ (fun w' h' => exec_load_partE _ rfl br7 (h - (i + j)) rfl _ (segm t 72 36) h'.2.2.2 (by omega)) ?_
              go_frame
              refine y_yield 5 (some 47) (.agg (u8s (cat3 (partL (segm t 0 36) i) (partL (segm t 36 36) j) (partL (segm t 72 36) (h - (i + j)))))) rfl (by kernel_rfl) (by kernel_rfl) (by kernel_rfl) (fun _ _ _ h => h) rfl rfl ⟨hB, h3, hz23, hr7⟩ (fun w' h' => exec_prodC _ _ _ rfl (partL (segm t 0 36) i) (partL (segm t 36 36) j) (partL (segm t 72 36) (h - (i + j))) rfl rfl rfl (partL_len _ _) (partL_len _ _) (partL_len _ _)) ?_
              go_frame
              refine y_oper 6 (by kernel_rfl) rfl rfl (fun K' hK' => ?_)
              have lz35 := hB.size
              have lz36 := hr6.lt
              have lz37 := hr7.lt
              have lz38 := h3.lt
              have lz39 := hz23.lt
              have naz44 := ho.away_new
              refine wp_new (some 14) rfl (al_impl_Product rfl) (fun Wz40 nnz41 => ?_)
              have bz42 := nnz41.below (Below.refl _ _) (Nat.le_refl _)
              replace hB := below_after hB bz42
              replace hr6 := hr6.after bz42
              replace hr7 := hr7.after bz42
              replace h3 := h3.after bz42
              replace ho := ho.below bz42
              replace hz23 := hz23.after bz42
              have hz43 : At Wz40 wdz34.heap.size (.cells (u8s (List.replicate 27 0)) 58 (0, 0)) := nnz41.at_
              refine hK' _ _ ⟨hB, h3, hz23, hr7⟩ (fun _ => trivial) ?_
              clear hK' K' nnz41 bz42
              go_frame
              refine y_oper 7 (by kernel_rfl) rfl rfl (fun K' hK' => ?_)
              refine wp_store_bytes 58 _ _ rfl rfl wdz34.heap.size rfl (cat3 (partL (segm t 0 36) i) (partL (segm t 36 36) j) (partL (segm t 72 36) (h - (i + j)))) rfl _ _ hz43 27 (by kernel_rfl) (prQ_bytes ht h i j).len (by simp) (fun Wz45 pz46 => ?_)
              replace hB := pz46.below hB (by omega)
              replace hr6 := pz46.other hr6 (by omega)
              replace hr7 := pz46.other hr7 (by omega)
              replace h3 := pz46.other h3 (by omega)
              replace ho := ho.put pz46 naz44
              replace hz23 := pz46.other hz23 (by omega)
              replace hz43 : At Wz45 wdz34.heap.size (.cells (u8s (cat3 (partL (segm t 0 36) i) (partL (segm t 36 36) j) (partL (segm t 72 36) (h - (i + j))))) 58 (0, 0)) := pz46.at_
              refine hK' _ _ ⟨hB, h3, hz23, hr7⟩ (fun _ => trivial) ?_
              clear hK' K' pz46
              refine y_done (by kernel_rfl) ?_ _
              go_upto_region 12 with (fail)
              refine wp_region_lit ?_
              refine ls_ex (some 48) (.agg (u8s (cat3 (partL (segm t 0 36) i) (partL (segm t 36 36) j) (partL (segm t 72 36) (h - (i + j)))))) rfl rfl (exec_load_all 58 _ rfl wdz34.heap.size rfl _ _ _ hz43 Try.underlying58 rfl 27 (by kernel_rfl) ((u8s_size _).trans (prQ_bytes ht h i j).len)) ?_
              go_frame
              refine ls_op rfl (fun K' hK' => ?_)
              have lz49 := hB.size
              have lz50 := hr6.lt
              have lz51 := hr7.lt
              have lz52 := h3.lt
              have lz53 := hz23.lt
              have lz54 := hz43.lt
              refine wp_call1 (some 49) rfl 35 _ _ rfl (fun args w => by kernel_rfl) _ rfl _ (hasZero_c (prQ h t i j) (prQ_bytes ht h i j) _) (fun e Wz47 h => ?_)
              obtain ⟨rfl, bz48⟩ := h
              replace hB := below_after hB bz48
              replace hr6 := hr6.after bz48
              replace hr7 := hr7.after bz48
              replace h3 := h3.after bz48
              replace ho := ho.below bz48
              replace hz23 := hz23.after bz48
              replace hz43 := hz43.after bz48
              rw [HNz.out]
              clear bz48
              refine ⟨_, rfl, ?_⟩
              refine hK' _ _ ?_
              clear hK' K'
              go_frame
              refine ls_ex (some 50) (.bool true) rfl rfl (exec_not _ _ rfl false rfl) ?_
              go_frame
              refine wpList_nil ?_
              go_upto_region 13 with (fail)
              refine wp_region_lit ?_
              refine ls_ex (some 51) (.slice A9 N8 c9) rfl rfl (exec_move _ rfl (.slice A9 N8 c9) rfl) ?_
              go_frame
              refine ls_ex (some 52) (.agg (u8s (cat3 (partL (segm t 0 36) i) (partL (segm t 36 36) j) (partL (segm t 72 36) (h - (i + j)))))) rfl rfl (exec_load_all 58 _ rfl wdz34.heap.size rfl _ _ _ hz43 Try.underlying58 rfl 27 (by kernel_rfl) ((u8s_size _).trans (prQ_bytes ht h i j).len)) ?_
              go_frame
              refine ls_op rfl (fun K' hK' => ?_)
              have lz55 := hB.size
              have lz56 := hr6.lt
              have lz57 := hr7.lt
              have lz58 := h3.lt
              have lz59 := hz23.lt
              have lz60 := hz43.lt
              refine wp_slice1 (some 53) rfl 26 58 _ rfl (prQ h t i j) rfl Try.underlying26 infoProd (prQ_bytes ht h i j).len (fun Wz61 nnz62 => ?_)
              have bz63 := nnz62.below (Below.refl _ _) (Nat.le_refl _)
              replace hB := below_after hB bz63
              replace hr6 := hr6.after bz63
              replace hr7 := hr7.after bz63
              replace h3 := h3.after bz63
              replace ho := ho.below bz63
              replace hz23 := hz23.after bz63
              replace hz43 := hz43.after bz63
              have hqz64 : At Wz61 Wz47.heap.size (.cells (u8s (prQ h t i j)) 58 (0, 0)) := nnz62.at_
              refine hK' _ _ ?_
              clear hK' K' nnz62 bz63
              go_frame
              refine ls_op rfl (fun K' hK' => ?_)
              have lz68 := hB.size
              have lz69 := hr6.lt
              have lz70 := hr7.lt
              have lz71 := h3.lt
              have lz72 := hz23.lt
              have lz73 := hz43.lt
              have lz74 := hqz64.lt
              refine wp_appP (some 54) rfl _ _ rfl (.slice A9 N8 c9) (exS [] h t i j) (prQ h t i j) rfl ho Wz47.heap.size rfl hqz64 (prQ_bytes ht h i j).len HN8.out (by omega) (fun v6 Wz65 noz67 grz66 => ?_)
              rw [HT.out] at noz67
              obtain ⟨A6, c6, rfl⟩ := Own.rdN2 noz67 (n := N7) HN7.out
              replace hB := below_grown hB grz66 ho (by omega)
              replace hr6 := hr6.grown grz66 (ho.off hr6 (by decide))
              replace hr7 := hr7.grown grz66 (ho.off hr7 (by decide))
              replace h3 := h3.grown grz66 (ho.off h3 (by decide))
              replace hz23 := hz23.grown grz66 (ho.off hz23 (by decide))
              replace hz43 := hz43.grown grz66 naz44
              replace ho := noz67
              refine hK' _ _ ?_
              clear hK' K' grz66 hqz64
              go_frame
              refine ls_ex (some 8) (.slice A6 N7 c6) rfl rfl (exec_assign _ rfl (.slice A6 N7 c6) rfl) ?_
              go_frame
              refine wpList_nil ?_
              go_upto_region 14 with (fail)
              refine wp_region_lit ?_
              refine ls_ex (some 55) (.int .i64 (j + 1)) rfl rfl (exec_add _ _ _ _ rfl j 1 (j + 1) rfl rfl (IntWalk.i64_in _ (by omega))) ?_
              go_frame
              refine ls_ex (some 30) (.int .i64 (j + 1)) rfl rfl (exec_move _ rfl (.int .i64 (j + 1)) rfl) ?_
              go_frame
              refine wpList_nil ?_
              go_wp2_with fail
              go_roundw
              case rel => exact ⟨j + 1, _, by omega, by go_num, rfl, hB, hr6, hr7, h3, ho⟩
              case measure => simp [intOf]; omega
            | false =>
              obtain ⟨N8, hN8⟩ : ∃ N, (exS [] h t i j).length = N := ⟨_, rfl⟩
              obtain ⟨A9, c9, rfl⟩ := Own.rdN2 ho (n := N8) hN8
              clear hN8
              have HBt : Hid ((decide (0 ≤ ((h : Int) - (i : Int)) - (j : Int)) && decide (((h : Int) - (i : Int)) - (j : Int) ≤ 3)) = true) := Lib.hid (by rw [decide_eq_true (by omega), decide_eq_true (by omega)]; rfl)
              have HNz := Lib.hid hnz
              have HT : Hid (exS [] h t i j = exS [] h t i (j + 1)) := Lib.hid (exS_skip (fun hc => by (rw [hnz] at hc; cases hc.2.2)))
              rw [HT.out] at ho
              clear hnz
              go_upto_region 7 with (fail)
              refine wp_region_lit ?_
              refine ls_ex (some 31) (.bool true) rfl rfl (exec_lss _ _ _ _ rfl j 4 rfl rfl true (decide_eq_true (by omega))) ?_
              go_frame
              refine wpList_nil ?_
              go_upto_region 8 with (fail)
              refine wp_region_lit ?_
              refine ls_ex (some 32) (.int .i64 j) rfl rfl (exec_move _ rfl (.int .i64 j) rfl) ?_
              go_frame
              refine ls_ex (some 33) (.agg (u8s (partL (segm t 36 36) j))) rfl rfl (exec_index_part4 _ _ rfl j (segm t 36 36) rfl rfl hj4) ?_
              go_frame
              refine ls_op rfl (fun K' hK' => ?_)
              have lz75 := hB.size
              have lz76 := hr6.lt
              have lz77 := hr7.lt
              have lz78 := h3.lt
              have naz83 := ho.away_new
              refine wp_new (some 12) rfl (al_impl_Form rfl) (fun Wz79 nnz80 => ?_)
              have bz81 := nnz80.below (Below.refl _ _) (Nat.le_refl _)
              replace hB := below_after hB bz81
              replace hr6 := hr6.after bz81
              replace hr7 := hr7.after bz81
              replace h3 := h3.after bz81
              replace ho := ho.below bz81
              have hz82 : At Wz79 wr.heap.size (.cells (u8s (List.replicate 9 0)) 55 (0, 0)) := nnz80.at_
              refine hK' _ _ ?_
              clear hK' K' nnz80 bz81
              go_frame
              refine ls_ex (some 11) (.int .i64 j) rfl rfl (exec_assign _ rfl (.int .i64 j) rfl) ?_
              go_frame
              refine ls_op rfl (fun K' hK' => ?_)
              refine wp_store_bytes 55 _ _ rfl rfl wr.heap.size rfl (partL (segm t 36 36) j) rfl _ _ hz82 9 (by kernel_rfl) (partL_len _ _) (by simp) (fun Wz84 pz85 => ?_)
              replace hB := pz85.below hB (by omega)
              replace hr6 := pz85.other hr6 (by omega)
              replace hr7 := pz85.other hr7 (by omega)
              replace h3 := pz85.other h3 (by omega)
              replace ho := ho.put pz85 naz83
              replace hz82 : At Wz84 wr.heap.size (.cells (u8s (partL (segm t 36 36) j)) 55 (0, 0)) := pz85.at_
              refine hK' _ _ ?_
              clear hK' K' pz85
              refine wpList_nil ?_
              go_upto_region 9 with (fail)
              refine wp_region_lit ?_
              refine ls_ex (some 34) (.int .i64 h) rfl rfl (exec_move _ rfl (.int .i64 h) rfl) ?_
              go_frame
              refine ls_ex (some 35) (.int .i64 i) rfl rfl (exec_move _ rfl (.int .i64 i) rfl) ?_
              go_frame
              refine ls_ex (some 36) (.int .i64 ((h : Int) - (i : Int))) rfl rfl (exec_sub _ _ _ _ rfl (h : Int) (i : Int) ((h : Int) - (i : Int)) rfl rfl (IntWalk.i64_in _ (by omega))) ?_
              go_frame
              refine ls_ex (some 37) (.int .i64 j) rfl rfl (exec_move _ rfl (.int .i64 j) rfl) ?_
              go_frame
              refine ls_ex (some 38) (.int .i64 (((h : Int) - (i : Int)) - (j : Int))) rfl rfl (exec_sub _ _ _ _ rfl ((h : Int) - (i : Int)) (j : Int) (((h : Int) - (i : Int)) - (j : Int)) rfl rfl (IntWalk.i64_in _ (by omega))) ?_
              go_frame
              refine ls_ex (some 13) (.int .i64 (((h : Int) - (i : Int)) - (j : Int))) rfl rfl (exec_assign _ rfl (.int .i64 (((h : Int) - (i : Int)) - (j : Int))) rfl) ?_
              go_frame
              refine wpList_nil ?_
              go_upto_region 10 with (fail)
              refine wp_region_lit ?_
              refine ls_ex (some 39) (.int .i64 (((h : Int) - (i : Int)) - (j : Int))) rfl rfl (exec_move _ rfl (.int .i64 (((h : Int) - (i : Int)) - (j : Int))) rfl) ?_
              go_frame
              refine ls_op rfl (fun K' hK' => ?_)
              have lz88 := hB.size
              have lz89 := hr6.lt
              have lz90 := hr7.lt
              have lz91 := h3.lt
              have lz92 := hz82.lt
              refine wp_call3 (some 40) rfl 65 _ _ _ _ rfl (fun args w => by kernel_rfl) _ _ _ rfl rfl rfl _ (isBetween_c 0 (((h : Int) - (i : Int)) - (j : Int)) 3 _) (fun e Wz86 h => ?_)
              obtain ⟨rfl, rfl⟩ := h
              rw [HBt.out]
              refine ⟨_, rfl, ?_⟩
              refine hK' _ _ ?_
              clear hK' K'
              go_frame
              refine ls_ex (some 41) (.bool false) rfl rfl (exec_not _ _ rfl true rfl) ?_
              go_frame
              refine wpList_nil ?_
              go_upto_region 11 with (fail)
              refine wp_region_y (zs := []) (S := fun w' => Below w.heap.size w w' ∧ At w' we.heap.size (.cells (u8s (partL (segm t 0 36) i)) 55 (0, 0)) ∧ At w' wr.heap.size (.cells (u8s (partL (segm t 36 36) j)) 55 (0, 0)) ∧ At w' br7 (.cells (u8s (partsL (segm t 72 36))) 62 (0, 0))) (S2 := fun w' => True) (by kernel_rfl) ?_
              change wpAnyY _ _ _ _ _ _ _ _ _ _ (World.drew _)
              generalize hwdz93 : World.drew _ = wdz93
              replace hB : Below w.heap.size w wdz93 := by rw [← hwdz93]; exact hB.drew
              replace hr6 : At wdz93 br6 (.cells (u8s (partsL (segm t 36 36))) 62 (0, 0)) := by rw [← hwdz93]; exact hr6
              replace hr7 : At wdz93 br7 (.cells (u8s (partsL (segm t 72 36))) 62 (0, 0)) := by rw [← hwdz93]; exact hr7
              replace h3 : At wdz93 we.heap.size (.cells (u8s (partL (segm t 0 36) i)) 55 (0, 0)) := by rw [← hwdz93]; exact h3
              replace ho : Own wdz93 w.heap.size (.slice A9 N8 c9) (exS [] h t i (j + 1)) := by rw [← hwdz93]; exact ho.drew
              replace hz82 : At wdz93 wr.heap.size (.cells (u8s (partL (segm t 36 36) j)) 55 (0, 0)) := by rw [← hwdz93]; exact hz82
              clear hwdz93
              refine y_yield 0 (some 42) (.agg (u8s (partL (segm t 0 36) i))) rfl (by kernel_rfl) (by kernel_rfl) (by kernel_rfl) (fun _ _ _ h => h) rfl rfl ⟨hB, h3, hz82, hr7⟩ (fun w' h' => exec_load_all 55 _ rfl we.heap.size rfl _ _ _ h'.2.1 Try.underlying55 rfl 9 (by kernel_rfl) ((u8s_size _).trans (partL_len _ _))) ?_
              go_frame
              refine y_yield 1 (some 43) (.agg (u8s (partL (segm t 36 36) j))) rfl (by kernel_rfl) (by kernel_rfl) (by kernel_rfl) (fun _ _ _ h => h) rfl rfl ⟨hB, h3, hz82, hr7⟩ (fun w' h' => exec_load_all 55 _ rfl wr.heap.size rfl _ _ _ h'.2.2.1 Try.underlying55 rfl 9 (by kernel_rfl) ((u8s_size _).trans (partL_len _ _))) ?_
              go_frame
              refine y_yield 2 (some 44) (.int .i64 (((h : Int) - (i : Int)) - (j : Int))) rfl (by kernel_rfl) (by kernel_rfl) (by kernel_rfl) (fun _ _ _ h => h) rfl rfl ⟨hB, h3, hz82, hr7⟩ (fun w' h' => exec_move _ rfl (.int .i64 (((h : Int) - (i : Int)) - (j : Int))) rfl) ?_
              go_frame
              refine y_yield 3 (some 45) (.pointer (some ⟨br7, (h - (i + j)) * 9, none⟩)) rfl (by kernel_rfl) (by kernel_rfl) (by kernel_rfl) (fun _ _ _ h => h) rfl rfl ⟨hB, h3, hz82, hr7⟩ (fun w' h' => exec_formZ _ _ rfl br7 (h - (i + j)) (((h : Int) - (i : Int)) - (j : Int)) rfl rfl (by omega) (by omega)) ?_
              go_frame
              refine y_yield 4 (some 46) (.agg (u8s (partL (segm t 72 36) (h - (i + j))))) rfl (by kernel_rfl) (by kernel_rfl) (by kernel_rfl) (fun _ _ _ h => h) rfl rfl ⟨hB, h3, hz82, hr7⟩ (fun w' h' => exec_load_partE _ rfl br7 (h - (i + j)) rfl _ (segm t 72 36) h'.2.2.2 (by omega)) ?_
              go_frame
              refine y_yield 5 (some 47) (.agg (u8s (cat3 (partL (segm t 0 36) i) (partL (segm t 36 36) j) (partL (segm t 72 36) (h - (i + j)))))) rfl (by kernel_rfl) (by kernel_rfl) (by kernel_rfl) (fun _ _ _ h => h) rfl rfl ⟨hB, h3, hz82, hr7⟩ (fun w' h' => exec_prodC _ _ _ rfl (partL (segm t 0 36) i) (partL (segm t 36 36) j) (partL (segm t 72 36) (h - (i + j))) rfl rfl rfl (partL_len _ _) (partL_len _ _) (partL_len _ _)) ?_
              go_frame
              refine y_oper 6 (by kernel_rfl) rfl rfl (fun K' hK' => ?_)
              have lz94 := hB.size
              have lz95 := hr6.lt
              have lz96 := hr7.lt
              have lz97 := h3.lt
              have lz98 := hz82.lt
              have naz103 := ho.away_new
              refine wp_new (some 14) rfl (al_impl_Product rfl) (fun Wz99 nnz100 => ?_)
              have bz101 := nnz100.below (Below.refl _ _) (Nat.le_refl _)
              replace hB := below_after hB bz101
              replace hr6 := hr6.after bz101
              replace hr7 := hr7.after bz101
              replace h3 := h3.after bz101
              replace ho := ho.below bz101
              replace hz82 := hz82.after bz101
              have hz102 : At Wz99 wdz93.heap.size (.cells (u8s (List.replicate 27 0)) 58 (0, 0)) := nnz100.at_
              refine hK' _ _ ⟨hB, h3, hz82, hr7⟩ (fun _ => trivial) ?_
              clear hK' K' nnz100 bz101
              go_frame
              refine y_oper 7 (by kernel_rfl) rfl rfl (fun K' hK' => ?_)
              refine wp_store_bytes 58 _ _ rfl rfl wdz93.heap.size rfl (cat3 (partL (segm t 0 36) i) (partL (segm t 36 36) j) (partL (segm t 72 36) (h - (i + j)))) rfl _ _ hz102 27 (by kernel_rfl) (prQ_bytes ht h i j).len (by simp) (fun Wz104 pz105 => ?_)
              replace hB := pz105.below hB (by omega)
              replace hr6 := pz105.other hr6 (by omega)
              replace hr7 := pz105.other hr7 (by omega)
              replace h3 := pz105.other h3 (by omega)
              replace ho := ho.put pz105 naz103
              replace hz82 := pz105.other hz82 (by omega)
              replace hz102 : At Wz104 wdz93.heap.size (.cells (u8s (cat3 (partL (segm t 0 36) i) (partL (segm t 36 36) j) (partL (segm t 72 36) (h - (i + j))))) 58 (0, 0)) := pz105.at_
              refine hK' _ _ ⟨hB, h3, hz82, hr7⟩ (fun _ => trivial) ?_
              clear hK' K' pz105
              refine y_done (by kernel_rfl) ?_ _
              go_upto_region 12 with (fail)
              refine wp_region_lit ?_
              refine ls_ex (some 48) (.agg (u8s (cat3 (partL (segm t 0 36) i) (partL (segm t 36 36) j) (partL (segm t 72 36) (h - (i + j)))))) rfl rfl (exec_load_all 58 _ rfl wdz93.heap.size rfl _ _ _ hz102 Try.underlying58 rfl 27 (by kernel_rfl) ((u8s_size _).trans (prQ_bytes ht h i j).len)) ?_
              go_frame
              refine ls_op rfl (fun K' hK' => ?_)
              have lz108 := hB.size
              have lz109 := hr6.lt
              have lz110 := hr7.lt
              have lz111 := h3.lt
              have lz112 := hz82.lt
              have lz113 := hz102.lt
              refine wp_call1 (some 49) rfl 35 _ _ rfl (fun args w => by kernel_rfl) _ rfl _ (hasZero_c (prQ h t i j) (prQ_bytes ht h i j) _) (fun e Wz106 h => ?_)
              obtain ⟨rfl, bz107⟩ := h
              replace hB := below_after hB bz107
              replace hr6 := hr6.after bz107
              replace hr7 := hr7.after bz107
              replace h3 := h3.after bz107
              replace ho := ho.below bz107
              replace hz82 := hz82.after bz107
              replace hz102 := hz102.after bz107
              rw [HNz.out]
              clear bz107
              refine ⟨_, rfl, ?_⟩
              refine hK' _ _ ?_
              clear hK' K'
              go_frame
              refine ls_ex (some 50) (.bool false) rfl rfl (exec_not _ _ rfl true rfl) ?_
              go_frame
              refine wpList_nil ?_
              go_upto_region 14 with (fail)
              refine wp_region_lit ?_
              refine ls_ex (some 55) (.int .i64 (j + 1)) rfl rfl (exec_add _ _ _ _ rfl j 1 (j + 1) rfl rfl (IntWalk.i64_in _ (by omega))) ?_
              go_frame
              refine ls_ex (some 30) (.int .i64 (j + 1)) rfl rfl (exec_move _ rfl (.int .i64 (j + 1)) rfl) ?_
              go_frame
              refine wpList_nil ?_
              go_wp2_with fail
              go_roundw
              case rel => exact ⟨j + 1, _, by omega, by go_num, rfl, hB, hr6, hr7, h3, ho⟩
              case measure => simp [intOf]; omega
          · obtain ⟨N8, hN8⟩ : ∃ N, (exS [] h t i j).length = N := ⟨_, rfl⟩
            obtain ⟨A9, c9, rfl⟩ := Own.rdN2 ho (n := N8) hN8
            clear hN8
            have HBt : Hid ((decide (0 ≤ ((h : Int) - (i : Int)) - (j : Int)) && decide (((h : Int) - (i : Int)) - (j : Int) ≤ 3)) = false) := Lib.hid (by rw [Bool.eq_false_iff]; simp only [ne_eq, Bool.and_eq_true, decide_eq_true_eq]; omega)
            have HT : Hid (exS [] h t i j = exS [] h t i (j + 1)) := Lib.hid (exS_skip (fun hc => by omega))
            rw [HT.out] at ho
            go_upto_region 7 with (fail)
            refine wp_region_lit ?_
            refine ls_ex (some 31) (.bool true) rfl rfl (exec_lss _ _ _ _ rfl j 4 rfl rfl true (decide_eq_true (by omega))) ?_
            go_frame
            refine wpList_nil ?_
            go_upto_region 8 with (fail)
            refine wp_region_lit ?_
            refine ls_ex (some 32) (.int .i64 j) rfl rfl (exec_move _ rfl (.int .i64 j) rfl) ?_
            go_frame
            refine ls_ex (some 33) (.agg (u8s (partL (segm t 36 36) j))) rfl rfl (exec_index_part4 _ _ rfl j (segm t 36 36) rfl rfl hj4) ?_
            go_frame
            refine ls_op rfl (fun K' hK' => ?_)
            have lz114 := hB.size
            have lz115 := hr6.lt
            have lz116 := hr7.lt
            have lz117 := h3.lt
            have naz122 := ho.away_new
            refine wp_new (some 12) rfl (al_impl_Form rfl) (fun Wz118 nnz119 => ?_)
            have bz120 := nnz119.below (Below.refl _ _) (Nat.le_refl _)
            replace hB := below_after hB bz120
            replace hr6 := hr6.after bz120
            replace hr7 := hr7.after bz120
            replace h3 := h3.after bz120
            replace ho := ho.below bz120
            have hz121 : At Wz118 wr.heap.size (.cells (u8s (List.replicate 9 0)) 55 (0, 0)) := nnz119.at_
            refine hK' _ _ ?_
            clear hK' K' nnz119 bz120
            go_frame
            refine ls_ex (some 11) (.int .i64 j) rfl rfl (exec_assign _ rfl (.int .i64 j) rfl) ?_
            go_frame
            refine ls_op rfl (fun K' hK' => ?_)
            refine wp_store_bytes 55 _ _ rfl rfl wr.heap.size rfl (partL (segm t 36 36) j) rfl _ _ hz121 9 (by kernel_rfl) (partL_len _ _) (by simp) (fun Wz123 pz124 => ?_)
            replace hB := pz124.below hB (by omega)
            replace hr6 := pz124.other hr6 (by omega)
            replace hr7 := pz124.other hr7 (by omega)
            replace h3 := pz124.other h3 (by omega)
            replace ho := ho.put pz124 naz122
            replace hz121 : At Wz123 wr.heap.size (.cells (u8s (partL (segm t 36 36) j)) 55 (0, 0)) := pz124.at_
            refine hK' _ _ ?_
            clear hK' K' pz124
            refine wpList_nil ?_
            go_upto_region 9 with (fail)
            refine wp_region_lit ?_
            refine ls_ex (some 34) (.int .i64 h) rfl rfl (exec_move _ rfl (.int .i64 h) rfl) ?_
            go_frame
            refine ls_ex (some 35) (.int .i64 i) rfl rfl (exec_move _ rfl (.int .i64 i) rfl) ?_
            go_frame
            refine ls_ex (some 36) (.int .i64 ((h : Int) - (i : Int))) rfl rfl (exec_sub _ _ _ _ rfl (h : Int) (i : Int) ((h : Int) - (i : Int)) rfl rfl (IntWalk.i64_in _ (by omega))) ?_
            go_frame
            refine ls_ex (some 37) (.int .i64 j) rfl rfl (exec_move _ rfl (.int .i64 j) rfl) ?_
            go_frame
            refine ls_ex (some 38) (.int .i64 (((h : Int) - (i : Int)) - (j : Int))) rfl rfl (exec_sub _ _ _ _ rfl ((h : Int) - (i : Int)) (j : Int) (((h : Int) - (i : Int)) - (j : Int)) rfl rfl (IntWalk.i64_in _ (by omega))) ?_
            go_frame
            refine ls_ex (some 13) (.int .i64 (((h : Int) - (i : Int)) - (j : Int))) rfl rfl (exec_assign _ rfl (.int .i64 (((h : Int) - (i : Int)) - (j : Int))) rfl) ?_
            go_frame
            refine wpList_nil ?_
            go_upto_region 10 with (fail)
            refine wp_region_lit ?_
            refine ls_ex (some 39) (.int .i64 (((h : Int) - (i : Int)) - (j : Int))) rfl rfl (exec_move _ rfl (.int .i64 (((h : Int) - (i : Int)) - (j : Int))) rfl) ?_
            go_frame
            refine ls_op rfl (fun K' hK' => ?_)
            have lz127 := hB.size
            have lz128 := hr6.lt
            have lz129 := hr7.lt
            have lz130 := h3.lt
            have lz131 := hz121.lt
            refine wp_call3 (some 40) rfl 65 _ _ _ _ rfl (fun args w => by kernel_rfl) _ _ _ rfl rfl rfl _ (isBetween_c 0 (((h : Int) - (i : Int)) - (j : Int)) 3 _) (fun e Wz125 h => ?_)
            obtain ⟨rfl, rfl⟩ := h
            rw [HBt.out]
            refine ⟨_, rfl, ?_⟩
            refine hK' _ _ ?_
            clear hK' K'
            go_frame
            refine ls_ex (some 41) (.bool true) rfl rfl (exec_not _ _ rfl false rfl) ?_
            go_frame
            refine wpList_nil ?_
            go_upto_region 14 with (fail)
            refine wp_region_lit ?_
            refine ls_ex (some 55) (.int .i64 (j + 1)) rfl rfl (exec_add _ _ _ _ rfl j 1 (j + 1) rfl rfl (IntWalk.i64_in _ (by omega))) ?_
            go_frame
            refine ls_ex (some 30) (.int .i64 (j + 1)) rfl rfl (exec_move _ rfl (.int .i64 (j + 1)) rfl) ?_
            go_frame
            refine wpList_nil ?_
            go_wp2_with fail
            go_roundw
            case rel => exact ⟨j + 1, _, by omega, by go_num, rfl, hB, hr6, hr7, h3, ho⟩
            case measure => simp [intOf]; omega
        · have HT : Hid (exS [] h t i j = exS [] h t (i + 1) 0) := Lib.hid (exS_rest hj (by omega))
          rw [HT.out] at ho
          go_upto_region 7 with (fail)
          refine wp_region_lit ?_
          refine ls_ex (some 31) (.bool false) rfl rfl (exec_lss _ _ _ _ rfl j 4 rfl rfl false (decide_eq_false (by omega))) ?_
          go_frame
          refine wpList_nil ?_
          go_upto_region 15 with (fail)
          refine wp_region_lit ?_
          refine ls_ex (some 56) (.int .i64 (i + 1)) rfl rfl (exec_add _ _ _ _ rfl i 1 (i + 1) rfl rfl (IntWalk.i64_in _ (by omega))) ?_
          go_frame
          refine ls_ex (some 25) (.int .i64 (i + 1)) rfl rfl (exec_move _ rfl (.int .i64 (i + 1)) rfl) ?_
          go_frame
          refine wpList_nil ?_
          go_wp2_with fail
          go_roundw
          case rel => exact ⟨i + 1, _, by omega, by go_num, rfl, hB, hr6, hr7, ho⟩
          case measure => simp [intOf]; omega
    · obtain ⟨N8, hN8⟩ : ∃ N, (exS [] h t i 0).length = N := ⟨_, rfl⟩
      obtain ⟨A9, c9, rfl⟩ := Own.rdN2 ho (n := N8) hN8
      clear hN8
      have HE : Hid (exS [] h t i 0 = exI h t 4) := Lib.hid (by rw [show i = 4 by omega, exS_end, List.nil_append])
      rw [HE.out] at ho
      go_upto_region 4 with (fail)
      refine wp_region_lit ?_
      refine ls_ex (some 26) (.bool false) rfl rfl (exec_lss _ _ _ _ rfl i 4 rfl rfl false (decide_eq_false (by omega))) ?_
      go_frame
      refine wpList_nil ?_
      go_upto_region 16 with (fail)
      refine wp_region_lit ?_
      refine ls_ex (some 57) (.slice A9 N8 c9) rfl rfl (exec_move _ rfl (.slice A9 N8 c9) rfl) ?_
      go_frame
      refine ls_ex (some 4) (.slice A9 N8 c9) rfl rfl (exec_assign _ rfl (.slice A9 N8 c9) rfl) ?_
      go_frame
      refine wpList_nil ?_
      go_wp2_with fail
      go_ret
      exact ⟨_, rfl, ho, hB⟩
set_option maxHeartbeats 25600000 in
theorem exactOf_c (p n m k : Int) (A : Option Addr) (c : Nat) (ts : List (List Nat)) (h : Nat) (h9 : h ≤ 9) (w : World) (hR : RdT w A ts) (hlen : ts.length ≤ 30) :
    Calls Try.prog 43 #[.agg #[.int .i64 p, .int .i64 n, .int .i64 m, .int .i64 k, .slice A ts.length c], .int .i64 (h : Int)] w (fun e w' => ∃ v, e = .returned (.agg #[.int .i64 p, .int .i64 n, .int .i64 m, .int .i64 k, v]) ∧ Own w' w.heap.size v (exL h ts) ∧ Below w.heap.size w w') := by
  have hB := Below.refl w.heap.size w
  skip
  go_enter Try.func43, Try.ntmps43
  go_upto_region 0 with (fail)
  refine wp_region_lit ?_
  refine ls_op rfl (fun K' hK' => ?_)
  have lz1 := hB.size
  refine wp_new (some 2) rfl (exec_box 33 _ rfl (#[.int .i64 p, .int .i64 n, .int .i64 m, .int .i64 k, .slice A ts.length c]) rfl) (fun Wz2 nnz3 => ?_)
  have bz4 := nnz3.below (Below.refl _ _) (Nat.le_refl _)
  replace hB := below_after hB bz4
  have hz5 : At Wz2 w.heap.size (.cells #[.int .i64 p, .int .i64 n, .int .i64 m, .int .i64 k, .slice A ts.length c] 33 (0, 0)) := nnz3.at_
  refine hK' _ _ ?_
  clear hK' K' nnz3 bz4
  go_frame
  refine ls_op rfl (fun K' hK' => ?_)
  have lz6 := hB.size
  have lz7 := hz5.lt
  refine wp_new (some 4) rfl (al_impl_Scheme rfl) (fun Wz8 nnz9 => ?_)
  have bz10 := nnz9.below (Below.refl _ _) (Nat.le_refl _)
  replace hB := below_after hB bz10
  replace hz5 := hz5.after bz10
  have hz11 : At Wz8 Wz2.heap.size (.cells #[.int .i64 0, .int .i64 0, .int .i64 0, .int .i64 0, .slice none 0 0] 28 (0, 0)) := nnz9.at_
  refine hK' _ _ ?_
  clear hK' K' nnz9 bz10
  go_frame
  refine wpList_nil ?_
  go_upto_region 1 with (fail)
  refine wp_region_lit ?_
  refine ls_ex (some 8) (.agg #[.int .i64 p, .int .i64 n, .int .i64 m, .int .i64 k, .slice A ts.length c]) rfl rfl (exec_load_all 33 _ rfl w.heap.size rfl _ _ _ hz5 Try.underlying33 rfl 5 (by kernel_rfl) rfl) ?_
  go_frame
  refine ls_op rfl (fun K' hK' => ?_)
  have lz14 := hB.size
  have lz15 := hz5.lt
  have lz16 := hz11.lt
  refine wp_call2 (some 9) rfl 33 _ _ _ rfl (fun args w => by kernel_rfl) _ _ rfl rfl _ (schemeLike_c p n m k A none ts.length c 0 0 _) (fun e Wz12 h => ?_)
  obtain ⟨rfl, bz13⟩ := h
  replace hB := below_after hB bz13
  replace hz5 := hz5.after bz13
  replace hz11 := hz11.after bz13
  clear bz13
  refine ⟨_, rfl, ?_⟩
  refine hK' _ _ ?_
  clear hK' K'
  go_frame
  refine ls_op rfl (fun K' hK' => ?_)
  have lz17 := hB.size
  have lz18 := hz5.lt
  have lz19 := hz11.lt
  refine wp_new (some 5) rfl (al_impl_Scheme rfl) (fun Wz20 nnz21 => ?_)
  have bz22 := nnz21.below (Below.refl _ _) (Nat.le_refl _)
  replace hB := below_after hB bz22
  replace hz5 := hz5.after bz22
  replace hz11 := hz11.after bz22
  have hz23 : At Wz20 Wz12.heap.size (.cells #[.int .i64 0, .int .i64 0, .int .i64 0, .int .i64 0, .slice none 0 0] 28 (0, 0)) := nnz21.at_
  refine hK' _ _ ?_
  clear hK' K' nnz21 bz22
  go_frame
  refine ls_op rfl (fun K' hK' => ?_)
  refine wp_store_all 28 _ _ rfl rfl Wz12.heap.size rfl #[.int .i64 p, .int .i64 n, .int .i64 m, .int .i64 k, .slice none 0 0] rfl _ _ hz23 5 (by kernel_rfl) rfl rfl (one5 _ _ _ _ _ _ _) (fun Wz24 pz25 => ?_)
  replace hB := pz25.below hB (by omega)
  replace hz5 := pz25.other hz5 (by omega)
  replace hz11 := pz25.other hz11 (by omega)
  replace hz23 : At Wz24 Wz12.heap.size (.cells #[.int .i64 p, .int .i64 n, .int .i64 m, .int .i64 k, .slice none 0 0] 28 (0, 0)) := pz25.at_
  refine hK' _ _ ?_
  clear hK' K' pz25
  refine wpList_nil ?_
  go_upto_region 2 with (fail)
  refine wp_region_lit ?_
  refine ls_ex (some 10) (.pointer (some ⟨w.heap.size, 4, none⟩)) rfl rfl (exec_fieldAddr 33 _ 4 rfl _ (by kernel_rfl)) ?_
  go_frame
  refine ls_ex (some 11) (.slice A ts.length c) rfl rfl (exec_load_one 31 _ rfl w.heap.size 4 rfl (.slice A ts.length c) _ Try.underlying31 rfl (hz5.at_ 4)) ?_
  go_frame
  refine ls_ex (some 12) (.int .i64 ts.length) rfl rfl (exec_len _ 31 52 rfl A ts.length c rfl Try.underlying31) ?_
  go_frame
  refine ls_ex (some 13) (.int .i64 0) rfl rfl (exec_move _ rfl (.int .i64 0) rfl) ?_
  go_frame
  refine wpList_nil ?_
  go_wp2_with fail
  go_loopw [13] (fun s13 wr => ∃ (a : Nat) (v : Value), a ≤ ts.length ∧ s13 = .int .i64 a ∧ Below w.heap.size w wr ∧ At wr w.heap.size (.cells #[.int .i64 p, .int .i64 n, .int .i64 m, .int .i64 k, .slice A ts.length c] 33 (0, 0)) ∧ At wr Wz2.heap.size (.cells #[.int .i64 0, .int .i64 0, .int .i64 0, .int .i64 0, .slice none 0 0] 28 (0, 0)) ∧ At wr Wz12.heap.size (.cells #[.int .i64 p, .int .i64 n, .int .i64 m, .int .i64 k, v] 28 (0, 0)) ∧ Own wr w.heap.size v (exL h (ts.take a))) (fun s13 _ => ts.length - (intOf s13).toNat)
  case atStart => exact ⟨0, _, by omega, rfl, hB, hz5, hz11, hz23, Own.nil _ _⟩
  case round =>
    clear hB hz5 hz11 hz23
    obtain ⟨a, v, ha, rfl, hB, h0, h1, h2, ho⟩ := hrel
    by_cases hlt : a < ts.length
    · obtain ⟨b, off, rfl, hc⟩ := (hR.keep hB).at_ hlt
      clear hc
      have hq := hR.good _ (List.getElem_mem hlt)
      have Hq108 := Lib.hid hq.len
      have hpl := exL_len h ts a (by omega)
      have hil := exI_len h ts[a] 4
      obtain ⟨N8, hN8⟩ : ∃ N, (exL h (ts.take a)).length = N := ⟨_, rfl⟩
      obtain ⟨A9, c9, rfl⟩ := Own.rdN2 ho (n := N8) hN8
      clear hN8
      have HT : Hid (exL h (ts.take a) ++ exI h ts[a] 4 = exL h (ts.take (a + 1))) := Lib.hid (exL_step hlt).symm
      obtain ⟨N7, hN7⟩ : ∃ N, (exL h (ts.take (a + 1))).length = N := ⟨_, rfl⟩
      have HN7 := Lib.hid hN7
      have HN8 : Hid ((exL h (ts.take a)).length + (exI h ts[a] 4).length ≤ 1000000) := Lib.hid (by omega)
      clear hN7 hpl hil
      go_upto_region 3 with (fail)
      refine wp_region_lit ?_
      refine ls_ex (some 14) (.bool true) rfl rfl (exec_lss _ _ _ _ rfl a ts.length rfl rfl true (decide_eq_true (by omega))) ?_
      go_frame
      refine wpList_nil ?_
      go_upto_region 4 with (fail)
      refine wp_region_lit ?_
      refine ls_ex (some 15) (.pointer (some ⟨b, off + a * 108, none⟩)) rfl rfl (exec_index_slice _ 52 _ _ rfl b off ts.length c a 108 rfl rfl Try.underlying31 (by kernel_rfl) (by omega)) ?_
      go_frame
      refine ls_ex (some 16) (.agg (u8s (ts[a]))) rfl rfl (exec_load_cells 52 _ rfl b (off + a * 108) rfl ts[a] _ 108 (RdT.c108 (hR.keep hB) hlt) Try.underlying52 rfl (by kernel_rfl) Hq108.out) ?_
      go_frame
      refine ls_op rfl (fun K' hK' => ?_)
      have lz26 := hB.size
      have lz27 := h0.lt
      have lz28 := h1.lt
      have lz29 := h2.lt
      have naz34 := ho.away_new
      refine wp_new (some 7) rfl (al_impl_Twig rfl) (fun Wz30 nnz31 => ?_)
      have bz32 := nnz31.below (Below.refl _ _) (Nat.le_refl _)
      replace hB := below_after hB bz32
      replace h0 := h0.after bz32
      replace h1 := h1.after bz32
      replace h2 := h2.after bz32
      replace ho := ho.below bz32
      have hz33 : At Wz30 wr.heap.size (.cells (u8s (List.replicate 108 0)) 52 (0, 0)) := nnz31.at_
      refine hK' _ _ ?_
      clear hK' K' nnz31 bz32
      go_frame
      refine ls_op rfl (fun K' hK' => ?_)
      refine wp_store_bytes 52 _ _ rfl rfl wr.heap.size rfl (ts[a]) rfl _ _ hz33 108 (by kernel_rfl) Hq108.out (by simp) (fun Wz35 pz36 => ?_)
      replace hB := pz36.below hB (by omega)
      replace h0 := pz36.other h0 (by omega)
      replace h1 := pz36.other h1 (by omega)
      replace h2 := pz36.other h2 (by omega)
      replace ho := ho.put pz36 naz34
      replace hz33 : At Wz35 wr.heap.size (.cells (u8s (ts[a])) 52 (0, 0)) := pz36.at_
      refine hK' _ _ ?_
      clear hK' K' pz36
      refine wpList_nil ?_
      go_upto_region 5 with (fail)
      refine wp_region_y (zs := [7]) (S := fun w' => Below w.heap.size w w' ∧ At w' wr.heap.size (.cells (u8s (ts[a])) 52 (0, 0))) (S2 := fun w' => At w' Wz12.heap.size (.cells #[.int .i64 p, .int .i64 n, .int .i64 m, .int .i64 k, .slice A9 N8 c9] 28 (0, 0))) (by kernel_rfl) ?_
      change wpAnyY _ _ _ _ _ _ _ _ _ _ (World.drew _)
      generalize hwdz37 : World.drew _ = wdz37
      replace hB : Below w.heap.size w wdz37 := by rw [← hwdz37]; exact hB.drew
      replace h0 : At wdz37 w.heap.size (.cells #[.int .i64 p, .int .i64 n, .int .i64 m, .int .i64 k, .slice (some ⟨b, off, none⟩) ts.length c] 33 (0, 0)) := by rw [← hwdz37]; exact h0
      replace h1 : At wdz37 Wz2.heap.size (.cells #[.int .i64 0, .int .i64 0, .int .i64 0, .int .i64 0, .slice none 0 0] 28 (0, 0)) := by rw [← hwdz37]; exact h1
      replace h2 : At wdz37 Wz12.heap.size (.cells #[.int .i64 p, .int .i64 n, .int .i64 m, .int .i64 k, .slice A9 N8 c9] 28 (0, 0)) := by rw [← hwdz37]; exact h2
      replace ho : Own wdz37 w.heap.size (.slice A9 N8 c9) (exL h (ts.take a)) := by rw [← hwdz37]; exact ho.drew
      replace hz33 : At wdz37 wr.heap.size (.cells (u8s (ts[a])) 52 (0, 0)) := by rw [← hwdz37]; exact hz33
      clear hwdz37
      refine y_yield 0 (some 17) (.pointer (some ⟨Wz12.heap.size, 4, none⟩)) rfl (by kernel_rfl) (by kernel_rfl) (by kernel_rfl) (fun _ _ _ h => h) rfl rfl ⟨hB, hz33⟩ (fun w' h' => exec_fieldAddr 28 _ 4 rfl _ (by kernel_rfl)) ?_
      go_frame
      refine y_yield3 1 (some 18) (.slice A9 N8 c9) rfl 8 (by kernel_rfl) (by kernel_rfl) (by kernel_rfl) (by kernel_rfl) (by kernel_rfl) (fun _ _ _ h => h) rfl rfl ⟨hB, hz33⟩ h2 (fun w' h' h2' => exec_load_one 26 _ rfl Wz12.heap.size 4 rfl (.slice A9 N8 c9) _ Try.underlying26 rfl (h2'.at_ 4)) ?_
      go_frame
      refine y_yield 2 (some 19) (.agg (u8s (ts[a]))) rfl (by kernel_rfl) (by kernel_rfl) (by kernel_rfl) (fun _ _ _ h => h) rfl rfl ⟨hB, hz33⟩ (fun w' h' => exec_load_all 52 _ rfl wr.heap.size rfl _ _ _ h'.2 Try.underlying52 rfl 108 (by kernel_rfl) ((u8s_size _).trans Hq108.out)) ?_
      go_frame
      refine y_yield 3 (some 20) (.int .i64 h) rfl (by kernel_rfl) (by kernel_rfl) (by kernel_rfl) (fun _ _ _ h => h) rfl rfl ⟨hB, hz33⟩ (fun w' h' => exec_move _ rfl (.int .i64 h) rfl) ?_
      go_frame
      refine y_oper 4 (by kernel_rfl) rfl rfl (fun K' hK' => ?_)
      have lz40 := hB.size
      have lz41 := h0.lt
      have lz42 := h1.lt
      have lz43 := h2.lt
      have lz44 := hz33.lt
      refine wp_call2 (some 21) rfl 66 _ _ _ rfl (fun args w => by kernel_rfl) _ _ rfl rfl _ (exactTwig_c ts[a] hq h h9 _) (fun e Wz38 h => ?_)
      obtain ⟨v6, rfl, ho6, bz39⟩ := h
      replace hB := below_after hB bz39
      replace h0 := h0.after bz39
      replace h1 := h1.after bz39
      replace h2 := h2.after bz39
      replace ho := ho.below bz39
      replace hz33 := hz33.after bz39
      obtain ⟨A6, c6, rfl, hr6, hc6⟩ := ho6.rdc' (exI_bytes hq h 4)
      clear ho6
      clear bz39
      refine ⟨_, rfl, ?_⟩
      refine hK' _ _ ⟨hB, hz33⟩ (fun _ => h2) ?_
      clear hK' K'
      go_frame
      refine y_oper 5 (by kernel_rfl) rfl rfl (fun K' hK' => ?_)
      have lz48 := hB.size
      have lz49 := h0.lt
      have lz50 := h1.lt
      have lz51 := h2.lt
      have lz52 := hz33.lt
      refine wp_append_rd (some 22) rfl _ _ rfl (.slice A9 N8 c9) (exL h (ts.take a)) (exI h ts[a] 4) rfl ho A6 c6 rfl hr6 hc6 HN8.out (by omega) (fun v5 Wz45 noz47 grz46 => ?_)
      rw [HT.out] at noz47
      obtain ⟨A5, c5, rfl⟩ := Own.rdN2 noz47 (n := N7) HN7.out
      replace hB := below_grown hB grz46 ho (by omega)
      replace h0 := h0.grown grz46 (ho.off h0 (by decide))
      replace h1 := h1.grown grz46 (ho.off h1 (by decide))
      replace h2 := h2.grown grz46 (ho.off h2 (by decide))
      replace hz33 := hz33.grown grz46 (ho.off hz33 (by decide))
      replace ho := noz47
      refine hK' _ _ ⟨hB, hz33⟩ (fun _ => h2) ?_
      clear hK' K' grz46 hr6
      go_frame
      refine y_yield 6 (some 23) (.pointer (some ⟨Wz12.heap.size, 4, none⟩)) rfl (by kernel_rfl) (by kernel_rfl) (by kernel_rfl) (fun _ _ _ h => h) rfl rfl ⟨hB, hz33⟩ (fun w' h' => exec_fieldAddr 28 _ 4 rfl _ (by kernel_rfl)) ?_
      go_frame
      refine y_oper 7 (by kernel_rfl) rfl rfl (fun K' hK' => ?_)
      refine wp_store_one 26 _ _ rfl rfl Wz12.heap.size 4 rfl (.slice A5 N7 c5) rfl rfl rfl _ _ h2 (by kernel_rfl) (by simp) (fun Wz53 pz54 => ?_)
      replace hB := pz54.below hB (by omega)
      replace h0 := pz54.other h0 (by omega)
      replace h1 := pz54.other h1 (by omega)
      replace ho := ho.put pz54 (ho.off h2 (by decide))
      replace hz33 := pz54.other hz33 (by omega)
      replace h2 : At Wz53 Wz12.heap.size (.cells #[.int .i64 p, .int .i64 n, .int .i64 m, .int .i64 k, .slice A5 N7 c5] 28 (0, 0)) := pz54.at_
      refine hK' _ _ ⟨hB, hz33⟩ (fun h => absurd (by decide) h) ?_
      clear hK' K' pz54
      refine y_done (by kernel_rfl) ?_ _
      go_upto_region 6 with (fail)
      refine wp_region_lit ?_
      refine ls_ex (some 24) (.int .i64 (a + 1)) rfl rfl (exec_add _ _ _ _ rfl a 1 (a + 1) rfl rfl (IntWalk.i64_in _ (by omega))) ?_
      go_frame
      refine ls_ex (some 13) (.int .i64 (a + 1)) rfl rfl (exec_move _ rfl (.int .i64 (a + 1)) rfl) ?_
      go_frame
      refine wpList_nil ?_
      go_wp2_with fail
      go_roundw
      case rel => exact ⟨a + 1, _, by omega, by go_num, hB, h0, h1, h2, ho⟩
      case measure => simp [intOf]; omega
    · obtain ⟨N8, hN8⟩ : ∃ N, (exL h (ts.take a)).length = N := ⟨_, rfl⟩
      obtain ⟨A9, c9, rfl⟩ := Own.rdN2 ho (n := N8) hN8
      clear hN8
      have HE : Hid (exL h (ts.take a) = exL h ts) := Lib.hid (by rw [show a = ts.length by omega, List.take_length])
      rw [HE.out] at ho
      go_upto_region 3 with (fail)
      refine wp_region_lit ?_
      refine ls_ex (some 14) (.bool false) rfl rfl (exec_lss _ _ _ _ rfl a ts.length rfl rfl false (decide_eq_false (by omega))) ?_
      go_frame
      refine wpList_nil ?_
      go_upto_region 7 with (fail)
      refine wp_region_lit ?_
      refine ls_ex (some 25) (.agg #[.int .i64 p, .int .i64 n, .int .i64 m, .int .i64 k, .slice A9 N8 c9]) rfl rfl (exec_load_all 28 _ rfl Wz12.heap.size rfl _ _ _ h2 Try.underlying28 rfl 5 (by kernel_rfl) rfl) ?_
      go_frame
      refine ls_op rfl (fun K' hK' => ?_)
      refine wp_store_all 28 _ _ rfl rfl Wz2.heap.size rfl #[.int .i64 p, .int .i64 n, .int .i64 m, .int .i64 k, .slice A9 N8 c9] rfl _ _ h1 5 (by kernel_rfl) rfl rfl (one5 _ _ _ _ _ _ _) (fun Wz55 pz56 => ?_)
      replace hB := pz56.below hB (by omega)
      replace h0 := pz56.other h0 (by omega)
      replace h2 := pz56.other h2 (by omega)
      replace ho := ho.put pz56 (ho.off h1 (by decide))
      replace h1 : At Wz55 Wz2.heap.size (.cells #[.int .i64 p, .int .i64 n, .int .i64 m, .int .i64 k, .slice A9 N8 c9] 28 (0, 0)) := pz56.at_
      refine hK' _ _ ?_
      clear hK' K' pz56
      refine wpList_nil ?_
      go_wp2_with fail
      refine bodyPost_ret (results_at rfl _ _ Wz2.heap.size _ _ _ rfl h1 Try.underlying28 rfl 5 (by kernel_rfl) rfl) rfl ?_
      exact ⟨_, rfl, ho, hB⟩
end Go.Proofs.Ytnlidegmllcdhaa
