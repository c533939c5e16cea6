/-
  impl.weight, impl.costOf; CostOf of both sides. (Made by mkcs5.py.)
-/
import Derived.Test.YtphccbilldfdpaaCs4
import Derived.Test.YtphccbilldfdpaaAdF
namespace Go.Proofs.Ytphccbilldfdpaa
open Go.RowKit
set_option maxRecDepth 100000
attribute [local irreducible] wpList
theorem wsI_step2 {qs : List (List Nat)} (o : Nat) {i : Nat} (h : i < qs.length) : wsI qs o (i + 1) = wsI qs o i + (((wtN (segm (qs[i]) o 9) : Nat) : Int) - 1) := by
  rw [wsI_step o h]; omega
def wCN (qs : List (List Nat)) : Nat → Nat
  | 0 => 0
  | i + 1 => wCN qs i + wtN (segm (qs[i]?.getD []) 18 9)
theorem wCN_le (qs : List (List Nat)) (i : Nat) : wCN qs i ≤ 9 * i := by
  induction i with
  | zero => simp [wCN]
  | succ i ih => have := wtN_le (segm (qs[i]?.getD []) 18 9); simp only [wCN]; omega
theorem wCN_step {qs : List (List Nat)} {i : Nat} (h : i < qs.length) : ((wCN qs (i + 1) : Nat) : Int) = ((wCN qs i : Nat) : Int) + ((wtN (segm (qs[i]) 18 9) : Nat) : Int) := by
  simp [wCN, h]
def orF (f g : List Nat) : List Nat := (List.range 9).map fun i => f[i]?.getD 0 ||| g[i]?.getD 0
theorem orF_len (f g : List Nat) : (orF f g).length = 9 := by simp [orF]
theorem orF_get (f g : List Nat) {i : Nat} (hi : i < 9) : (orF f g)[i]?.getD 0 = f[i]?.getD 0 ||| g[i]?.getD 0 := by simp [orF, hi]
def orL (qs : List (List Nat)) : Nat → List Nat
  | 0 => List.replicate 9 0
  | i + 1 => orF (orL qs i) (segm (qs[i]?.getD []) 18 9)
theorem orL_step {qs : List (List Nat)} {i : Nat} (h : i < qs.length) : orL qs (i + 1) = orF (orL qs i) (segm (qs[i]) 18 9) := by simp [orL, h]
theorem orL_len (qs : List (List Nat)) (i : Nat) : (orL qs i).length = 9 := by cases i <;> simp [orL, orF_len]
theorem orL_lt {qs : List (List Nat)} (hq : ∀ i (h : i < qs.length) j, j < 27 → qs[i][j]?.getD 0 < 8) (i : Nat) (hi : i ≤ qs.length) : ∀ d : Nat, (orL qs i)[d]?.getD 0 < 8 := by
  induction i with
  | zero => intro d; simp only [orL, List.getElem?_replicate]; split <;> decide
  | succ i ih =>
    intro d
    by_cases hd : d < 9
    · rw [orL_step (by omega), orF_get _ _ hd, segm_nth _ _ _ _ hd]
      exact Nat.or_lt_two_pow (n := 3) (ih (by omega) d) (hq i (by omega) (18 + d) (by omega))
    · rw [List.getElem?_eq_none (by rw [orL_len]; omega)]; decide
theorem orL_bytes {qs : List (List Nat)} (hq : ∀ i (h : i < qs.length) j, j < 27 → qs[i][j]?.getD 0 < 8) (i : Nat) (hi : i ≤ qs.length) : Bytes 9 (orL qs i) := by
  refine ⟨orL_len _ _, fun n hn => ?_⟩
  obtain ⟨d, hd, rfl⟩ := List.getElem_of_mem hn
  have := orL_lt hq i hi d
  rw [List.getElem?_eq_getElem hd] at this
  simp only [Option.getD_some] at this
  omega
theorem formB_lt8 {p n : Int} {f : List Nat} (hp : p ≤ 5) (h : formB p f n = true) {j : Nat} (hj : j < 9) : f[j]?.getD 0 < 8 := by
  unfold formB at h
  rw [List.all_eq_true] at h
  have h1 := h j (List.mem_range.2 hj)
  simp only [okAt, Bool.and_eq_true, decide_eq_true_eq] at h1
  omega
theorem scheme_lt8 {p n m k : Int} {qs : List (List Nat)} (hs : schemeB p n m k qs = true) : ∀ i (h : i < qs.length) j, j < 27 → qs[i][j]?.getD 0 < 8 := by
  intro i hi j hj
  have hp : p ≤ 5 := by
    have h := (sizesB_parts (schemeB_sizes hs)).1
    simp only [primeB, Bool.or_eq_true, beq_iff_eq] at h
    omega
  have hq : prodB p n m k qs[i] = true := by
    simp only [schemeB, Bool.and_eq_true, List.all_eq_true] at hs
    exact hs.2 _ (List.getElem_mem hi)
  simp only [prodB, Bool.and_eq_true] at hq
  obtain ⟨⟨⟨⟨⟨h0, h1⟩, h2⟩, _⟩, _⟩, _⟩ := hq
  rcases (show j < 9 ∨ (9 ≤ j ∧ j < 18) ∨ (18 ≤ j) by omega) with h | h | h
  · have := formB_lt8 hp h0 h
    rwa [segm_nth _ _ _ _ h, Nat.zero_add] at this
  · have := formB_lt8 hp h1 (show j - 9 < 9 by omega)
    rwa [segm_nth _ _ _ _ (by omega), show 9 + (j - 9) = j by omega] at this
  · have := formB_lt8 hp h2 (show j - 18 < 9 by omega)
    rwa [segm_nth _ _ _ _ (by omega), show 18 + (j - 18) = j by omega] at this
theorem smN_congr {g h : Nat → Nat} (n : Nat) (e : ∀ c, c < n → g c = h c) : smN g n = smN h n := by
  induction n with
  | zero => rfl
  | succ n ih => simp only [smN, ih (fun c hc => e c (by omega)), e n (by omega)]
theorem smN_add (g h : Nat → Nat) (n : Nat) : smN (fun c => g c + h c) n = smN g n + smN h n := by
  induction n with
  | zero => rfl
  | succ n ih => simp only [smN, ih]; omega
theorem wCN_own (qs : List (List Nat)) (i : Nat) : wCN qs i = smN (fun d => ownN qs d i) 9 := by
  induction i with
  | zero => rfl
  | succ i ih =>
    have h := smN_add (fun d => ownN qs d i) (fun d => nzN (qs[i]?.getD []) (18 + d)) 9
    simp only [wCN, ih, ownN] at h ⊢
    rw [h]
    congr 1
    exact smN_congr 9 (fun c hc => by unfold nzN; rw [segm_nth _ _ _ _ hc])
theorem or_zero_iff (a b : Nat) : a ||| b = 0 ↔ a = 0 ∧ b = 0 := by
  constructor
  · intro h
    have h1 : a ≤ a ||| b := Nat.left_le_or
    have h2 : b ≤ a ||| b := Nat.right_le_or
    omega
  · rintro ⟨rfl, rfl⟩; rfl
theorem orL_zero (qs : List (List Nat)) (i : Nat) {d : Nat} (hd : d < 9) : (orL qs i)[d]?.getD 0 = 0 ↔ ownN qs d i = 0 := by
  induction i with
  | zero => simp only [orL, ownN, List.getElem?_replicate, if_pos hd]; simp
  | succ i ih =>
    simp only [orL, ownN]
    rw [orF_get _ _ hd, or_zero_iff, ih, segm_nth _ _ _ _ hd]
    unfold nzN
    by_cases h : (qs[i]?.getD [])[18 + d]?.getD 0 = 0
    · rw [if_pos h]; simp [h]
    · rw [if_neg h]; simp [h]
theorem cost_last (qs : List (List Nat)) : ((wCN qs qs.length : Nat) : Int) - (wtN (orL qs qs.length) : Nat) = lastI qs qs.length 9 := by
  rw [wCN_own]
  unfold wtN
  have h : ∀ c, c ≤ 9 → ((smN (fun d => ownN qs d qs.length) c : Nat) : Int) - (smN (nzN (orL qs qs.length)) c : Nat) = lastI qs qs.length c := by
    intro c
    induction c with
    | zero => intro _; rfl
    | succ c ih =>
      intro hc
      have h1 := ih (by omega)
      have h2 := orL_zero qs qs.length (show c < 9 by omega)
      simp only [smN, lastI, mx0, nzN]
      by_cases hz : ownN qs c qs.length = 0
      · rw [if_pos (h2.2 hz), hz]; simp; omega
      · rw [if_neg (fun h => hz (h2.1 h)), if_neg (by omega)]; omega
  exact h 9 (by omega)
theorem or8 : ∀ a b : Fin 8, bits BinOp.or IntKind.u8 ((a.val : Nat) : Int) ((b.val : Nat) : Int) = ((a.val ||| b.val : Nat) : Int) := by decide
theorem exec_or_u8 {P : Program} {o : Oper} {a : Act} {w : World} (t t' : TypeId) (x y : Operand) (ho : o.op = .binOp .or t x y t') (m n : Nat) (hm : m < 8) (hn : n < 8) (hx : a.eval x = .int .u8 (m : Int)) (hy : a.eval y = .int .u8 (n : Int)) : (execOp a.eval o).run P w = .ok (.value (.int .u8 ((m ||| n : Nat) : Int))) w := by
  have h := or8 ⟨m, hm⟩ ⟨n, hn⟩
  unfold execOp
  simp only [ho, hx, hy]
  simp [go_sem]
  exact h
theorem exec_build_cost {o : Oper} {a : Act} {w : World} (x : Operand) (ho : o.op = .build 48 #[(0, x)]) (n : Int) (hx : a.eval x = .int .i64 n) :
    (execOp a.eval o).run Try.prog w = .ok (.value (.agg #[.int .i64 n, .int .i64 0, .int .i64 0, .int .i64 0])) w := by
  have hb : Try.prog.built 48 [(0, .int .i64 n)] = some #[.int .i64 n, .int .i64 0, .int .i64 0, .int .i64 0] := by kernel_rfl
  have h := run_build (P := Try.prog) w 48 _ _ hb
  unfold execOp
  simp [ho, hx, h]
def coCode (p n m k : Int) (qs : List (List Nat)) : Int := if schemeB p n m k qs = true then 0 else 1
def coL (qs : List (List Nat)) : List Int := [qs.length, wsI qs 0 qs.length, wsI qs 9 qs.length, lastI qs qs.length 9]
def coR (p n m k : Int) (qs : List (List Nat)) : List Int := if schemeB p n m k qs = true then coL qs else []
theorem al_impl_Form {o : Oper} {a : Act} {w : World} (ho : o.op = .alloc 66) : (execOp a.eval o).run Try.prog w = .ok (.value (.pointer (some ⟨w.heap.size, 0, none⟩))) (w.alloc (.cells (u8s (List.replicate 9 0)) 66 (0, 0))) := by
  unfold execOp
  rw [ho]
  kernel_rfl
theorem al_impl_Product {o : Oper} {a : Act} {w : World} (ho : o.op = .alloc 68) : (execOp a.eval o).run Try.prog w = .ok (.value (.pointer (some ⟨w.heap.size, 0, none⟩))) (w.alloc (.cells (u8s (List.replicate 27 0)) 68 (0, 0))) := by
  unfold execOp
  rw [ho]
  kernel_rfl
theorem al_impl_cost {o : Oper} {a : Act} {w : World} (ho : o.op = .alloc 48) : (execOp a.eval o).run Try.prog w = .ok (.value (.pointer (some ⟨w.heap.size, 0, none⟩))) (w.alloc (.cells #[.int .i64 0, .int .i64 0, .int .i64 0, .int .i64 0] 48 (0, 0))) := by
  unfold execOp
  rw [ho]
  kernel_rfl
set_option maxHeartbeats 4000000 in
theorem weight_c (f : List Nat) (hf : Bytes 9 f) (w : World) :
    Calls Try.prog 53 #[.agg (u8s f)] w (fun e w' => e = .returned (.int .i64 (wtN f : Nat)) ∧ Below w.heap.size w w') := by
  have hB := Below.refl w.heap.size w
  skip
  go_enter Try.func53, Try.ntmps53
  go_upto_region 0 with (fail)
  refine wp_region_lit ?_
  refine ls_op rfl (fun K' hK' => ?_)
  have lz1 := hB.size
  refine wp_new (some 1) rfl (exec_box 66 _ rfl (u8s (f)) rfl) (fun Wz2 nnz3 => ?_)
  have bz4 := nnz3.below (Below.refl _ _) (Nat.le_refl _)
  replace hB := below_after hB bz4
  have hz5 : At Wz2 w.heap.size (.cells (u8s (f)) 66 (0, 0)) := nnz3.at_
  refine hK' _ _ ?_
  clear hK' K' nnz3 bz4
  go_frame
  refine ls_ex (some 2) (.int .i64 0) rfl rfl (exec_assign _ rfl (.int .i64 0) rfl) ?_
  go_frame
  refine wpList_nil ?_
  go_upto_region 1 with (fail)
  refine wp_region_lit ?_
  refine ls_ex (some 3) (.agg (u8s (f))) rfl rfl (exec_load_all 66 _ rfl w.heap.size rfl _ _ _ hz5 Try.underlying66 rfl 9 (by kernel_rfl) ((u8s_size _).trans hf.len)) ?_
  go_frame
  refine ls_ex (some 4) (.agg (u8s (List.replicate 9 0))) rfl rfl (exec_build_nil 66 rfl _ (by kernel_rfl)) ?_
  go_frame
  refine ls_op rfl (fun K' hK' => ?_)
  have lz8 := hB.size
  have lz9 := hz5.lt
  refine wp_call2 (some 5) rfl 65 _ _ _ rfl (fun args w => by kernel_rfl) _ _ rfl rfl _ (cdiff_c f (List.replicate 9 0) hf (Bytes.zeros 9) _) (fun e Wz6 h => ?_)
  obtain ⟨rfl, bz7⟩ := h
  replace hB := below_after hB bz7
  replace hz5 := hz5.after bz7
  rw [cdN_wt]
  clear bz7
  refine ⟨_, rfl, ?_⟩
  refine hK' _ _ ?_
  clear hK' K'
  go_frame
  refine ls_ex (some 2) (.int .i64 (wtN f : Nat)) rfl rfl (exec_assign _ rfl (.int .i64 (wtN f : Nat)) rfl) ?_
  go_frame
  refine wpList_nil ?_
  go_wp2_with fail
  go_ret
  exact ⟨rfl, hB⟩
set_option maxHeartbeats 12800000 in
theorem costOf_c (p n m k : Int) (b0 off0 c : Nat) (qs : List (List Nat)) (w : World) (hR : Rd w (some ⟨b0, off0, none⟩) qs) (hs : schemeB p n m k qs = true) :
    Calls Try.prog 41 #[.agg #[.int .i64 p, .int .i64 n, .int .i64 m, .int .i64 k, .slice (some ⟨b0, off0, none⟩) qs.length c]] w (fun e w' => e = .returned (.agg #[.int .i64 qs.length, .int .i64 (wsI qs 0 qs.length), .int .i64 (wsI qs 9 qs.length), .int .i64 (lastI qs qs.length 9)]) ∧ Below w.heap.size w w') := by
  have hB := Below.refl w.heap.size w
  have h30 := schemeB_len hs
  have HQ := Lib.hid (scheme_lt8 hs)
  have HF : Hid (((wCN qs qs.length : Nat) : Int) - (wtN (orL qs qs.length) : Nat) = lastI qs qs.length 9) := Lib.hid (cost_last qs)
  clear hs
  go_enter Try.func41, Try.ntmps41
  go_upto_region 0 with (fail)
  refine wp_region_lit ?_
  refine ls_op rfl (fun K' hK' => ?_)
  have lz1 := hB.size
  refine wp_new (some 1) rfl (exec_box 30 _ rfl (#[.int .i64 p, .int .i64 n, .int .i64 m, .int .i64 k, .slice (some ⟨b0, off0, none⟩) qs.length c]) rfl) (fun Wz2 nnz3 => ?_)
  have bz4 := nnz3.below (Below.refl _ _) (Nat.le_refl _)
  replace hB := below_after hB bz4
  have hz5 : At Wz2 w.heap.size (.cells #[.int .i64 p, .int .i64 n, .int .i64 m, .int .i64 k, .slice (some ⟨b0, off0, none⟩) qs.length c] 30 (0, 0)) := nnz3.at_
  refine hK' _ _ ?_
  clear hK' K' nnz3 bz4
  go_frame
  refine ls_op rfl (fun K' hK' => ?_)
  have lz6 := hB.size
  have lz7 := hz5.lt
  refine wp_new (some 2) rfl (al_impl_cost rfl) (fun Wz8 nnz9 => ?_)
  have bz10 := nnz9.below (Below.refl _ _) (Nat.le_refl _)
  replace hB := below_after hB bz10
  replace hz5 := hz5.after bz10
  have hz11 : At Wz8 Wz2.heap.size (.cells #[.int .i64 0, .int .i64 0, .int .i64 0, .int .i64 0] 48 (0, 0)) := nnz9.at_
  refine hK' _ _ ?_
  clear hK' K' nnz9 bz10
  go_frame
  refine wpList_nil ?_
  go_upto_region 1 with (fail)
  refine wp_region_lit ?_
  refine ls_ex (some 9) (.pointer (some ⟨w.heap.size, 4, none⟩)) rfl rfl (exec_fieldAddr 30 _ 4 rfl _ (by kernel_rfl)) ?_
  go_frame
  refine ls_ex (some 10) (.slice (some ⟨b0, off0, none⟩) qs.length c) rfl rfl (exec_load_one 28 _ rfl w.heap.size 4 rfl (.slice (some ⟨b0, off0, none⟩) qs.length c) _ Try.underlying28 rfl (hz5.at_ 4)) ?_
  go_frame
  refine ls_ex (some 11) (.int .i64 qs.length) rfl rfl (exec_len _ 28 68 rfl ((some ⟨b0, off0, none⟩)) qs.length c rfl Try.underlying28) ?_
  go_frame
  refine ls_ex (some 12) (.agg #[.int .i64 qs.length, .int .i64 0, .int .i64 0, .int .i64 0]) rfl rfl (exec_build_cost _ rfl qs.length rfl) ?_
  go_frame
  refine ls_op rfl (fun K' hK' => ?_)
  have lz12 := hB.size
  have lz13 := hz5.lt
  have lz14 := hz11.lt
  refine wp_new (some 3) rfl (al_impl_cost rfl) (fun Wz15 nnz16 => ?_)
  have bz17 := nnz16.below (Below.refl _ _) (Nat.le_refl _)
  replace hB := below_after hB bz17
  replace hz5 := hz5.after bz17
  replace hz11 := hz11.after bz17
  have hz18 : At Wz15 Wz8.heap.size (.cells #[.int .i64 0, .int .i64 0, .int .i64 0, .int .i64 0] 48 (0, 0)) := nnz16.at_
  refine hK' _ _ ?_
  clear hK' K' nnz16 bz17
  go_frame
  refine ls_op rfl (fun K' hK' => ?_)
  refine wp_store_all 48 _ _ rfl rfl Wz8.heap.size rfl #[.int .i64 qs.length, .int .i64 0, .int .i64 0, .int .i64 0] rfl _ _ hz18 4 (by kernel_rfl) rfl rfl (by intro x hx; simp at hx; rcases hx with rfl | rfl | rfl | rfl <;> rfl) (fun Wz19 pz20 => ?_)
  replace hB := pz20.below hB (by omega)
  replace hz5 := pz20.other hz5 (by omega)
  replace hz11 := pz20.other hz11 (by omega)
  replace hz18 : At Wz19 Wz8.heap.size (.cells #[.int .i64 qs.length, .int .i64 0, .int .i64 0, .int .i64 0] 48 (0, 0)) := pz20.at_
  refine hK' _ _ ?_
  clear hK' K' pz20
  refine wpList_nil ?_
  go_upto_region 2 with (fail)
  refine wp_region_lit ?_
  refine ls_op rfl (fun K' hK' => ?_)
  have lz21 := hB.size
  have lz22 := hz5.lt
  have lz23 := hz11.lt
  have lz24 := hz18.lt
  refine wp_new (some 4) rfl (al_impl_Form rfl) (fun Wz25 nnz26 => ?_)
  have bz27 := nnz26.below (Below.refl _ _) (Nat.le_refl _)
  replace hB := below_after hB bz27
  replace hz5 := hz5.after bz27
  replace hz11 := hz11.after bz27
  replace hz18 := hz18.after bz27
  have hz28 : At Wz25 Wz19.heap.size (.cells (u8s (List.replicate 9 0)) 66 (0, 0)) := nnz26.at_
  refine hK' _ _ ?_
  clear hK' K' nnz26 bz27
  go_frame
  refine wpList_nil ?_
  go_upto_region 3 with (fail)
  refine wp_region_lit ?_
  refine ls_ex (some 13) (.pointer (some ⟨w.heap.size, 4, none⟩)) rfl rfl (exec_fieldAddr 30 _ 4 rfl _ (by kernel_rfl)) ?_
  go_frame
  refine ls_ex (some 14) (.slice (some ⟨b0, off0, none⟩) qs.length c) rfl rfl (exec_load_one 28 _ rfl w.heap.size 4 rfl (.slice (some ⟨b0, off0, none⟩) qs.length c) _ Try.underlying28 rfl (hz5.at_ 4)) ?_
  go_frame
  refine ls_ex (some 15) (.int .i64 qs.length) rfl rfl (exec_len _ 28 68 rfl ((some ⟨b0, off0, none⟩)) qs.length c rfl Try.underlying28) ?_
  go_frame
  refine ls_ex (some 16) (.int .i64 0) rfl rfl (exec_move _ rfl (.int .i64 0) rfl) ?_
  go_frame
  refine wpList_nil ?_
  go_wp2_with fail
  go_loopw [16] (fun s16 wr => ∃ a : Nat, a ≤ qs.length ∧ s16 = .int .i64 a ∧ Below w.heap.size w wr ∧ At wr w.heap.size (.cells #[.int .i64 p, .int .i64 n, .int .i64 m, .int .i64 k, .slice (some ⟨b0, off0, none⟩) qs.length c] 30 (0, 0)) ∧ At wr Wz2.heap.size (.cells #[.int .i64 0, .int .i64 0, .int .i64 0, .int .i64 0] 48 (0, 0)) ∧ At wr Wz8.heap.size (.cells #[.int .i64 qs.length, .int .i64 (wsI qs 0 a), .int .i64 (wsI qs 9 a), .int .i64 (wCN qs a : Nat)] 48 (0, 0)) ∧ At wr Wz19.heap.size (.cells (u8s (orL qs a)) 66 (0, 0))) (fun s16 _ => qs.length - (intOf s16).toNat)
  case atStart => exact ⟨0, by omega, rfl, hB, hz5, hz11, hz18, hz28⟩
  case round =>
    clear hB hz5 hz11 hz18 hz28
    obtain ⟨a, ha, rfl, hB, h1, h2, h3, h4⟩ := hrel
    by_cases hlt : a < qs.length
    · have hb := hR.good _ (List.getElem_mem hlt)
      have hl := wsI_b qs 0 a
      have hr := wsI_b qs 9 a
      have hwC := wCN_le qs a
      have hwl := wtN_le (segm (qs[a]) 0 9)
      have hwr := wtN_le (segm (qs[a]) 9 9)
      have hwc := wtN_le (segm (qs[a]) 18 9)
      have Hl := Lib.hid (wsI_step2 0 hlt)
      have Hr9 := Lib.hid (wsI_step2 9 hlt)
      have Hw := Lib.hid (wCN_step hlt)
      have Hor := Lib.hid (orL_step hlt)
      have hfb := orL_bytes HQ.out a ha
      have hqb := segm_bytes (a := 18) (n := 9) hb (by omega)
      have hf8 := orL_lt HQ.out a ha
      have hq8 := HQ.out a hlt
      go_upto_region 4 with (fail)
      refine wp_region_lit ?_
      refine ls_ex (some 17) (.bool true) rfl rfl (exec_lss _ _ _ _ rfl a qs.length rfl rfl true (decide_eq_true (by omega))) ?_
      go_frame
      refine wpList_nil ?_
      go_upto_region 5 with (fail)
      refine wp_region_lit ?_
      refine ls_ex (some 18) (.pointer (some ⟨b0, off0 + a * 27, none⟩)) rfl rfl (exec_index_slice _ 68 _ _ rfl b0 off0 qs.length c a 27 rfl rfl Try.underlying28 (by kernel_rfl) (by omega)) ?_
      go_frame
      refine ls_ex (some 19) (.agg (u8s (qs[a]))) rfl rfl (exec_load_cells 68 _ rfl b0 (off0 + a * 27) rfl (qs[a]) _ 27 (Rd.c27 (hR.keep hB) hlt) Try.underlying68 rfl (by kernel_rfl) (hb.len)) ?_
      go_frame
      refine ls_op rfl (fun K' hK' => ?_)
      have lz29 := hB.size
      have lz30 := h1.lt
      have lz31 := h2.lt
      have lz32 := h3.lt
      have lz33 := h4.lt
      refine wp_new (some 6) rfl (al_impl_Product rfl) (fun Wz34 nnz35 => ?_)
      have bz36 := nnz35.below (Below.refl _ _) (Nat.le_refl _)
      replace hB := below_after hB bz36
      replace h1 := h1.after bz36
      replace h2 := h2.after bz36
      replace h3 := h3.after bz36
      replace h4 := h4.after bz36
      have hz37 : At Wz34 wr.heap.size (.cells (u8s (List.replicate 27 0)) 68 (0, 0)) := nnz35.at_
      refine hK' _ _ ?_
      clear hK' K' nnz35 bz36
      go_frame
      refine ls_op rfl (fun K' hK' => ?_)
      refine wp_store_bytes 68 _ _ rfl rfl wr.heap.size rfl (qs[a]) rfl _ _ hz37 27 (by kernel_rfl) hb.len (by simp) (fun Wz38 pz39 => ?_)
      replace hB := pz39.below hB (by omega)
      replace h1 := pz39.other h1 (by omega)
      replace h2 := pz39.other h2 (by omega)
      replace h3 := pz39.other h3 (by omega)
      replace h4 := pz39.other h4 (by omega)
      replace hz37 : At Wz38 wr.heap.size (.cells (u8s (qs[a])) 68 (0, 0)) := pz39.at_
      refine hK' _ _ ?_
      clear hK' K' pz39
      refine wpList_nil ?_
      go_upto_region 6 with (fail)
      refine wp_region_y (zs := [8]) (S := fun w' => Below w.heap.size w w' ∧ At w' wr.heap.size (.cells (u8s (qs[a])) 68 (0, 0))) (S2 := fun w' => At w' Wz8.heap.size (.cells #[.int .i64 qs.length, .int .i64 (wsI qs 0 a), .int .i64 (wsI qs 9 a), .int .i64 (wCN qs a : Nat)] 48 (0, 0))) (by kernel_rfl) ?_
      change wpAnyY _ _ _ _ _ _ _ _ _ _ (World.drew _)
      generalize hwdz40 : World.drew _ = wdz40
      replace hB : Below w.heap.size w wdz40 := by rw [← hwdz40]; exact hB.drew
      replace h1 : At wdz40 w.heap.size (.cells #[.int .i64 p, .int .i64 n, .int .i64 m, .int .i64 k, .slice (some ⟨b0, off0, none⟩) qs.length c] 30 (0, 0)) := by rw [← hwdz40]; exact h1
      replace h2 : At wdz40 Wz2.heap.size (.cells #[.int .i64 0, .int .i64 0, .int .i64 0, .int .i64 0] 48 (0, 0)) := by rw [← hwdz40]; exact h2
      replace h3 : At wdz40 Wz8.heap.size (.cells #[.int .i64 qs.length, .int .i64 (wsI qs 0 a), .int .i64 (wsI qs 9 a), .int .i64 (wCN qs a : Nat)] 48 (0, 0)) := by rw [← hwdz40]; exact h3
      replace h4 : At wdz40 Wz19.heap.size (.cells (u8s (orL qs a)) 66 (0, 0)) := by rw [← hwdz40]; exact h4
      replace hz37 : At wdz40 wr.heap.size (.cells (u8s (qs[a])) 68 (0, 0)) := by rw [← hwdz40]; exact hz37
      clear hwdz40
      refine y_yield 0 (some 20) (.pointer (some ⟨Wz8.heap.size, 1, none⟩)) rfl (by kernel_rfl) (by kernel_rfl) (by kernel_rfl) (fun _ _ _ h => h) rfl rfl ⟨hB, hz37⟩ (fun w' h' => exec_fieldAddr 48 _ 1 rfl _ (by kernel_rfl)) ?_
      go_frame
      refine y_yield2 1 (some 21) (.int .i64 (wsI qs 0 a)) rfl (by kernel_rfl) (by kernel_rfl) (by kernel_rfl) (by kernel_rfl) (fun _ _ _ h => h) rfl rfl ⟨hB, hz37⟩ h3 (fun w' h' h2' => exec_load_one 2 _ rfl Wz8.heap.size 1 rfl (.int .i64 (wsI qs 0 a)) _ Try.underlying2 rfl (h2'.at_ 1)) ?_
      go_frame
      refine y_yield 2 (some 22) (.pointer (some ⟨wr.heap.size, 0, none⟩)) rfl (by kernel_rfl) (by kernel_rfl) (by kernel_rfl) (fun _ _ _ h => h) rfl rfl ⟨hB, hz37⟩ (fun w' h' => exec_fieldAddr 68 _ 0 rfl _ (by kernel_rfl)) ?_
      go_frame
      refine y_yield 3 (some 23) (.agg (u8s (segm (qs[a]) 0 9))) rfl (by kernel_rfl) (by kernel_rfl) (by kernel_rfl) (fun _ _ _ h => h) rfl rfl ⟨hB, hz37⟩ (fun w' h' => exec_load_seg 66 _ rfl wr.heap.size (0) rfl _ (qs[a]) _ 9 h'.2 Try.underlying66 rfl (by kernel_rfl) (by rw [hb.len]; omega) (segm (qs[a]) 0 9) rfl) ?_
      go_frame
      refine y_oper 4 (by kernel_rfl) rfl rfl (fun K' hK' => ?_)
      have lz43 := hB.size
      have lz44 := h1.lt
      have lz45 := h2.lt
      have lz46 := h3.lt
      have lz47 := h4.lt
      have lz48 := hz37.lt
      refine wp_call1 (some 24) rfl 53 _ _ rfl (fun args w => by kernel_rfl) _ rfl _ (weight_c (segm (qs[a]) 0 9) (segm_bytes hb (by omega)) _) (fun e Wz41 h => ?_)
      obtain ⟨rfl, bz42⟩ := h
      replace hB := below_after hB bz42
      replace h1 := h1.after bz42
      replace h2 := h2.after bz42
      replace h3 := h3.after bz42
      replace h4 := h4.after bz42
      replace hz37 := hz37.after bz42
      clear bz42
      refine ⟨_, rfl, ?_⟩
      refine hK' _ _ ⟨hB, hz37⟩ (fun _ => h3) ?_
      clear hK' K'
      go_frame
      refine y_yield 5 (some 25) (.int .i64 ((wtN (segm (qs[a]) 0 9) : Nat) - 1)) rfl (by kernel_rfl) (by kernel_rfl) (by kernel_rfl) (fun _ _ _ h => h) rfl rfl ⟨hB, hz37⟩ (fun w' h' => exec_sub _ _ _ _ rfl ((wtN (segm (qs[a]) 0 9) : Nat)) 1 ((wtN (segm (qs[a]) 0 9) : Nat) - 1) rfl rfl (IntWalk.i64_in _ (by omega))) ?_
      go_frame
      refine y_yield 6 (some 26) (.int .i64 ((wsI qs 0 a) + ((wtN (segm (qs[a]) 0 9) : Nat) - 1))) rfl (by kernel_rfl) (by kernel_rfl) (by kernel_rfl) (fun _ _ _ h => h) rfl rfl ⟨hB, hz37⟩ (fun w' h' => exec_add _ _ _ _ rfl ((wsI qs 0 a)) (((wtN (segm (qs[a]) 0 9) : Nat) - 1)) ((wsI qs 0 a) + ((wtN (segm (qs[a]) 0 9) : Nat) - 1)) rfl rfl (IntWalk.i64_in _ (by omega))) ?_
      go_frame
      refine y_yield 7 (some 27) (.pointer (some ⟨Wz8.heap.size, 1, none⟩)) rfl (by kernel_rfl) (by kernel_rfl) (by kernel_rfl) (fun _ _ _ h => h) rfl rfl ⟨hB, hz37⟩ (fun w' h' => exec_fieldAddr 48 _ 1 rfl _ (by kernel_rfl)) ?_
      go_frame
      refine y_oper 8 (by kernel_rfl) rfl rfl (fun K' hK' => ?_)
      refine wp_store_one 2 _ _ rfl rfl Wz8.heap.size 1 rfl (.int .i64 ((wsI qs 0 a) + ((wtN (segm (qs[a]) 0 9) : Nat) - 1))) rfl rfl rfl _ _ h3 (by kernel_rfl) (by simp) (fun Wz49 pz50 => ?_)
      replace hB := pz50.below hB (by omega)
      replace h1 := pz50.other h1 (by omega)
      replace h2 := pz50.other h2 (by omega)
      replace h4 := pz50.other h4 (by omega)
      replace hz37 := pz50.other hz37 (by omega)
      replace h3 : At Wz49 Wz8.heap.size (.cells #[.int .i64 qs.length, .int .i64 ((wsI qs 0 a) + ((wtN (segm (qs[a]) 0 9) : Nat) - 1)), .int .i64 (wsI qs 9 a), .int .i64 (wCN qs a : Nat)] 48 (0, 0)) := pz50.at_
      refine hK' _ _ ⟨hB, hz37⟩ (fun h => absurd (by decide) h) ?_
      clear hK' K' pz50
      refine y_done (by kernel_rfl) ?_ _
      go_upto_region 7 with (fail)
      refine wp_region_y (zs := [8]) (S := fun w' => Below w.heap.size w w' ∧ At w' wr.heap.size (.cells (u8s (qs[a])) 68 (0, 0))) (S2 := fun w' => At w' Wz8.heap.size (.cells #[.int .i64 qs.length, .int .i64 ((wsI qs 0 a) + ((wtN (segm (qs[a]) 0 9) : Nat) - 1)), .int .i64 (wsI qs 9 a), .int .i64 (wCN qs a : Nat)] 48 (0, 0))) (by kernel_rfl) ?_
      change wpAnyY _ _ _ _ _ _ _ _ _ _ (World.drew _)
      generalize hwdz51 : World.drew _ = wdz51
      replace hB : Below w.heap.size w wdz51 := by rw [← hwdz51]; exact hB.drew
      replace h1 : At wdz51 w.heap.size (.cells #[.int .i64 p, .int .i64 n, .int .i64 m, .int .i64 k, .slice (some ⟨b0, off0, none⟩) qs.length c] 30 (0, 0)) := by rw [← hwdz51]; exact h1
      replace h2 : At wdz51 Wz2.heap.size (.cells #[.int .i64 0, .int .i64 0, .int .i64 0, .int .i64 0] 48 (0, 0)) := by rw [← hwdz51]; exact h2
      replace h3 : At wdz51 Wz8.heap.size (.cells #[.int .i64 qs.length, .int .i64 ((wsI qs 0 a) + ((wtN (segm (qs[a]) 0 9) : Nat) - 1)), .int .i64 (wsI qs 9 a), .int .i64 (wCN qs a : Nat)] 48 (0, 0)) := by rw [← hwdz51]; exact h3
      replace h4 : At wdz51 Wz19.heap.size (.cells (u8s (orL qs a)) 66 (0, 0)) := by rw [← hwdz51]; exact h4
      replace hz37 : At wdz51 wr.heap.size (.cells (u8s (qs[a])) 68 (0, 0)) := by rw [← hwdz51]; exact hz37
      clear hwdz51
      refine y_yield 0 (some 28) (.pointer (some ⟨Wz8.heap.size, 2, none⟩)) rfl (by kernel_rfl) (by kernel_rfl) (by kernel_rfl) (fun _ _ _ h => h) rfl rfl ⟨hB, hz37⟩ (fun w' h' => exec_fieldAddr 48 _ 2 rfl _ (by kernel_rfl)) ?_
      go_frame
      refine y_yield2 1 (some 29) (.int .i64 (wsI qs 9 a)) rfl (by kernel_rfl) (by kernel_rfl) (by kernel_rfl) (by kernel_rfl) (fun _ _ _ h => h) rfl rfl ⟨hB, hz37⟩ h3 (fun w' h' h2' => exec_load_one 2 _ rfl Wz8.heap.size 2 rfl (.int .i64 (wsI qs 9 a)) _ Try.underlying2 rfl (h2'.at_ 2)) ?_
      go_frame
      refine y_yield 2 (some 30) (.pointer (some ⟨wr.heap.size, 9, none⟩)) rfl (by kernel_rfl) (by kernel_rfl) (by kernel_rfl) (fun _ _ _ h => h) rfl rfl ⟨hB, hz37⟩ (fun w' h' => exec_fieldAddr 68 _ 1 rfl _ (by kernel_rfl)) ?_
      go_frame
      refine y_yield 3 (some 31) (.agg (u8s (segm (qs[a]) 9 9))) rfl (by kernel_rfl) (by kernel_rfl) (by kernel_rfl) (fun _ _ _ h => h) rfl rfl ⟨hB, hz37⟩ (fun w' h' => exec_load_seg 66 _ rfl wr.heap.size (9) rfl _ (qs[a]) _ 9 h'.2 Try.underlying66 rfl (by kernel_rfl) (by rw [hb.len]; omega) (segm (qs[a]) 9 9) rfl) ?_
      go_frame
      refine y_oper 4 (by kernel_rfl) rfl rfl (fun K' hK' => ?_)
      have lz54 := hB.size
      have lz55 := h1.lt
      have lz56 := h2.lt
      have lz57 := h3.lt
      have lz58 := h4.lt
      have lz59 := hz37.lt
      refine wp_call1 (some 32) rfl 53 _ _ rfl (fun args w => by kernel_rfl) _ rfl _ (weight_c (segm (qs[a]) 9 9) (segm_bytes hb (by omega)) _) (fun e Wz52 h => ?_)
      obtain ⟨rfl, bz53⟩ := h
      replace hB := below_after hB bz53
      replace h1 := h1.after bz53
      replace h2 := h2.after bz53
      replace h3 := h3.after bz53
      replace h4 := h4.after bz53
      replace hz37 := hz37.after bz53
      clear bz53
      refine ⟨_, rfl, ?_⟩
      refine hK' _ _ ⟨hB, hz37⟩ (fun _ => h3) ?_
      clear hK' K'
      go_frame
      refine y_yield 5 (some 33) (.int .i64 ((wtN (segm (qs[a]) 9 9) : Nat) - 1)) rfl (by kernel_rfl) (by kernel_rfl) (by kernel_rfl) (fun _ _ _ h => h) rfl rfl ⟨hB, hz37⟩ (fun w' h' => exec_sub _ _ _ _ rfl ((wtN (segm (qs[a]) 9 9) : Nat)) 1 ((wtN (segm (qs[a]) 9 9) : Nat) - 1) rfl rfl (IntWalk.i64_in _ (by omega))) ?_
      go_frame
      refine y_yield 6 (some 34) (.int .i64 ((wsI qs 9 a) + ((wtN (segm (qs[a]) 9 9) : Nat) - 1))) rfl (by kernel_rfl) (by kernel_rfl) (by kernel_rfl) (fun _ _ _ h => h) rfl rfl ⟨hB, hz37⟩ (fun w' h' => exec_add _ _ _ _ rfl ((wsI qs 9 a)) (((wtN (segm (qs[a]) 9 9) : Nat) - 1)) ((wsI qs 9 a) + ((wtN (segm (qs[a]) 9 9) : Nat) - 1)) rfl rfl (IntWalk.i64_in _ (by omega))) ?_
      go_frame
      refine y_yield 7 (some 35) (.pointer (some ⟨Wz8.heap.size, 2, none⟩)) rfl (by kernel_rfl) (by kernel_rfl) (by kernel_rfl) (fun _ _ _ h => h) rfl rfl ⟨hB, hz37⟩ (fun w' h' => exec_fieldAddr 48 _ 2 rfl _ (by kernel_rfl)) ?_
      go_frame
      refine y_oper 8 (by kernel_rfl) rfl rfl (fun K' hK' => ?_)
      refine wp_store_one 2 _ _ rfl rfl Wz8.heap.size 2 rfl (.int .i64 ((wsI qs 9 a) + ((wtN (segm (qs[a]) 9 9) : Nat) - 1))) rfl rfl rfl _ _ h3 (by kernel_rfl) (by simp) (fun Wz60 pz61 => ?_)
      replace hB := pz61.below hB (by omega)
      replace h1 := pz61.other h1 (by omega)
      replace h2 := pz61.other h2 (by omega)
      replace h4 := pz61.other h4 (by omega)
      replace hz37 := pz61.other hz37 (by omega)
      replace h3 : At Wz60 Wz8.heap.size (.cells #[.int .i64 qs.length, .int .i64 ((wsI qs 0 a) + ((wtN (segm (qs[a]) 0 9) : Nat) - 1)), .int .i64 ((wsI qs 9 a) + ((wtN (segm (qs[a]) 9 9) : Nat) - 1)), .int .i64 (wCN qs a : Nat)] 48 (0, 0)) := pz61.at_
      refine hK' _ _ ⟨hB, hz37⟩ (fun h => absurd (by decide) h) ?_
      clear hK' K' pz61
      refine y_done (by kernel_rfl) ?_ _
      go_upto_region 8 with (fail)
      refine wp_region_y (zs := [7]) (S := fun w' => Below w.heap.size w w' ∧ At w' wr.heap.size (.cells (u8s (qs[a])) 68 (0, 0))) (S2 := fun w' => At w' Wz8.heap.size (.cells #[.int .i64 qs.length, .int .i64 ((wsI qs 0 a) + ((wtN (segm (qs[a]) 0 9) : Nat) - 1)), .int .i64 ((wsI qs 9 a) + ((wtN (segm (qs[a]) 9 9) : Nat) - 1)), .int .i64 (wCN qs a : Nat)] 48 (0, 0))) (by kernel_rfl) ?_
      change wpAnyY _ _ _ _ _ _ _ _ _ _ (World.drew _)
      generalize hwdz62 : World.drew _ = wdz62
      replace hB : Below w.heap.size w wdz62 := by rw [← hwdz62]; exact hB.drew
      replace h1 : At wdz62 w.heap.size (.cells #[.int .i64 p, .int .i64 n, .int .i64 m, .int .i64 k, .slice (some ⟨b0, off0, none⟩) qs.length c] 30 (0, 0)) := by rw [← hwdz62]; exact h1
      replace h2 : At wdz62 Wz2.heap.size (.cells #[.int .i64 0, .int .i64 0, .int .i64 0, .int .i64 0] 48 (0, 0)) := by rw [← hwdz62]; exact h2
      replace h3 : At wdz62 Wz8.heap.size (.cells #[.int .i64 qs.length, .int .i64 ((wsI qs 0 a) + ((wtN (segm (qs[a]) 0 9) : Nat) - 1)), .int .i64 ((wsI qs 9 a) + ((wtN (segm (qs[a]) 9 9) : Nat) - 1)), .int .i64 (wCN qs a : Nat)] 48 (0, 0)) := by rw [← hwdz62]; exact h3
      replace h4 : At wdz62 Wz19.heap.size (.cells (u8s (orL qs a)) 66 (0, 0)) := by rw [← hwdz62]; exact h4
      replace hz37 : At wdz62 wr.heap.size (.cells (u8s (qs[a])) 68 (0, 0)) := by rw [← hwdz62]; exact hz37
      clear hwdz62
      refine y_yield 0 (some 36) (.pointer (some ⟨Wz8.heap.size, 3, none⟩)) rfl (by kernel_rfl) (by kernel_rfl) (by kernel_rfl) (fun _ _ _ h => h) rfl rfl ⟨hB, hz37⟩ (fun w' h' => exec_fieldAddr 48 _ 3 rfl _ (by kernel_rfl)) ?_
      go_frame
      refine y_yield2 1 (some 37) (.int .i64 (wCN qs a : Nat)) rfl (by kernel_rfl) (by kernel_rfl) (by kernel_rfl) (by kernel_rfl) (fun _ _ _ h => h) rfl rfl ⟨hB, hz37⟩ h3 (fun w' h' h2' => exec_load_one 2 _ rfl Wz8.heap.size 3 rfl (.int .i64 (wCN qs a : Nat)) _ Try.underlying2 rfl (h2'.at_ 3)) ?_
      go_frame
      refine y_yield 2 (some 38) (.pointer (some ⟨wr.heap.size, 18, none⟩)) rfl (by kernel_rfl) (by kernel_rfl) (by kernel_rfl) (fun _ _ _ h => h) rfl rfl ⟨hB, hz37⟩ (fun w' h' => exec_fieldAddr 68 _ 2 rfl _ (by kernel_rfl)) ?_
      go_frame
      refine y_yield 3 (some 39) (.agg (u8s (segm (qs[a]) 18 9))) rfl (by kernel_rfl) (by kernel_rfl) (by kernel_rfl) (fun _ _ _ h => h) rfl rfl ⟨hB, hz37⟩ (fun w' h' => exec_load_seg 66 _ rfl wr.heap.size (18) rfl _ (qs[a]) _ 9 h'.2 Try.underlying66 rfl (by kernel_rfl) (by rw [hb.len]; omega) (segm (qs[a]) 18 9) rfl) ?_
      go_frame
      refine y_oper 4 (by kernel_rfl) rfl rfl (fun K' hK' => ?_)
      have lz65 := hB.size
      have lz66 := h1.lt
      have lz67 := h2.lt
      have lz68 := h3.lt
      have lz69 := h4.lt
      have lz70 := hz37.lt
      refine wp_call1 (some 40) rfl 53 _ _ rfl (fun args w => by kernel_rfl) _ rfl _ (weight_c (segm (qs[a]) 18 9) (segm_bytes hb (by omega)) _) (fun e Wz63 h => ?_)
      obtain ⟨rfl, bz64⟩ := h
      replace hB := below_after hB bz64
      replace h1 := h1.after bz64
      replace h2 := h2.after bz64
      replace h3 := h3.after bz64
      replace h4 := h4.after bz64
      replace hz37 := hz37.after bz64
      clear bz64
      refine ⟨_, rfl, ?_⟩
      refine hK' _ _ ⟨hB, hz37⟩ (fun _ => h3) ?_
      clear hK' K'
      go_frame
      refine y_yield 5 (some 41) (.int .i64 ((wCN qs a : Nat) + (wtN (segm (qs[a]) 18 9) : Nat))) rfl (by kernel_rfl) (by kernel_rfl) (by kernel_rfl) (fun _ _ _ h => h) rfl rfl ⟨hB, hz37⟩ (fun w' h' => exec_add _ _ _ _ rfl ((wCN qs a : Nat)) ((wtN (segm (qs[a]) 18 9) : Nat)) ((wCN qs a : Nat) + (wtN (segm (qs[a]) 18 9) : Nat)) rfl rfl (IntWalk.i64_in _ (by omega))) ?_
      go_frame
      refine y_yield 6 (some 42) (.pointer (some ⟨Wz8.heap.size, 3, none⟩)) rfl (by kernel_rfl) (by kernel_rfl) (by kernel_rfl) (fun _ _ _ h => h) rfl rfl ⟨hB, hz37⟩ (fun w' h' => exec_fieldAddr 48 _ 3 rfl _ (by kernel_rfl)) ?_
      go_frame
      refine y_oper 7 (by kernel_rfl) rfl rfl (fun K' hK' => ?_)
      refine wp_store_one 2 _ _ rfl rfl Wz8.heap.size 3 rfl (.int .i64 ((wCN qs a : Nat) + (wtN (segm (qs[a]) 18 9) : Nat))) rfl rfl rfl _ _ h3 (by kernel_rfl) (by simp) (fun Wz71 pz72 => ?_)
      replace hB := pz72.below hB (by omega)
      replace h1 := pz72.other h1 (by omega)
      replace h2 := pz72.other h2 (by omega)
      replace h4 := pz72.other h4 (by omega)
      replace hz37 := pz72.other hz37 (by omega)
      replace h3 : At Wz71 Wz8.heap.size (.cells #[.int .i64 qs.length, .int .i64 ((wsI qs 0 a) + ((wtN (segm (qs[a]) 0 9) : Nat) - 1)), .int .i64 ((wsI qs 9 a) + ((wtN (segm (qs[a]) 9 9) : Nat) - 1)), .int .i64 ((wCN qs a : Nat) + (wtN (segm (qs[a]) 18 9) : Nat))] 48 (0, 0)) := pz72.at_
      refine hK' _ _ ⟨hB, hz37⟩ (fun h => absurd (by decide) h) ?_
      clear hK' K' pz72
      refine y_done (by kernel_rfl) ?_ _
      go_upto_region 9 with (fail)
      refine wp_region_lit ?_
      refine ls_ex (some 43) (.pointer (some ⟨wr.heap.size, 18, none⟩)) rfl rfl (exec_fieldAddr 68 _ 2 rfl _ (by kernel_rfl)) ?_
      go_frame
      refine ls_ex (some 44) (.agg (u8s (segm (qs[a]) 18 9))) rfl rfl (exec_load_seg 66 _ rfl wr.heap.size (18) rfl _ (qs[a]) _ 9 hz37 Try.underlying66 rfl (by kernel_rfl) (by rw [hb.len]; omega) (segm (qs[a]) 18 9) rfl) ?_
      go_frame
      refine ls_ex (some 45) (.int .i64 0) rfl rfl (exec_move _ rfl (.int .i64 0) rfl) ?_
      go_frame
      refine wpList_nil ?_
      go_wp2_with fail
      obtain ⟨we, rfl⟩ : ∃ x : World, x = wr := ⟨_, rfl⟩
      go_loopw [45] (fun s45 wr => ∃ d : Nat, d ≤ 9 ∧ s45 = .int .i64 d ∧ Below w.heap.size w wr ∧ At wr w.heap.size (.cells #[.int .i64 p, .int .i64 n, .int .i64 m, .int .i64 k, .slice (some ⟨b0, off0, none⟩) qs.length c] 30 (0, 0)) ∧ At wr Wz2.heap.size (.cells #[.int .i64 0, .int .i64 0, .int .i64 0, .int .i64 0] 48 (0, 0)) ∧ At wr Wz8.heap.size (.cells #[.int .i64 qs.length, .int .i64 ((wsI qs 0 a) + ((wtN (segm (qs[a]) 0 9) : Nat) - 1)), .int .i64 ((wsI qs 9 a) + ((wtN (segm (qs[a]) 9 9) : Nat) - 1)), .int .i64 ((wCN qs a : Nat) + (wtN (segm (qs[a]) 18 9) : Nat))] 48 (0, 0)) ∧ At wr Wz19.heap.size (.cells (u8s (mixF (orF (orL qs a) (segm (qs[a]) 18 9)) (orL qs a) d)) 66 (0, 0))) (fun s45 _ => 9 - (intOf s45).toNat)
      case atStart => exact ⟨0, by omega, rfl, hB, h1, h2, h3, by rw [mixF_zero]; exact h4⟩
      case round =>
        clear hB h1 h2 h3 h4 hz37
        obtain ⟨d, hd9, rfl, hB, h1, h2, h3, h4⟩ := hrel
        by_cases hd : d < 9
        · have hm := mixF_len (orF_len (orL qs a) (segm (qs[a]) 18 9)) hfb.len (show d ≤ 9 by omega)
          have HV : Hid ((orF (orL qs a) (segm (qs[a]) 18 9))[d]?.getD 0 = (orL qs a)[d]?.getD 0 ||| (segm (qs[a]) 18 9)[d]?.getD 0) := Lib.hid (orF_get _ _ hd)
          have hcx := h4.cell (i := d) (by rw [hm]; exact hd)
          rw [mixF_get (orF_len _ _) (Nat.le_refl _) (by omega)] at hcx
          have hx8 := hf8 d
          have hy8 : (segm (qs[a]) 18 9)[d]?.getD 0 < 8 := by rw [segm_nth _ _ _ _ hd]; exact hq8 (18 + d) (by omega)
          have HIX : Hid (∀ (o : Oper) (a2 : Act) (w : World) (x i : Operand), o.op = .index 66 x i → a2.eval x = .agg (u8s (segm (qs[a]) 18 9)) → a2.eval i = .int .i64 d → (execOp a2.eval o).run Try.prog w = .ok (.value (.int .u8 (((segm (qs[a]) 18 9)[d]?.getD 0 : Nat) : Int))) w) := Lib.hid (fun o a2 w x i ho hx hi => exec_index_u8s 66 5 x i ho 9 d (segm (qs[a]) 18 9) hx hi Try.underlying66 Try.underlying5 (by kernel_rfl) hqb.len hd)
          generalize (orL qs a)[d]?.getD 0 = x at *
          generalize (segm (qs[a]) 18 9)[d]?.getD 0 = y at *
          go_upto_region 10 with (fail)
          refine wp_region_lit ?_
          refine ls_ex (some 46) (.bool true) rfl rfl (exec_lss _ _ _ _ rfl d 9 rfl rfl true (decide_eq_true (by omega))) ?_
          go_frame
          refine wpList_nil ?_
          go_upto_region 11 with (fail)
          refine wp_region_lit ?_
          refine ls_ex (some 47) (.int .i64 d) rfl rfl (exec_move _ rfl (.int .i64 d) rfl) ?_
          go_frame
          refine ls_ex (some 48) (.int .u8 (y : Nat)) rfl rfl (HIX.out _ _ _ _ _ rfl rfl rfl) ?_
          go_frame
          refine ls_ex (some 7) (.int .i64 d) rfl rfl (exec_assign _ rfl (.int .i64 d) rfl) ?_
          go_frame
          refine ls_ex (some 8) (.int .u8 (y : Nat)) rfl rfl (exec_assign _ rfl (.int .u8 (y : Nat)) rfl) ?_
          go_frame
          refine wpList_nil ?_
          go_upto_region 12 with (fail)
          refine wp_region_lit ?_
          refine ls_ex (some 49) (.int .i64 d) rfl rfl (exec_move _ rfl (.int .i64 d) rfl) ?_
          go_frame
          refine ls_ex (some 50) (.pointer (some ⟨Wz19.heap.size, 0 + d * 1, none⟩)) rfl rfl (exec_index_arr _ 5 _ _ rfl Wz19.heap.size 0 9 d 1 rfl rfl Try.underlying66 (by kernel_rfl) hd) ?_
          go_frame
          refine ls_ex (some 51) (.int .u8 (x : Nat)) rfl rfl (exec_load_one 5 _ rfl Wz19.heap.size (0 + d * 1) rfl (.int .u8 (x : Nat)) _ Try.underlying5 rfl (by rw [show 0 + d * 1 = d by omega]; exact hcx)) ?_
          go_frame
          refine ls_ex (some 52) (.int .u8 (y : Nat)) rfl rfl (exec_move _ rfl (.int .u8 (y : Nat)) rfl) ?_
          go_frame
          refine ls_ex (some 53) (.int .u8 ((x ||| y : Nat) : Int)) rfl rfl (exec_or_u8 _ _ _ _ rfl x y hx8 hy8 rfl rfl) ?_
          go_frame
          refine ls_ex (some 54) (.pointer (some ⟨Wz19.heap.size, 0 + d * 1, none⟩)) rfl rfl (exec_index_arr _ 5 _ _ rfl Wz19.heap.size 0 9 d 1 rfl rfl Try.underlying66 (by kernel_rfl) hd) ?_
          go_frame
          refine ls_op rfl (fun K' hK' => ?_)
          refine wp_store_one 5 _ _ rfl rfl Wz19.heap.size (0 + d * 1) rfl (.int .u8 ((x ||| y : Nat) : Int)) rfl rfl rfl _ _ h4 (by kernel_rfl) (by rw [u8s_size, hm]; omega) (fun Wz73 pz74 => ?_)
          replace hB := pz74.below hB (by omega)
          replace h1 := pz74.other h1 (by omega)
          replace h2 := pz74.other h2 (by omega)
          replace h3 := pz74.other h3 (by omega)
          replace h4 : At Wz73 Wz19.heap.size (.cells (u8s (mixF (orF (orL qs a) (segm (qs[a]) 18 9)) (orL qs a) (d + 1))) 66 (0, 0)) := by have h9 := pz74.at_; rw [show 0 + d * 1 = d by omega, u8s_set, ← HV.out, mixF_set (orF_len _ _) hfb.len hd] at h9; exact h9
          refine hK' _ _ ?_
          clear hK' K' pz74
          refine wpList_nil ?_
          go_upto_region 13 with (fail)
          refine wp_region_lit ?_
          refine ls_ex (some 55) (.int .i64 (d + 1)) rfl rfl (exec_add _ _ _ _ rfl d 1 (d + 1) rfl rfl (IntWalk.i64_in _ (by omega))) ?_
          go_frame
          refine ls_ex (some 45) (.int .i64 (d + 1)) rfl rfl (exec_move _ rfl (.int .i64 (d + 1)) rfl) ?_
          go_frame
          refine wpList_nil ?_
          go_wp2_with fail
          go_roundw
          case rel => exact ⟨d + 1, by omega, by go_num, hB, h1, h2, h3, h4⟩
          case measure => simp [intOf]; omega
        · have HEd : Hid (d = 9) := Lib.hid (by omega)
          rw [HEd.out, mixF_all (orF_len _ _) hfb.len, ← Hor.out] at h4
          rw [HEd.out]
          clear hd9 hd HEd
          go_upto_region 10 with (fail)
          refine wp_region_lit ?_
          refine ls_ex (some 46) (.bool false) rfl rfl (exec_lss _ _ _ _ rfl 9 9 rfl rfl false (decide_eq_false (by omega))) ?_
          go_frame
          refine wpList_nil ?_
          go_upto_region 14 with (fail)
          refine wp_region_lit ?_
          refine ls_ex (some 56) (.int .i64 (a + 1)) rfl rfl (exec_add _ _ _ _ rfl a 1 (a + 1) rfl rfl (IntWalk.i64_in _ (by omega))) ?_
          go_frame
          refine ls_ex (some 16) (.int .i64 (a + 1)) rfl rfl (exec_move _ rfl (.int .i64 (a + 1)) rfl) ?_
          go_frame
          refine wpList_nil ?_
          go_wp2_with fail
          go_roundw
          case rel => exact ⟨a + 1, by omega, by go_num, hB, h1, h2, by rw [Hl.out, Hr9.out, Hw.out]; exact h3, h4⟩
          case measure => simp [intOf]; omega
    · have HEa : Hid (a = qs.length) := Lib.hid (by omega)
      rw [HEa.out] at h3 h4
      rw [HEa.out]
      have hwC := wCN_le qs qs.length
      have hwo := wtN_le (orL qs qs.length)
      clear ha hlt HEa
      go_upto_region 4 with (fail)
      refine wp_region_lit ?_
      refine ls_ex (some 17) (.bool false) rfl rfl (exec_lss _ _ _ _ rfl qs.length qs.length rfl rfl false (decide_eq_false (by omega))) ?_
      go_frame
      refine wpList_nil ?_
      go_upto_region 15 with (fail)
      refine wp_region_y (zs := [6]) (S := fun w' => Below w.heap.size w w' ∧ At w' Wz19.heap.size (.cells (u8s (orL qs qs.length)) 66 (0, 0))) (S2 := fun w' => At w' Wz8.heap.size (.cells #[.int .i64 qs.length, .int .i64 (wsI qs 0 qs.length), .int .i64 (wsI qs 9 qs.length), .int .i64 (wCN qs qs.length : Nat)] 48 (0, 0))) (by kernel_rfl) ?_
      change wpAnyY _ _ _ _ _ _ _ _ _ _ (World.drew _)
      generalize hwdz75 : World.drew _ = wdz75
      replace hB : Below w.heap.size w wdz75 := by rw [← hwdz75]; exact hB.drew
      replace h1 : At wdz75 w.heap.size (.cells #[.int .i64 p, .int .i64 n, .int .i64 m, .int .i64 k, .slice (some ⟨b0, off0, none⟩) qs.length c] 30 (0, 0)) := by rw [← hwdz75]; exact h1
      replace h2 : At wdz75 Wz2.heap.size (.cells #[.int .i64 0, .int .i64 0, .int .i64 0, .int .i64 0] 48 (0, 0)) := by rw [← hwdz75]; exact h2
      replace h3 : At wdz75 Wz8.heap.size (.cells #[.int .i64 qs.length, .int .i64 (wsI qs 0 qs.length), .int .i64 (wsI qs 9 qs.length), .int .i64 (wCN qs qs.length : Nat)] 48 (0, 0)) := by rw [← hwdz75]; exact h3
      replace h4 : At wdz75 Wz19.heap.size (.cells (u8s (orL qs qs.length)) 66 (0, 0)) := by rw [← hwdz75]; exact h4
      clear hwdz75
      refine y_yield 0 (some 57) (.pointer (some ⟨Wz8.heap.size, 3, none⟩)) rfl (by kernel_rfl) (by kernel_rfl) (by kernel_rfl) (fun _ _ _ h => h) rfl rfl ⟨hB, h4⟩ (fun w' h' => exec_fieldAddr 48 _ 3 rfl _ (by kernel_rfl)) ?_
      go_frame
      refine y_yield2 1 (some 58) (.int .i64 (wCN qs qs.length : Nat)) rfl (by kernel_rfl) (by kernel_rfl) (by kernel_rfl) (by kernel_rfl) (fun _ _ _ h => h) rfl rfl ⟨hB, h4⟩ h3 (fun w' h' h2' => exec_load_one 2 _ rfl Wz8.heap.size 3 rfl (.int .i64 (wCN qs qs.length : Nat)) _ Try.underlying2 rfl (h2'.at_ 3)) ?_
      go_frame
      refine y_yield 2 (some 59) (.agg (u8s (orL qs qs.length))) rfl (by kernel_rfl) (by kernel_rfl) (by kernel_rfl) (fun _ _ _ h => h) rfl rfl ⟨hB, h4⟩ (fun w' h' => exec_load_all 66 _ rfl Wz19.heap.size rfl _ _ _ h'.2 Try.underlying66 rfl 9 (by kernel_rfl) ((u8s_size _).trans (orL_bytes HQ.out qs.length (Nat.le_refl _)).len)) ?_
      go_frame
      refine y_oper 3 (by kernel_rfl) rfl rfl (fun K' hK' => ?_)
      have lz78 := hB.size
      have lz79 := h1.lt
      have lz80 := h2.lt
      have lz81 := h3.lt
      have lz82 := h4.lt
      refine wp_call1 (some 60) rfl 53 _ _ rfl (fun args w => by kernel_rfl) _ rfl _ (weight_c (orL qs qs.length) (orL_bytes HQ.out qs.length (Nat.le_refl _)) _) (fun e Wz76 h => ?_)
      obtain ⟨rfl, bz77⟩ := h
      replace hB := below_after hB bz77
      replace h1 := h1.after bz77
      replace h2 := h2.after bz77
      replace h3 := h3.after bz77
      replace h4 := h4.after bz77
      clear bz77
      refine ⟨_, rfl, ?_⟩
      refine hK' _ _ ⟨hB, h4⟩ (fun _ => h3) ?_
      clear hK' K'
      go_frame
      refine y_yield 4 (some 61) (.int .i64 ((wCN qs qs.length : Nat) - (wtN (orL qs qs.length) : Nat))) rfl (by kernel_rfl) (by kernel_rfl) (by kernel_rfl) (fun _ _ _ h => h) rfl rfl ⟨hB, h4⟩ (fun w' h' => exec_sub _ _ _ _ rfl ((wCN qs qs.length : Nat)) ((wtN (orL qs qs.length) : Nat)) ((wCN qs qs.length : Nat) - (wtN (orL qs qs.length) : Nat)) rfl rfl (IntWalk.i64_in _ (by omega))) ?_
      go_frame
      refine y_yield 5 (some 62) (.pointer (some ⟨Wz8.heap.size, 3, none⟩)) rfl (by kernel_rfl) (by kernel_rfl) (by kernel_rfl) (fun _ _ _ h => h) rfl rfl ⟨hB, h4⟩ (fun w' h' => exec_fieldAddr 48 _ 3 rfl _ (by kernel_rfl)) ?_
      go_frame
      refine y_oper 6 (by kernel_rfl) rfl rfl (fun K' hK' => ?_)
      refine wp_store_one 2 _ _ rfl rfl Wz8.heap.size 3 rfl (.int .i64 ((wCN qs qs.length : Nat) - (wtN (orL qs qs.length) : Nat))) rfl rfl rfl _ _ h3 (by kernel_rfl) (by simp) (fun Wz83 pz84 => ?_)
      replace hB := pz84.below hB (by omega)
      replace h1 := pz84.other h1 (by omega)
      replace h2 := pz84.other h2 (by omega)
      replace h4 := pz84.other h4 (by omega)
      replace h3 : At Wz83 Wz8.heap.size (.cells #[.int .i64 qs.length, .int .i64 (wsI qs 0 qs.length), .int .i64 (wsI qs 9 qs.length), .int .i64 ((wCN qs qs.length : Nat) - (wtN (orL qs qs.length) : Nat))] 48 (0, 0)) := pz84.at_
      refine hK' _ _ ⟨hB, h4⟩ (fun h => absurd (by decide) h) ?_
      clear hK' K' pz84
      refine y_done (by kernel_rfl) ?_ _
      go_upto_region 16 with (fail)
      refine wp_region_lit ?_
      refine ls_ex (some 63) (.agg #[.int .i64 qs.length, .int .i64 (wsI qs 0 qs.length), .int .i64 (wsI qs 9 qs.length), .int .i64 ((wCN qs qs.length : Nat) - (wtN (orL qs qs.length) : Nat))]) rfl rfl (exec_load_all 48 _ rfl Wz8.heap.size rfl _ _ _ h3 Try.underlying48 rfl 4 (by kernel_rfl) rfl) ?_
      go_frame
      refine ls_op rfl (fun K' hK' => ?_)
      refine wp_store_all 48 _ _ rfl rfl Wz2.heap.size rfl #[.int .i64 qs.length, .int .i64 (wsI qs 0 qs.length), .int .i64 (wsI qs 9 qs.length), .int .i64 ((wCN qs qs.length : Nat) - (wtN (orL qs qs.length) : Nat))] rfl _ _ h2 4 (by kernel_rfl) rfl rfl (by intro x hx; simp at hx; rcases hx with rfl | rfl | rfl | rfl <;> rfl) (fun Wz85 pz86 => ?_)
      replace hB := pz86.below hB (by omega)
      replace h1 := pz86.other h1 (by omega)
      replace h3 := pz86.other h3 (by omega)
      replace h4 := pz86.other h4 (by omega)
      replace h2 : At Wz85 Wz2.heap.size (.cells #[.int .i64 qs.length, .int .i64 (wsI qs 0 qs.length), .int .i64 (wsI qs 9 qs.length), .int .i64 ((wCN qs qs.length : Nat) - (wtN (orL qs qs.length) : Nat))] 48 (0, 0)) := pz86.at_
      refine hK' _ _ ?_
      clear hK' K' pz86
      refine wpList_nil ?_
      go_wp2_with fail
      rw [HF.out] at h2
      refine bodyPost_ret (results_at rfl _ _ Wz2.heap.size _ _ _ rfl h2 Try.underlying48 rfl 4 (by kernel_rfl) rfl) rfl ?_
      exact ⟨rfl, hB⟩
end Go.Proofs.Ytphccbilldfdpaa
