/-
  Weights and sums of costs; spec.l06Weight, spec.l06Cost. (Made by mkcs4.py.)
-/
import Derived.Test.YtphccbilldfdpaaCs2
import Derived.Test.YtphccbilldfdpaaCd
namespace Go.Proofs.Ytphccbilldfdpaa
open Go.RowKit
set_option maxRecDepth 100000
attribute [local irreducible] wpList
def smN (g : Nat → Nat) : Nat → Nat
  | 0 => 0
  | c + 1 => smN g c + g c
def nzN (f : List Nat) (c : Nat) : Nat := if f[c]?.getD 0 = 0 then 0 else 1
def wtN (f : List Nat) : Nat := smN (nzN f) 9
theorem nzN_le (f : List Nat) (c : Nat) : nzN f c ≤ 1 := by unfold nzN; split <;> omega
theorem smN_le {g : Nat → Nat} {b : Nat} (h : ∀ c, g c ≤ b) (n : Nat) : smN g n ≤ n * b := by
  induction n with
  | zero => simp [smN]
  | succ n ih => have := h n; simp only [smN]; rw [Nat.succ_mul]; omega
theorem wtN_le (f : List Nat) : wtN f ≤ 9 := by have := smN_le (nzN_le f) 9; unfold wtN; omega
theorem cdN_wt (f : List Nat) : cdN f (List.replicate 9 0) 9 = wtN f := by
  have h : ∀ c, c ≤ 9 → cdN f (List.replicate 9 0) c = smN (nzN f) c := by
    intro c
    induction c with
    | zero => intro _; rfl
    | succ c ih =>
      intro hc
      have h0 : (List.replicate 9 0 : List Nat)[c]?.getD 0 = 0 := by rw [List.getElem?_replicate]; split <;> rfl
      simp only [cdN, smN, ih (by omega), nzN, h0]
  exact h 9 (by omega)
/-- The sum of the weights, less 1, of a factor of the first products. -/
def wsI (qs : List (List Nat)) (o : Nat) : Nat → Int
  | 0 => 0
  | i + 1 => wsI qs o i + (wtN (segm (qs[i]?.getD []) o 9) : Nat) - 1
theorem wsI_b (qs : List (List Nat)) (o i : Nat) : -(i : Int) ≤ wsI qs o i ∧ wsI qs o i ≤ 8 * (i : Int) := by
  induction i with
  | zero => simp [wsI]
  | succ i ih => have := wtN_le (segm (qs[i]?.getD []) o 9); simp only [wsI]; omega
theorem wsI_step {qs : List (List Nat)} (o : Nat) {i : Nat} (h : i < qs.length) : wsI qs o (i + 1) = wsI qs o i + (wtN (segm qs[i] o 9) : Nat) - 1 := by
  simp [wsI, h]
/-- How many of the first products have a number at a place of Z. -/
def ownN (qs : List (List Nat)) (d : Nat) : Nat → Nat
  | 0 => 0
  | i + 1 => ownN qs d i + nzN (qs[i]?.getD []) (18 + d)
theorem ownN_le (qs : List (List Nat)) (d i : Nat) : ownN qs d i ≤ i := by
  induction i with
  | zero => simp [ownN]
  | succ i ih => have := nzN_le (qs[i]?.getD []) (18 + d); simp only [ownN]; omega
theorem ownN_step {qs : List (List Nat)} (d : Nat) {i : Nat} (h : i < qs.length) : ownN qs d (i + 1) = ownN qs d i + (if qs[i][18 + d]?.getD 0 = 0 then 0 else 1) := by
  simp [ownN, nzN, h]
def mx0 (o : Nat) : Int := if (o : Int) - 1 < 0 then 0 else (o : Int) - 1
theorem mx0_b (o : Nat) : 0 ≤ mx0 o ∧ mx0 o ≤ o := by unfold mx0; split <;> omega
def lastI (qs : List (List Nat)) (n : Nat) : Nat → Int
  | 0 => 0
  | d + 1 => lastI qs n d + mx0 (ownN qs d n)
theorem lastI_step (qs : List (List Nat)) (n d : Nat) : lastI qs n (d + 1) = lastI qs n d + mx0 (ownN qs d n) := rfl
theorem lastI_b (qs : List (List Nat)) (n : Nat) (h : n ≤ 30) (d : Nat) : 0 ≤ lastI qs n d ∧ lastI qs n d ≤ 30 * (d : Int) := by
  induction d with
  | zero => simp [lastI]
  | succ d ih => have h1 := mx0_b (ownN qs d n); have h2 := ownN_le qs d n; simp only [lastI]; omega
theorem seg_cells {w : World} {b off : Nat} {q : List Nat} (h : ∀ j, j < 27 → w.cell? ⟨b, off + j, none⟩ = some (.int .u8 ((q[j]?.getD 0 : Nat) : Int))) (o : Nat) (ho : o + 9 ≤ 27) : ∀ j, j < 9 → w.cell? ⟨b, off + o + j, none⟩ = some (.int .u8 (((segm q o 9)[j]?.getD 0 : Nat) : Int)) := fun j hj => by
  have := h (o + j) (by omega)
  rw [segm_nth q o 9 j hj, ← this, Nat.add_assoc]
theorem exec_neq_u8 {P : Program} {o : Oper} {a : Act} {w : World} (t t' : TypeId) (x y : Operand) (ho : o.op = .binOp .neq t x y t') (m n : Int) (hx : a.eval x = .int .u8 m) (hy : a.eval y = .int .u8 n) (b : Bool) (hb : (m != n) = b) : (execOp a.eval o).run P w = .ok (.value (.bool b)) w := by
  unfold execOp
  simp only [ho, hx, hy]
  subst hb
  simp [go_sem, bne]
theorem exec_max2 {P : Program} {o : Oper} {a : Act} {w : World} (x y : Operand) (t : TypeId) (ho : o.op = .call { callee := .builtin .max, args := #[x, y], argTypes := #[t, t] }) (m0 m1 : Int) (hx : a.eval x = .int .i64 m0) (hy : a.eval y = .int .i64 m1) (r : Int)
    (hr : (if m0 < m1 then m1 else m0) = r) : (execOp a.eval o).run P w = .ok (.value (.int .i64 r)) w := by
  subst hr
  unfold execOp
  simp only [ho, hx, hy, resolve, invoke, builtin, Sem.run_bind, Sem.run_pure, Result.andThen_ok, List.map_toArray, List.map_cons, List.map_nil]
  simp [go_sem]
  rw [Int.max_def]
  split <;> split <;> omega
theorem exec_bsi4 {o : Oper} {a : Act} {w : World} (x y z u : Operand) (ho : o.op = .buildSlice 83 4 #[(0, x), (1, y), (2, z), (3, u)]) (i j k l : Int) (hx : a.eval x = .int .i64 i) (hy : a.eval y = .int .i64 j) (hz' : a.eval z = .int .i64 k) (hu' : a.eval u = .int .i64 l) :
    (execOp a.eval o).run Try.prog w = .ok (.value (.slice (some ⟨w.heap.size, 0, none⟩) 4 4)) (w.alloc (.cells #[.int .i64 i, .int .i64 j, .int .i64 k, .int .i64 l] 2 (0, 0))) := by
  obtain ⟨inf, hi0, hz, h1, h2⟩ := info_parts sx_infoI
  have h := run_buildSlice (P := Try.prog) w 83 2 4 #[(0, .int .i64 i), (1, .int .i64 j), (2, .int .i64 k), (3, .int .i64 l)] #[.int .i64 i, .int .i64 j, .int .i64 k, .int .i64 l] inf (.int .i64 0) Try.underlying83 hi0 hz (by rw [h1]; omega) (by rw [h1]; omega) (by rw [h1]; kernel_rfl)
  unfold execOp
  simp [ho, hx, hy, hz', hu', h]
set_option maxHeartbeats 800000 in
theorem l06Weight_c (f : List Nat) (hf : Bytes 9 f) (w : World) :
    Calls Try.prog 64 #[.agg (u8s f)] w fun e w' => e = .returned (.int .i64 (wtN f : Nat)) ∧ Below w.heap.size w w' := by
  go_enter Try.func64, Try.ntmps64
  go_wp2_with fail
  go_loopw [3, 4] (fun cnt i wr => ∃ c : Nat, c ≤ 9 ∧ i = .int .i64 c ∧ cnt = .int .i64 (smN (nzN f) c : Nat) ∧ Below w.heap.size w wr ∧ At wr w.heap.size (.cells (u8s f) 66 (0, 0))) (fun _ i _ => 9 - (intOf i).toNat)
  case atStart => exact ⟨0, by omega, rfl, rfl, below1 _ _, al1_0 _ _⟩
  case round =>
    obtain ⟨c, hc, rfl, rfl, hB, h0⟩ := hrel
    have hd := smN_le (nzN_le f) c
    by_cases hlt : c < 9
    · have x0 := h0.cell (i := c) (by rw [hf.len]; exact hlt)
      have Hs : Hid (smN (nzN f) (c + 1) = smN (nzN f) c + (if f[c]?.getD 0 = 0 then 0 else 1)) := Lib.hid rfl
      have e0 : IntKind.i64.wrap ((c : Int) + 1) = (c : Int) + 1 := IntWalk.i64_in _ (by omega)
      have e1 : IntKind.i64.wrap ((smN (nzN f) c : Int) + 1) = (smN (nzN f) c : Int) + 1 := IntWalk.i64_in _ (by omega)
      generalize smN (nzN f) c = D at *
      generalize f[c]?.getD 0 = x at *
      by_cases hxy : x = 0
      · have hb : ((x : Int) == 0) = true := by simp [hxy]
        have hb2 : ((x : Int) != 0) = false := by simp [hxy]
        have Hv : Hid (smN (nzN f) (c + 1) = D) := Lib.hid (by rw [Hs.out, if_pos hxy]; rfl)
        clear hxy
        go_wp2_with fail
        go_roundw
        case rel => exact ⟨c + 1, by omega, by go_num, by rw [Hv.out], hB, h0⟩
        case measure => simp [intOf]; omega
      · have hb : ((x : Int) == 0) = false := by simp; omega
        have hb2 : ((x : Int) != 0) = true := by simp; omega
        have Hv : Hid (smN (nzN f) (c + 1) = D + 1) := Lib.hid (by rw [Hs.out, if_neg hxy])
        clear hxy
        go_wp2_with fail
        go_roundw
        case rel => exact ⟨c + 1, by omega, by go_num, by rw [Hv.out]; rfl, hB, h0⟩
        case measure => simp [intOf]; omega
    · obtain rfl : c = 9 := by omega
      go_wp2_with fail
      go_ret
      exact ⟨rfl, hB⟩
set_option maxHeartbeats 6400000 in
theorem l06Cost_c (p n m k : Int) (b0 off0 c : Nat) (qs : List (List Nat)) (w : World) (hR : Rd w (some ⟨b0, off0, none⟩) qs) (h30 : qs.length ≤ 30) :
    Calls Try.prog 51 #[.agg #[.int .i64 p, .int .i64 n, .int .i64 m, .int .i64 k, .slice (some ⟨b0, off0, none⟩) qs.length c]] w (fun e w' => ∃ g, e = .returned (.slice (some ⟨g, 0, none⟩) 4 4) ∧ w.heap.size ≤ g ∧ At w' g (.cells #[.int .i64 qs.length, .int .i64 (wsI qs 0 qs.length), .int .i64 (wsI qs 9 qs.length), .int .i64 (lastI qs qs.length 9)] 2 (0, 0)) ∧ Below w.heap.size w w') := by
  have hB := Below.refl w.heap.size w
  skip
  go_enter Try.func51, Try.ntmps51
  go_upto_region 0 with (fail)
  refine wp_region_lit ?_
  refine ls_op rfl (fun K' hK' => ?_)
  have lz1 := hB.size
  refine wp_new (some 1) rfl (exec_box 30 _ rfl (#[.int .i64 p, .int .i64 n, .int .i64 m, .int .i64 k, .slice (some ⟨b0, off0, none⟩) qs.length c]) rfl) (fun Wz2 nnz3 => ?_)
  have bz4 := nnz3.below (Below.refl _ _) (Nat.le_refl _)
  replace hB := below_after hB bz4
  have hz5 : At Wz2 w.heap.size (.cells #[.int .i64 p, .int .i64 n, .int .i64 m, .int .i64 k, .slice (some ⟨b0, off0, none⟩) qs.length c] 30 (0, 0)) := nnz3.at_
  refine hK' _ _ ?_
  clear hK' K' nnz3 bz4
  go_frame
  refine ls_ex (some 2) (.slice none 0 0) rfl rfl (exec_assign _ rfl (.slice none 0 0) rfl) ?_
  go_frame
  refine wpList_nil ?_
  go_upto_region 1 with (fail)
  refine wp_region_lit ?_
  refine ls_ex (some 3) (.int .i64 0) rfl rfl (exec_assign _ rfl (.int .i64 0) rfl) ?_
  go_frame
  refine ls_ex (some 4) (.int .i64 0) rfl rfl (exec_assign _ rfl (.int .i64 0) rfl) ?_
  go_frame
  refine ls_ex (some 5) (.int .i64 0) rfl rfl (exec_assign _ rfl (.int .i64 0) rfl) ?_
  go_frame
  refine wpList_nil ?_
  go_upto_region 2 with (fail)
  refine wp_region_lit ?_
  refine ls_ex (some 6) (.int .i64 0) rfl rfl (exec_assign _ rfl (.int .i64 0) rfl) ?_
  go_frame
  refine wpList_nil ?_
  go_wp2_with fail
  go_loopw [6, 3, 4] (fun s6 s3 s4 wr => ∃ a : Nat, a ≤ qs.length ∧ s6 = .int .i64 a ∧ s3 = .int .i64 (wsI qs 0 a) ∧ s4 = .int .i64 (wsI qs 9 a) ∧ Below w.heap.size w wr ∧ At wr w.heap.size (.cells #[.int .i64 p, .int .i64 n, .int .i64 m, .int .i64 k, .slice (some ⟨b0, off0, none⟩) qs.length c] 30 (0, 0))) (fun s6 _ _ _ => qs.length - (intOf s6).toNat)
  case atStart => exact ⟨0, by omega, rfl, rfl, rfl, hB, hz5⟩
  case round =>
    clear hB hz5
    obtain ⟨a, ha, rfl, rfl, rfl, hB, h0⟩ := hrel
    by_cases hlt : a < qs.length
    · have hb := hR.good _ (List.getElem_mem hlt)
      have hl := wsI_b qs 0 a
      have hr := wsI_b qs 9 a
      have hwl := wtN_le (segm qs[a] 0 9)
      have hwr := wtN_le (segm qs[a] 9 9)
      have Hl := Lib.hid (wsI_step 0 hlt)
      have Hr9 := Lib.hid (wsI_step 9 hlt)
      go_upto_region 3 with (fail)
      refine wp_region_lit ?_
      refine ls_ex (some 10) (.int .i64 a) rfl rfl (exec_move _ rfl (.int .i64 a) rfl) ?_
      go_frame
      refine ls_ex (some 11) (.pointer (some ⟨w.heap.size, 4, none⟩)) rfl rfl (exec_fieldAddr 30 _ 4 rfl _ (by kernel_rfl)) ?_
      go_frame
      refine ls_ex (some 12) (.slice (some ⟨b0, off0, none⟩) qs.length c) rfl rfl (exec_load_one 28 _ rfl w.heap.size 4 rfl (.slice (some ⟨b0, off0, none⟩) qs.length c) _ Try.underlying28 rfl (h0.at_ 4)) ?_
      go_frame
      refine ls_ex (some 13) (.int .i64 qs.length) rfl rfl (exec_len _ 28 68 rfl ((some ⟨b0, off0, none⟩)) qs.length c rfl Try.underlying28) ?_
      go_frame
      refine ls_ex (some 14) (.bool true) rfl rfl (exec_lss _ _ _ _ rfl a qs.length rfl rfl true (decide_eq_true (by omega))) ?_
      go_frame
      refine wpList_nil ?_
      go_upto_region 5 with (fail)
      refine wp_region_lit ?_
      refine ls_ex (some 17) (.int .i64 (wsI qs 0 a)) rfl rfl (exec_move _ rfl (.int .i64 (wsI qs 0 a)) rfl) ?_
      go_frame
      refine ls_ex (some 18) (.pointer (some ⟨w.heap.size, 4, none⟩)) rfl rfl (exec_fieldAddr 30 _ 4 rfl _ (by kernel_rfl)) ?_
      go_frame
      refine ls_ex (some 19) (.slice (some ⟨b0, off0, none⟩) qs.length c) rfl rfl (exec_load_one 28 _ rfl w.heap.size 4 rfl (.slice (some ⟨b0, off0, none⟩) qs.length c) _ Try.underlying28 rfl (h0.at_ 4)) ?_
      go_frame
      refine ls_ex (some 20) (.int .i64 a) rfl rfl (exec_move _ rfl (.int .i64 a) rfl) ?_
      go_frame
      refine ls_ex (some 21) (.pointer (some ⟨b0, off0 + a * 27, none⟩)) rfl rfl (exec_index_slice _ 68 _ _ rfl b0 off0 qs.length c a 27 rfl rfl Try.underlying28 (by kernel_rfl) (by omega)) ?_
      go_frame
      refine ls_ex (some 22) (.pointer (some ⟨b0, off0 + a * 27, none⟩)) rfl rfl (exec_fieldAddr 68 _ 0 rfl _ (by kernel_rfl)) ?_
      go_frame
      refine ls_ex (some 23) (.agg (u8s (segm qs[a] 0 9))) rfl rfl (exec_load_cells 66 _ rfl b0 (off0 + a * 27) rfl (segm qs[a] 0 9) _ 9 (seg_cells (Rd.c27 (hR.keep hB) hlt) 0 (by omega)) Try.underlying66 rfl (by kernel_rfl) (segm_bytes hb (by omega)).len) ?_
      go_frame
      refine ls_op rfl (fun K' hK' => ?_)
      have lz8 := hB.size
      have lz9 := h0.lt
      refine wp_call1 (some 24) rfl 64 _ _ rfl (fun args w => by kernel_rfl) _ rfl _ (l06Weight_c (segm qs[a] 0 9) (segm_bytes hb (by omega)) _) (fun e Wz6 h => ?_)
      obtain ⟨rfl, bz7⟩ := h
      replace hB := below_after hB bz7
      replace h0 := h0.after bz7
      clear bz7
      refine ⟨_, rfl, ?_⟩
      refine hK' _ _ ?_
      clear hK' K'
      go_frame
      refine ls_ex (some 25) (.int .i64 ((wsI qs 0 a) + (wtN (segm qs[a] 0 9) : Nat))) rfl rfl (exec_add _ _ _ _ rfl ((wsI qs 0 a)) ((wtN (segm qs[a] 0 9) : Nat)) ((wsI qs 0 a) + (wtN (segm qs[a] 0 9) : Nat)) rfl rfl (IntWalk.i64_in _ (by omega))) ?_
      go_frame
      refine ls_ex (some 26) (.int .i64 (((wsI qs 0 a) + (wtN (segm qs[a] 0 9) : Nat)) - 1)) rfl rfl (exec_sub _ _ _ _ rfl (((wsI qs 0 a) + (wtN (segm qs[a] 0 9) : Nat))) 1 (((wsI qs 0 a) + (wtN (segm qs[a] 0 9) : Nat)) - 1) rfl rfl (IntWalk.i64_in _ (by omega))) ?_
      go_frame
      refine ls_ex (some 3) (.int .i64 (((wsI qs 0 a) + (wtN (segm qs[a] 0 9) : Nat)) - 1)) rfl rfl (exec_assign _ rfl (.int .i64 (((wsI qs 0 a) + (wtN (segm qs[a] 0 9) : Nat)) - 1)) rfl) ?_
      go_frame
      refine wpList_nil ?_
      go_upto_region 6 with (fail)
      refine wp_region_lit ?_
      refine ls_ex (some 27) (.int .i64 (wsI qs 9 a)) rfl rfl (exec_move _ rfl (.int .i64 (wsI qs 9 a)) rfl) ?_
      go_frame
      refine ls_ex (some 28) (.pointer (some ⟨w.heap.size, 4, none⟩)) rfl rfl (exec_fieldAddr 30 _ 4 rfl _ (by kernel_rfl)) ?_
      go_frame
      refine ls_ex (some 29) (.slice (some ⟨b0, off0, none⟩) qs.length c) rfl rfl (exec_load_one 28 _ rfl w.heap.size 4 rfl (.slice (some ⟨b0, off0, none⟩) qs.length c) _ Try.underlying28 rfl (h0.at_ 4)) ?_
      go_frame
      refine ls_ex (some 30) (.int .i64 a) rfl rfl (exec_move _ rfl (.int .i64 a) rfl) ?_
      go_frame
      refine ls_ex (some 31) (.pointer (some ⟨b0, off0 + a * 27, none⟩)) rfl rfl (exec_index_slice _ 68 _ _ rfl b0 off0 qs.length c a 27 rfl rfl Try.underlying28 (by kernel_rfl) (by omega)) ?_
      go_frame
      refine ls_ex (some 32) (.pointer (some ⟨b0, off0 + a * 27 + 9, none⟩)) rfl rfl (exec_fieldAddr 68 _ 1 rfl _ (by kernel_rfl)) ?_
      go_frame
      refine ls_ex (some 33) (.agg (u8s (segm qs[a] 9 9))) rfl rfl (exec_load_cells 66 _ rfl b0 (off0 + a * 27 + 9) rfl (segm qs[a] 9 9) _ 9 (seg_cells (Rd.c27 (hR.keep hB) hlt) 9 (by omega)) Try.underlying66 rfl (by kernel_rfl) (segm_bytes hb (by omega)).len) ?_
      go_frame
      refine ls_op rfl (fun K' hK' => ?_)
      have lz12 := hB.size
      have lz13 := h0.lt
      refine wp_call1 (some 34) rfl 64 _ _ rfl (fun args w => by kernel_rfl) _ rfl _ (l06Weight_c (segm qs[a] 9 9) (segm_bytes hb (by omega)) _) (fun e Wz10 h => ?_)
      obtain ⟨rfl, bz11⟩ := h
      replace hB := below_after hB bz11
      replace h0 := h0.after bz11
      clear bz11
      refine ⟨_, rfl, ?_⟩
      refine hK' _ _ ?_
      clear hK' K'
      go_frame
      refine ls_ex (some 35) (.int .i64 ((wsI qs 9 a) + (wtN (segm qs[a] 9 9) : Nat))) rfl rfl (exec_add _ _ _ _ rfl ((wsI qs 9 a)) ((wtN (segm qs[a] 9 9) : Nat)) ((wsI qs 9 a) + (wtN (segm qs[a] 9 9) : Nat)) rfl rfl (IntWalk.i64_in _ (by omega))) ?_
      go_frame
      refine ls_ex (some 36) (.int .i64 (((wsI qs 9 a) + (wtN (segm qs[a] 9 9) : Nat)) - 1)) rfl rfl (exec_sub _ _ _ _ rfl (((wsI qs 9 a) + (wtN (segm qs[a] 9 9) : Nat))) 1 (((wsI qs 9 a) + (wtN (segm qs[a] 9 9) : Nat)) - 1) rfl rfl (IntWalk.i64_in _ (by omega))) ?_
      go_frame
      refine ls_ex (some 4) (.int .i64 (((wsI qs 9 a) + (wtN (segm qs[a] 9 9) : Nat)) - 1)) rfl rfl (exec_assign _ rfl (.int .i64 (((wsI qs 9 a) + (wtN (segm qs[a] 9 9) : Nat)) - 1)) rfl) ?_
      go_frame
      refine wpList_nil ?_
      go_upto_region 4 with (fail)
      refine wp_region_lit ?_
      refine ls_ex (some 15) (.int .i64 a) rfl rfl (exec_move _ rfl (.int .i64 a) rfl) ?_
      go_frame
      refine ls_ex (some 16) (.int .i64 (a + 1)) rfl rfl (exec_add _ _ _ _ rfl a 1 (a + 1) rfl rfl (IntWalk.i64_in _ (by omega))) ?_
      go_frame
      refine ls_ex (some 6) (.int .i64 (a + 1)) rfl rfl (exec_assign _ rfl (.int .i64 (a + 1)) rfl) ?_
      go_frame
      refine wpList_nil ?_
      go_wp2_with fail
      go_roundw
      case rel => exact ⟨a + 1, by omega, by go_num, by rw [Hl.out], by rw [Hr9.out], hB, h0⟩
      case measure => simp [intOf]; omega
    · have HEa : Hid (a = qs.length) := Lib.hid (by omega)
      rw [HEa.out]
      clear ha hlt HEa
      go_upto_region 3 with (fail)
      refine wp_region_lit ?_
      refine ls_ex (some 10) (.int .i64 qs.length) rfl rfl (exec_move _ rfl (.int .i64 qs.length) rfl) ?_
      go_frame
      refine ls_ex (some 11) (.pointer (some ⟨w.heap.size, 4, none⟩)) rfl rfl (exec_fieldAddr 30 _ 4 rfl _ (by kernel_rfl)) ?_
      go_frame
      refine ls_ex (some 12) (.slice (some ⟨b0, off0, none⟩) qs.length c) rfl rfl (exec_load_one 28 _ rfl w.heap.size 4 rfl (.slice (some ⟨b0, off0, none⟩) qs.length c) _ Try.underlying28 rfl (h0.at_ 4)) ?_
      go_frame
      refine ls_ex (some 13) (.int .i64 qs.length) rfl rfl (exec_len _ 28 68 rfl ((some ⟨b0, off0, none⟩)) qs.length c rfl Try.underlying28) ?_
      go_frame
      refine ls_ex (some 14) (.bool false) rfl rfl (exec_lss _ _ _ _ rfl qs.length qs.length rfl rfl false (decide_eq_false (by omega))) ?_
      go_frame
      refine wpList_nil ?_
      go_upto_region 7 with (fail)
      refine wp_region_lit ?_
      refine ls_ex (some 7) (.int .i64 0) rfl rfl (exec_assign _ rfl (.int .i64 0) rfl) ?_
      go_frame
      refine wpList_nil ?_
      go_wp2_with fail
      obtain ⟨wc, rfl⟩ : ∃ x : World, x = wr := ⟨_, rfl⟩
      go_loopw [7, 5] (fun s7 s5 wr => ∃ d : Nat, d ≤ 9 ∧ s7 = .int .i64 d ∧ s5 = .int .i64 (lastI qs qs.length d) ∧ Below w.heap.size w wr ∧ At wr w.heap.size (.cells #[.int .i64 p, .int .i64 n, .int .i64 m, .int .i64 k, .slice (some ⟨b0, off0, none⟩) qs.length c] 30 (0, 0))) (fun s7 _ _ => 9 - (intOf s7).toNat)
      case atStart => exact ⟨0, by omega, rfl, rfl, hB, h0⟩
      case round =>
        clear hB h0
        obtain ⟨d, hd9, rfl, rfl, hB, h0⟩ := hrel
        by_cases hd : d < 9
        · go_upto_region 8 with (fail)
          refine wp_region_lit ?_
          refine ls_ex (some 37) (.int .i64 d) rfl rfl (exec_move _ rfl (.int .i64 d) rfl) ?_
          go_frame
          refine ls_ex (some 38) (.bool true) rfl rfl (exec_lss _ _ _ _ rfl d 9 rfl rfl true (decide_eq_true (by omega))) ?_
          go_frame
          refine wpList_nil ?_
          go_upto_region 10 with (fail)
          refine wp_region_lit ?_
          refine ls_ex (some 8) (.int .i64 0) rfl rfl (exec_assign _ rfl (.int .i64 0) rfl) ?_
          go_frame
          refine wpList_nil ?_
          go_upto_region 11 with (fail)
          refine wp_region_lit ?_
          refine ls_ex (some 9) (.int .i64 0) rfl rfl (exec_assign _ rfl (.int .i64 0) rfl) ?_
          go_frame
          refine wpList_nil ?_
          go_wp2_with fail
          obtain ⟨wd, rfl⟩ : ∃ x : World, x = wr := ⟨_, rfl⟩
          go_loopw [9, 8] (fun s9 s8 wr => ∃ a : Nat, a ≤ qs.length ∧ s9 = .int .i64 a ∧ s8 = .int .i64 (ownN qs d a : Nat) ∧ Below w.heap.size w wr ∧ At wr w.heap.size (.cells #[.int .i64 p, .int .i64 n, .int .i64 m, .int .i64 k, .slice (some ⟨b0, off0, none⟩) qs.length c] 30 (0, 0))) (fun s9 _ _ => qs.length - (intOf s9).toNat)
          case atStart => exact ⟨0, by omega, rfl, rfl, hB, h0⟩
          case round =>
            clear hB h0
            obtain ⟨a, ha, rfl, rfl, hB, h0⟩ := hrel
            by_cases hlt : a < qs.length
            · have hcx : wr.cell? ⟨b0, off0 + a * 27 + 18 + d * 1, none⟩ = some (.int .u8 ((qs[a][18 + d]?.getD 0 : Nat) : Int)) := by have h := Rd.c27 (hR.keep hB) hlt (18 + d) (by omega); rwa [show off0 + a * 27 + (18 + d) = off0 + a * 27 + 18 + d * 1 by omega] at h
              have Ho := Lib.hid (ownN_step d hlt)
              have ho := ownN_le qs d a
              generalize qs[a][18 + d]?.getD 0 = x at *
              by_cases hz : x = 0
              · have hd2 : ((x : Int) != 0) = false := by simp; omega
                have HO : Hid (ownN qs d (a + 1) = ownN qs d a) := Lib.hid (by rw [Ho.out, if_pos hz, Nat.add_zero])
                clear hz
                go_upto_region 12 with (fail)
                refine wp_region_lit ?_
                refine ls_ex (some 41) (.int .i64 a) rfl rfl (exec_move _ rfl (.int .i64 a) rfl) ?_
                go_frame
                refine ls_ex (some 42) (.pointer (some ⟨w.heap.size, 4, none⟩)) rfl rfl (exec_fieldAddr 30 _ 4 rfl _ (by kernel_rfl)) ?_
                go_frame
                refine ls_ex (some 43) (.slice (some ⟨b0, off0, none⟩) qs.length c) rfl rfl (exec_load_one 28 _ rfl w.heap.size 4 rfl (.slice (some ⟨b0, off0, none⟩) qs.length c) _ Try.underlying28 rfl (h0.at_ 4)) ?_
                go_frame
                refine ls_ex (some 44) (.int .i64 qs.length) rfl rfl (exec_len _ 28 68 rfl ((some ⟨b0, off0, none⟩)) qs.length c rfl Try.underlying28) ?_
                go_frame
                refine ls_ex (some 45) (.bool true) rfl rfl (exec_lss _ _ _ _ rfl a qs.length rfl rfl true (decide_eq_true (by omega))) ?_
                go_frame
                refine wpList_nil ?_
                go_upto_region 14 with (fail)
                refine wp_region_lit ?_
                refine ls_ex (some 48) (.pointer (some ⟨w.heap.size, 4, none⟩)) rfl rfl (exec_fieldAddr 30 _ 4 rfl _ (by kernel_rfl)) ?_
                go_frame
                refine ls_ex (some 49) (.slice (some ⟨b0, off0, none⟩) qs.length c) rfl rfl (exec_load_one 28 _ rfl w.heap.size 4 rfl (.slice (some ⟨b0, off0, none⟩) qs.length c) _ Try.underlying28 rfl (h0.at_ 4)) ?_
                go_frame
                refine ls_ex (some 50) (.int .i64 a) rfl rfl (exec_move _ rfl (.int .i64 a) rfl) ?_
                go_frame
                refine ls_ex (some 51) (.int .i64 d) rfl rfl (exec_move _ rfl (.int .i64 d) rfl) ?_
                go_frame
                refine ls_ex (some 52) (.pointer (some ⟨b0, off0 + a * 27, none⟩)) rfl rfl (exec_index_slice _ 68 _ _ rfl b0 off0 qs.length c a 27 rfl rfl Try.underlying28 (by kernel_rfl) (by omega)) ?_
                go_frame
                refine ls_ex (some 53) (.pointer (some ⟨b0, off0 + a * 27 + 18, none⟩)) rfl rfl (exec_fieldAddr 68 _ 2 rfl _ (by kernel_rfl)) ?_
                go_frame
                refine ls_ex (some 54) (.pointer (some ⟨b0, off0 + a * 27 + 18 + d * 1, none⟩)) rfl rfl (exec_index_arr _ 5 _ _ rfl b0 (off0 + a * 27 + 18) 9 d 1 rfl rfl Try.underlying66 (by kernel_rfl) (by omega)) ?_
                go_frame
                refine ls_ex (some 55) (.int .u8 (x : Nat)) rfl rfl (exec_load_one 5 _ rfl b0 (off0 + a * 27 + 18 + d * 1) rfl (.int .u8 (x : Nat)) _ Try.underlying5 rfl hcx) ?_
                go_frame
                refine ls_ex (some 56) (.bool false) rfl rfl (exec_neq_u8 _ _ _ _ rfl (x : Nat) 0 rfl rfl false hd2) ?_
                go_frame
                refine wpList_nil ?_
                go_upto_region 13 with (fail)
                refine wp_region_lit ?_
                refine ls_ex (some 46) (.int .i64 a) rfl rfl (exec_move _ rfl (.int .i64 a) rfl) ?_
                go_frame
                refine ls_ex (some 47) (.int .i64 (a + 1)) rfl rfl (exec_add _ _ _ _ rfl a 1 (a + 1) rfl rfl (IntWalk.i64_in _ (by omega))) ?_
                go_frame
                refine ls_ex (some 9) (.int .i64 (a + 1)) rfl rfl (exec_assign _ rfl (.int .i64 (a + 1)) rfl) ?_
                go_frame
                refine wpList_nil ?_
                go_wp2_with fail
                go_roundw
                case rel => exact ⟨a + 1, by omega, by go_num, by rw [HO.out], hB, h0⟩
                case measure => simp [intOf]; omega
              · have hd2 : ((x : Int) != 0) = true := by simp; omega
                have HO : Hid (ownN qs d (a + 1) = ownN qs d a + 1) := Lib.hid (by rw [Ho.out, if_neg hz])
                clear hz
                go_upto_region 12 with (fail)
                refine wp_region_lit ?_
                refine ls_ex (some 41) (.int .i64 a) rfl rfl (exec_move _ rfl (.int .i64 a) rfl) ?_
                go_frame
                refine ls_ex (some 42) (.pointer (some ⟨w.heap.size, 4, none⟩)) rfl rfl (exec_fieldAddr 30 _ 4 rfl _ (by kernel_rfl)) ?_
                go_frame
                refine ls_ex (some 43) (.slice (some ⟨b0, off0, none⟩) qs.length c) rfl rfl (exec_load_one 28 _ rfl w.heap.size 4 rfl (.slice (some ⟨b0, off0, none⟩) qs.length c) _ Try.underlying28 rfl (h0.at_ 4)) ?_
                go_frame
                refine ls_ex (some 44) (.int .i64 qs.length) rfl rfl (exec_len _ 28 68 rfl ((some ⟨b0, off0, none⟩)) qs.length c rfl Try.underlying28) ?_
                go_frame
                refine ls_ex (some 45) (.bool true) rfl rfl (exec_lss _ _ _ _ rfl a qs.length rfl rfl true (decide_eq_true (by omega))) ?_
                go_frame
                refine wpList_nil ?_
                go_upto_region 14 with (fail)
                refine wp_region_lit ?_
                refine ls_ex (some 48) (.pointer (some ⟨w.heap.size, 4, none⟩)) rfl rfl (exec_fieldAddr 30 _ 4 rfl _ (by kernel_rfl)) ?_
                go_frame
                refine ls_ex (some 49) (.slice (some ⟨b0, off0, none⟩) qs.length c) rfl rfl (exec_load_one 28 _ rfl w.heap.size 4 rfl (.slice (some ⟨b0, off0, none⟩) qs.length c) _ Try.underlying28 rfl (h0.at_ 4)) ?_
                go_frame
                refine ls_ex (some 50) (.int .i64 a) rfl rfl (exec_move _ rfl (.int .i64 a) rfl) ?_
                go_frame
                refine ls_ex (some 51) (.int .i64 d) rfl rfl (exec_move _ rfl (.int .i64 d) rfl) ?_
                go_frame
                refine ls_ex (some 52) (.pointer (some ⟨b0, off0 + a * 27, none⟩)) rfl rfl (exec_index_slice _ 68 _ _ rfl b0 off0 qs.length c a 27 rfl rfl Try.underlying28 (by kernel_rfl) (by omega)) ?_
                go_frame
                refine ls_ex (some 53) (.pointer (some ⟨b0, off0 + a * 27 + 18, none⟩)) rfl rfl (exec_fieldAddr 68 _ 2 rfl _ (by kernel_rfl)) ?_
                go_frame
                refine ls_ex (some 54) (.pointer (some ⟨b0, off0 + a * 27 + 18 + d * 1, none⟩)) rfl rfl (exec_index_arr _ 5 _ _ rfl b0 (off0 + a * 27 + 18) 9 d 1 rfl rfl Try.underlying66 (by kernel_rfl) (by omega)) ?_
                go_frame
                refine ls_ex (some 55) (.int .u8 (x : Nat)) rfl rfl (exec_load_one 5 _ rfl b0 (off0 + a * 27 + 18 + d * 1) rfl (.int .u8 (x : Nat)) _ Try.underlying5 rfl hcx) ?_
                go_frame
                refine ls_ex (some 56) (.bool true) rfl rfl (exec_neq_u8 _ _ _ _ rfl (x : Nat) 0 rfl rfl true hd2) ?_
                go_frame
                refine wpList_nil ?_
                go_upto_region 15 with (fail)
                refine wp_region_lit ?_
                refine ls_ex (some 57) (.int .i64 (ownN qs d a : Nat)) rfl rfl (exec_move _ rfl (.int .i64 (ownN qs d a : Nat)) rfl) ?_
                go_frame
                refine ls_ex (some 58) (.int .i64 ((ownN qs d a : Nat) + 1)) rfl rfl (exec_add _ _ _ _ rfl ((ownN qs d a : Nat)) 1 ((ownN qs d a : Nat) + 1) rfl rfl (IntWalk.i64_in _ (by omega))) ?_
                go_frame
                refine ls_ex (some 8) (.int .i64 ((ownN qs d a : Nat) + 1)) rfl rfl (exec_assign _ rfl (.int .i64 ((ownN qs d a : Nat) + 1)) rfl) ?_
                go_frame
                refine wpList_nil ?_
                go_upto_region 13 with (fail)
                refine wp_region_lit ?_
                refine ls_ex (some 46) (.int .i64 a) rfl rfl (exec_move _ rfl (.int .i64 a) rfl) ?_
                go_frame
                refine ls_ex (some 47) (.int .i64 (a + 1)) rfl rfl (exec_add _ _ _ _ rfl a 1 (a + 1) rfl rfl (IntWalk.i64_in _ (by omega))) ?_
                go_frame
                refine ls_ex (some 9) (.int .i64 (a + 1)) rfl rfl (exec_assign _ rfl (.int .i64 (a + 1)) rfl) ?_
                go_frame
                refine wpList_nil ?_
                go_wp2_with fail
                go_roundw
                case rel => exact ⟨a + 1, by omega, by go_num, by rw [HO.out]; rfl, hB, h0⟩
                case measure => simp [intOf]; omega
            · have HEa : Hid (a = qs.length) := Lib.hid (by omega)
              rw [HEa.out]
              have HL := Lib.hid (lastI_step qs qs.length d)
              have hown := ownN_le qs d qs.length
              have hmx := mx0_b (ownN qs d qs.length)
              have hla := lastI_b qs qs.length h30 d
              clear ha hlt HEa
              go_upto_region 12 with (fail)
              refine wp_region_lit ?_
              refine ls_ex (some 41) (.int .i64 qs.length) rfl rfl (exec_move _ rfl (.int .i64 qs.length) rfl) ?_
              go_frame
              refine ls_ex (some 42) (.pointer (some ⟨w.heap.size, 4, none⟩)) rfl rfl (exec_fieldAddr 30 _ 4 rfl _ (by kernel_rfl)) ?_
              go_frame
              refine ls_ex (some 43) (.slice (some ⟨b0, off0, none⟩) qs.length c) rfl rfl (exec_load_one 28 _ rfl w.heap.size 4 rfl (.slice (some ⟨b0, off0, none⟩) qs.length c) _ Try.underlying28 rfl (h0.at_ 4)) ?_
              go_frame
              refine ls_ex (some 44) (.int .i64 qs.length) rfl rfl (exec_len _ 28 68 rfl ((some ⟨b0, off0, none⟩)) qs.length c rfl Try.underlying28) ?_
              go_frame
              refine ls_ex (some 45) (.bool false) rfl rfl (exec_lss _ _ _ _ rfl qs.length qs.length rfl rfl false (decide_eq_false (by omega))) ?_
              go_frame
              refine wpList_nil ?_
              go_upto_region 16 with (fail)
              refine wp_region_lit ?_
              refine ls_ex (some 59) (.int .i64 (lastI qs qs.length d)) rfl rfl (exec_move _ rfl (.int .i64 (lastI qs qs.length d)) rfl) ?_
              go_frame
              refine ls_ex (some 60) (.int .i64 (ownN qs d qs.length : Nat)) rfl rfl (exec_move _ rfl (.int .i64 (ownN qs d qs.length : Nat)) rfl) ?_
              go_frame
              refine ls_ex (some 61) (.int .i64 ((ownN qs d qs.length : Nat) - 1)) rfl rfl (exec_sub _ _ _ _ rfl ((ownN qs d qs.length : Nat)) 1 ((ownN qs d qs.length : Nat) - 1) rfl rfl (IntWalk.i64_in _ (by omega))) ?_
              go_frame
              refine ls_ex (some 62) (.int .i64 (mx0 (ownN qs d qs.length))) rfl rfl (exec_max2 _ _ _ rfl ((ownN qs d qs.length : Nat) - 1) 0 rfl rfl _ rfl) ?_
              go_frame
              refine ls_ex (some 63) (.int .i64 ((lastI qs qs.length d) + (mx0 (ownN qs d qs.length)))) rfl rfl (exec_add _ _ _ _ rfl ((lastI qs qs.length d)) ((mx0 (ownN qs d qs.length))) ((lastI qs qs.length d) + (mx0 (ownN qs d qs.length))) rfl rfl (IntWalk.i64_in _ (by omega))) ?_
              go_frame
              refine ls_ex (some 5) (.int .i64 ((lastI qs qs.length d) + (mx0 (ownN qs d qs.length)))) rfl rfl (exec_assign _ rfl (.int .i64 ((lastI qs qs.length d) + (mx0 (ownN qs d qs.length)))) rfl) ?_
              go_frame
              refine wpList_nil ?_
              go_upto_region 9 with (fail)
              refine wp_region_lit ?_
              refine ls_ex (some 39) (.int .i64 d) rfl rfl (exec_move _ rfl (.int .i64 d) rfl) ?_
              go_frame
              refine ls_ex (some 40) (.int .i64 (d + 1)) rfl rfl (exec_add _ _ _ _ rfl d 1 (d + 1) rfl rfl (IntWalk.i64_in _ (by omega))) ?_
              go_frame
              refine ls_ex (some 7) (.int .i64 (d + 1)) rfl rfl (exec_assign _ rfl (.int .i64 (d + 1)) rfl) ?_
              go_frame
              refine wpList_nil ?_
              go_wp2_with fail
              go_roundw
              case rel => exact ⟨d + 1, by omega, by go_num, by rw [HL.out], hB, h0⟩
              case measure => simp [intOf]; omega
        · have HEd : Hid (d = 9) := Lib.hid (by omega)
          rw [HEd.out]
          clear hd9 hd HEd
          go_upto_region 8 with (fail)
          refine wp_region_lit ?_
          refine ls_ex (some 37) (.int .i64 9) rfl rfl (exec_move _ rfl (.int .i64 9) rfl) ?_
          go_frame
          refine ls_ex (some 38) (.bool false) rfl rfl (exec_lss _ _ _ _ rfl 9 9 rfl rfl false (decide_eq_false (by omega))) ?_
          go_frame
          refine wpList_nil ?_
          go_upto_region 17 with (fail)
          refine wp_region_lit ?_
          refine ls_ex (some 64) (.pointer (some ⟨w.heap.size, 4, none⟩)) rfl rfl (exec_fieldAddr 30 _ 4 rfl _ (by kernel_rfl)) ?_
          go_frame
          refine ls_ex (some 65) (.slice (some ⟨b0, off0, none⟩) qs.length c) rfl rfl (exec_load_one 28 _ rfl w.heap.size 4 rfl (.slice (some ⟨b0, off0, none⟩) qs.length c) _ Try.underlying28 rfl (h0.at_ 4)) ?_
          go_frame
          refine ls_ex (some 66) (.int .i64 qs.length) rfl rfl (exec_len _ 28 68 rfl ((some ⟨b0, off0, none⟩)) qs.length c rfl Try.underlying28) ?_
          go_frame
          refine ls_ex (some 67) (.int .i64 (wsI qs 0 qs.length)) rfl rfl (exec_move _ rfl (.int .i64 (wsI qs 0 qs.length)) rfl) ?_
          go_frame
          refine ls_ex (some 68) (.int .i64 (wsI qs 9 qs.length)) rfl rfl (exec_move _ rfl (.int .i64 (wsI qs 9 qs.length)) rfl) ?_
          go_frame
          refine ls_ex (some 69) (.int .i64 (lastI qs qs.length 9)) rfl rfl (exec_move _ rfl (.int .i64 (lastI qs qs.length 9)) rfl) ?_
          go_frame
          refine ls_op rfl (fun K' hK' => ?_)
          have lz14 := hB.size
          have lz15 := h0.lt
          refine wp_new (some 70) rfl (exec_bsi4 _ _ _ _ rfl qs.length ((wsI qs 0 qs.length)) ((wsI qs 9 qs.length)) ((lastI qs qs.length 9)) rfl rfl rfl rfl) (fun Wz16 nnz17 => ?_)
          have bz18 := nnz17.below (Below.refl _ _) (Nat.le_refl _)
          replace hB := below_after hB bz18
          replace h0 := h0.after bz18
          have hz19 : At Wz16 wr.heap.size (.cells #[.int .i64 qs.length, .int .i64 (wsI qs 0 qs.length), .int .i64 (wsI qs 9 qs.length), .int .i64 (lastI qs qs.length 9)] 2 (0, 0)) := nnz17.at_
          refine hK' _ _ ?_
          clear hK' K' nnz17 bz18
          go_frame
          refine ls_ex (some 2) (.slice (some ⟨wr.heap.size, 0, none⟩) 4 4) rfl rfl (exec_assign _ rfl (.slice (some ⟨wr.heap.size, 0, none⟩) 4 4) rfl) ?_
          go_frame
          refine wpList_nil ?_
          go_wp2_with fail
          go_ret
          exact ⟨_, rfl, by have := hB.size; omega, hz19, hB⟩
end Go.Proofs.Ytphccbilldfdpaa
