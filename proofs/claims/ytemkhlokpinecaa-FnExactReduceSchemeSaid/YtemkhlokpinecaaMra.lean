/-
  impl.onePair, mergedPair, MergeScheme's function; spec.l10Third. (Made by mkmra.py.)
-/
import Derived.Test.YtemkhlokpinecaaUnB
namespace Go.Proofs.Ytemkhlokpinecaa
open Go.RowKit
set_option maxRecDepth 100000
/-- What onePair makes of two products and a number t. -/
def opF (p t : Int) (q r : List Nat) : Option (List Nat) :=
  if segm q 0 9 = segm r 0 9 ∧ segm q 9 9 = segm r 9 9 then some (withQ q 2 (adF p 1 (segm q 18 9) (segm r 18 9)))
  else if segm q 0 9 = segm r 0 9 ∧ t ≠ 0 then some (withQ q 1 (adF p t (segm q 9 9) (segm r 9 9)))
  else if segm q 9 9 = segm r 9 9 ∧ t ≠ 0 then some (withQ q 0 (adF p t (segm q 0 9) (segm r 0 9))) else none
def mgF (p : Int) (q r : List Nat) : Option (List Nat) := opF p (if segm q 18 9 = segm r 18 9 then 1 else 0) q r
/-- The factor in which two products that can be merged differ. -/
def thO (q r : List Nat) : Option Nat :=
  if segm q 0 9 = segm r 0 9 ∧ segm q 9 9 = segm r 9 9 then some 2
  else if segm q 0 9 = segm r 0 9 ∧ segm q 18 9 = segm r 18 9 then some 1
  else if segm q 9 9 = segm r 9 9 ∧ segm q 18 9 = segm r 18 9 then some 0 else none
def thI : Option Nat → Int
  | some w => (w : Int)
  | none => -1
theorem thO_lt {q r : List Nat} {w : Nat} (h : thO q r = some w) : w < 3 := by
  unfold thO at h
  split at h
  · cases h; omega
  · split at h
    · cases h; omega
    · split at h
      · cases h; omega
      · cases h
theorem mgF_th (p : Int) (q r : List Nat) : mgF p q r = (thO q r).map fun w => withQ q w (adF p 1 (facQ q w) (facQ r w)) := by
  unfold mgF opF thO
  by_cases ha : segm q 0 9 = segm r 0 9 <;> by_cases hb : segm q 9 9 = segm r 9 9 <;> by_cases hc : segm q 18 9 = segm r 18 9 <;> simp [ha, hb, hc, facQ]
theorem opF_bytes {p t : Int} {q r one : List Nat} (hq : Bytes 27 q) (hp : 2 ≤ p ∧ p ≤ 5) (h : opF p t q r = some one) : Bytes 27 one := by
  have b := fun (k : Int) (f g : List Nat) => adF_bytes (p := p) k f g (by omega) (by omega)
  unfold opF at h
  split at h
  · cases h; exact withQ_bytes hq (b _ _ _) (by omega)
  · split at h
    · cases h; exact withQ_bytes hq (b _ _ _) (by omega)
    · split at h
      · cases h; exact withQ_bytes hq (b _ _ _) (by omega)
      · cases h
attribute [local irreducible] wpList
theorem alMr_impl_Product {o : Oper} {a : Act} {w : World} (ho : o.op = .alloc 53) : (execOp a.eval o).run Try.prog w = .ok (.value (.pointer (some ⟨w.heap.size, 0, none⟩))) (w.alloc (.cells (u8s (List.replicate 27 0)) 53 (0, 0))) := by
  unfold execOp
  rw [ho]
  kernel_rfl
set_option maxHeartbeats 4000000 in
theorem onePair_1 (p t : Int) (q r : List Nat) (hq : Bytes 27 q) (hr : Bytes 27 r) (w : World) (hp : 2 ≤ p ∧ p ≤ 5) (ht : 0 ≤ t ∧ t ≤ 5) (ha : segm q 0 9 = segm r 0 9) (hb : segm q 9 9 = segm r 9 9) :
    Calls Try.prog 65 #[.int .i64 p, .agg (u8s q), .agg (u8s r), .int .i64 t] w (fun e w' => e = .returned (unV (opF p t q r)) ∧ Below w.heap.size w w') := by
  have hB := Below.refl w.heap.size w
  have _u0 := ht
  clear _u0
  have HA : Hid ((segm q 0 9 == segm r 0 9) = true) := Lib.hid (by simp [ha])
  have HB : Hid ((segm q 9 9 == segm r 9 9) = true) := Lib.hid (by simp [hb])
  obtain ⟨F, hF⟩ : ∃ z9, adF p 1 (segm q 18 9) (segm r 18 9) = z9 := ⟨_, rfl⟩
  have HFb : Hid (Bytes 9 F) := Lib.hid (by rw [← hF]; exact adF_bytes _ _ _ (by omega) (by omega))
  obtain ⟨one, hone⟩ : ∃ z9, withQ q 2 F = z9 := ⟨_, rfl⟩
  have HOb : Hid (Bytes 27 one) := Lib.hid (by rw [← hone]; exact withQ_bytes hq HFb.out (by omega))
  have HW : Hid (over q 18 F = one) := Lib.hid hone
  have HE : Hid (opF p t q r = some one) := Lib.hid (by unfold opF; simp only [ha, hb, and_self, if_true]; rw [← hone, ← hF])
  have HF := Lib.hid hF
  clear hF hone
  clear ha hb
  go_enter Try.func65, Try.ntmps65
  go_upto_region 0 with (fail)
  refine wp_region_lit ?_
  refine ls_op rfl (fun K' hK' => ?_)
  have lz1 := hB.size
  refine wp_new (some 5) rfl (exec_box 53 _ rfl (u8s (q)) rfl) (fun Wz2 nnz3 => ?_)
  have bz4 := nnz3.below (Below.refl _ _) (Nat.le_refl _)
  replace hB := below_after hB bz4
  have hz5 : At Wz2 w.heap.size (.cells (u8s (q)) 53 (0, 0)) := nnz3.at_
  refine hK' _ _ ?_
  clear hK' K' nnz3 bz4
  go_frame
  refine ls_op rfl (fun K' hK' => ?_)
  have lz6 := hB.size
  have lz7 := hz5.lt
  refine wp_new (some 6) rfl (exec_box 53 _ rfl (u8s (r)) rfl) (fun Wz8 nnz9 => ?_)
  have bz10 := nnz9.below (Below.refl _ _) (Nat.le_refl _)
  replace hB := below_after hB bz10
  replace hz5 := hz5.after bz10
  have hz11 : At Wz8 Wz2.heap.size (.cells (u8s (r)) 53 (0, 0)) := nnz9.at_
  refine hK' _ _ ?_
  clear hK' K' nnz9 bz10
  go_frame
  refine ls_op rfl (fun K' hK' => ?_)
  have lz12 := hB.size
  have lz13 := hz5.lt
  have lz14 := hz11.lt
  refine wp_new (some 8) rfl (alMr_impl_Product rfl) (fun Wz15 nnz16 => ?_)
  have bz17 := nnz16.below (Below.refl _ _) (Nat.le_refl _)
  replace hB := below_after hB bz17
  replace hz5 := hz5.after bz17
  replace hz11 := hz11.after bz17
  have hz18 : At Wz15 Wz8.heap.size (.cells (u8s (List.replicate 27 0)) 53 (0, 0)) := nnz16.at_
  refine hK' _ _ ?_
  clear hK' K' nnz16 bz17
  go_frame
  refine ls_ex (some 9) (.bool false) rfl rfl (exec_assign _ rfl (.bool false) rfl) ?_
  go_frame
  refine wpList_nil ?_
  go_upto_region 2 with (fail)
  refine wp_region_lit ?_
  refine ls_ex (some 12) (.pointer (some ⟨w.heap.size, 0, none⟩)) rfl rfl (exec_fieldAddr 53 _ 0 rfl _ (by kernel_rfl)) ?_
  go_frame
  refine ls_ex (some 13) (.agg (u8s (segm q 0 9))) rfl rfl (exec_load_seg 51 _ rfl w.heap.size (0) rfl _ (q) _ 9 hz5 Try.underlying51 rfl (by kernel_rfl) (by rw [hq.len]; omega) (segm q 0 9) rfl) ?_
  go_frame
  refine ls_ex (some 14) (.pointer (some ⟨Wz2.heap.size, 0, none⟩)) rfl rfl (exec_fieldAddr 53 _ 0 rfl _ (by kernel_rfl)) ?_
  go_frame
  refine ls_ex (some 15) (.agg (u8s (segm r 0 9))) rfl rfl (exec_load_seg 51 _ rfl Wz2.heap.size (0) rfl _ (r) _ 9 hz11 Try.underlying51 rfl (by kernel_rfl) (by rw [hr.len]; omega) (segm r 0 9) rfl) ?_
  go_frame
  refine ls_ex (some 16) (.bool true) rfl rfl (exec_eql_u8s_b 51 _ _ _ _ rfl 9 Try.underlying51 Try.underlying5 (by kernel_rfl) (by kernel_rfl) (segm q 0 9) (segm r 0 9) rfl rfl (segm_len (by rw [hq.len]; omega)) (segm_len (by rw [hr.len]; omega)) true HA.out) ?_
  go_frame
  refine ls_ex (some 17) (.bool true) rfl rfl (exec_move _ rfl (.bool true) rfl) ?_
  go_frame
  refine ls_ex_g (some 18) (.pointer (some ⟨w.heap.size, 9, none⟩)) rfl rfl (exec_fieldAddr 53 _ 1 rfl _ (by kernel_rfl)) ?_
  go_frame
  refine ls_ex_g (some 19) (.agg (u8s (segm q 9 9))) rfl rfl (exec_load_seg 51 _ rfl w.heap.size (9) rfl _ (q) _ 9 hz5 Try.underlying51 rfl (by kernel_rfl) (by rw [hq.len]; omega) (segm q 9 9) rfl) ?_
  go_frame
  refine ls_ex_g (some 20) (.pointer (some ⟨Wz2.heap.size, 9, none⟩)) rfl rfl (exec_fieldAddr 53 _ 1 rfl _ (by kernel_rfl)) ?_
  go_frame
  refine ls_ex_g (some 21) (.agg (u8s (segm r 9 9))) rfl rfl (exec_load_seg 51 _ rfl Wz2.heap.size (9) rfl _ (r) _ 9 hz11 Try.underlying51 rfl (by kernel_rfl) (by rw [hr.len]; omega) (segm r 9 9) rfl) ?_
  go_frame
  refine ls_ex_g (some 22) (.bool true) rfl rfl (exec_eql_u8s_b 51 _ _ _ _ rfl 9 Try.underlying51 Try.underlying5 (by kernel_rfl) (by kernel_rfl) (segm q 9 9) (segm r 9 9) rfl rfl (segm_len (by rw [hq.len]; omega)) (segm_len (by rw [hr.len]; omega)) true HB.out) ?_
  go_frame
  refine ls_ex (some 23) (.bool true) rfl rfl (exec_pick _ _ _ rfl true rfl (.bool true) rfl) ?_
  go_frame
  refine ls_ex (some 11) (.bool true) rfl rfl (exec_assign _ rfl (.bool true) rfl) ?_
  go_frame
  refine wpList_nil ?_
  go_upto_region 3 with (fail)
  refine wp_region_lit ?_
  refine ls_ex (some 24) (.int .i64 p) rfl rfl (exec_move _ rfl (.int .i64 p) rfl) ?_
  go_frame
  refine ls_ex (some 25) (.pointer (some ⟨w.heap.size, 18, none⟩)) rfl rfl (exec_fieldAddr 53 _ 2 rfl _ (by kernel_rfl)) ?_
  go_frame
  refine ls_ex (some 26) (.agg (u8s (segm q 18 9))) rfl rfl (exec_load_seg 51 _ rfl w.heap.size (18) rfl _ (q) _ 9 hz5 Try.underlying51 rfl (by kernel_rfl) (by rw [hq.len]; omega) (segm q 18 9) rfl) ?_
  go_frame
  refine ls_ex (some 27) (.pointer (some ⟨Wz2.heap.size, 18, none⟩)) rfl rfl (exec_fieldAddr 53 _ 2 rfl _ (by kernel_rfl)) ?_
  go_frame
  refine ls_ex (some 28) (.agg (u8s (segm r 18 9))) rfl rfl (exec_load_seg 51 _ rfl Wz2.heap.size (18) rfl _ (r) _ 9 hz11 Try.underlying51 rfl (by kernel_rfl) (by rw [hr.len]; omega) (segm r 18 9) rfl) ?_
  go_frame
  refine ls_op rfl (fun K' hK' => ?_)
  have lz21 := hB.size
  have lz22 := hz5.lt
  have lz23 := hz11.lt
  have lz24 := hz18.lt
  refine wp_call4 (some 29) rfl 100 _ _ _ _ _ rfl (fun args w => by kernel_rfl) _ _ _ _ rfl rfl rfl rfl _ (addedForm_c p 1 (segm q 18 9) (segm r 18 9) (segm_bytes hq (by omega)) (segm_bytes hr (by omega)) _ (by omega) (by omega) (by omega) (by omega)) (fun e Wz19 h => ?_)
  obtain ⟨rfl, bz20⟩ := h
  replace hB := below_after hB bz20
  replace hz5 := hz5.after bz20
  replace hz11 := hz11.after bz20
  replace hz18 := hz18.after bz20
  rw [HF.out]
  clear bz20
  refine ⟨_, rfl, ?_⟩
  refine hK' _ _ ?_
  clear hK' K'
  go_frame
  refine ls_ex (some 30) (.pointer (some ⟨w.heap.size, 18, none⟩)) rfl rfl (exec_fieldAddr 53 _ 2 rfl _ (by kernel_rfl)) ?_
  go_frame
  refine ls_op rfl (fun K' hK' => ?_)
  refine wp_store_u8s 51 _ _ rfl rfl w.heap.size (18) rfl (F) rfl _ _ hz5 9 (by kernel_rfl) HFb.out.len (by rw [hq.len]; omega) (fun Wz25 pz26 => ?_)
  replace hB := pz26.below hB (by omega)
  replace hz11 := pz26.other hz11 (by omega)
  replace hz18 := pz26.other hz18 (by omega)
  replace hz5 : At Wz25 w.heap.size (.cells (u8s (one)) 53 (0, 0)) := by have h9 := pz26.at_; rwa [HW.out] at h9
  refine hK' _ _ ?_
  clear hK' K' pz26
  refine wpList_nil ?_
  go_upto_region 8 with (fail)
  refine wp_region_lit ?_
  refine ls_ex (some 67) (.agg (u8s (one))) rfl rfl (exec_load_all 53 _ rfl w.heap.size rfl _ _ _ hz5 Try.underlying53 rfl 27 (by kernel_rfl) ((u8s_size _).trans HOb.out.len)) ?_
  go_frame
  refine ls_op rfl (fun K' hK' => ?_)
  refine wp_store_bytes 53 _ _ rfl rfl Wz8.heap.size rfl (one) rfl _ _ hz18 27 (by kernel_rfl) HOb.out.len (by simp) (fun Wz28 pz29 => ?_)
  replace hB := pz29.below hB (by omega)
  replace hz5 := pz29.other hz5 (by omega)
  replace hz11 := pz29.other hz11 (by omega)
  replace hz18 : At Wz28 Wz8.heap.size (.cells (u8s (one)) 53 (0, 0)) := pz29.at_
  refine hK' _ _ ?_
  clear hK' K' pz29
  refine ls_ex (some 9) (.bool true) rfl rfl (exec_assign _ rfl (.bool true) rfl) ?_
  go_frame
  refine wpList_nil ?_
  go_wp2_with fail
  refine bodyPost_ret (results_at2 rfl _ _ Wz8.heap.size _ _ _ rfl _ rfl hz18 Try.underlying53 rfl 27 (by kernel_rfl) ((u8s_size _).trans HOb.out.len)) rfl ?_
  exact ⟨by rw [HE.out]; rfl, hB⟩
set_option maxHeartbeats 4000000 in
theorem onePair_2 (p t : Int) (q r : List Nat) (hq : Bytes 27 q) (hr : Bytes 27 r) (w : World) (hp : 2 ≤ p ∧ p ≤ 5) (ht : 0 ≤ t ∧ t ≤ 5) (ha : segm q 0 9 = segm r 0 9) (hb : segm q 9 9 ≠ segm r 9 9) (hT : t ≠ 0) :
    Calls Try.prog 65 #[.int .i64 p, .agg (u8s q), .agg (u8s r), .int .i64 t] w (fun e w' => e = .returned (unV (opF p t q r)) ∧ Below w.heap.size w w') := by
  have hB := Below.refl w.heap.size w
  have HA : Hid ((segm q 0 9 == segm r 0 9) = true) := Lib.hid (by simp [ha])
  have HB : Hid ((segm q 9 9 == segm r 9 9) = false) := Lib.hid (by simp [hb])
  have HT : Hid ((t != 0) = true) := Lib.hid (by simp [hT])
  obtain ⟨F, hF⟩ : ∃ z9, adF p t (segm q 9 9) (segm r 9 9) = z9 := ⟨_, rfl⟩
  have HFb : Hid (Bytes 9 F) := Lib.hid (by rw [← hF]; exact adF_bytes _ _ _ (by omega) (by omega))
  obtain ⟨one, hone⟩ : ∃ z9, withQ q 1 F = z9 := ⟨_, rfl⟩
  have HOb : Hid (Bytes 27 one) := Lib.hid (by rw [← hone]; exact withQ_bytes hq HFb.out (by omega))
  have HW : Hid (over q 9 F = one) := Lib.hid hone
  have HE : Hid (opF p t q r = some one) := Lib.hid (by unfold opF; simp only [ha, hb, hT, ne_eq, not_false_eq_true, and_false, and_true, and_self, if_true, if_false]; rw [← hone, ← hF])
  have HF := Lib.hid hF
  clear hF hone
  clear ha hb hT
  go_enter Try.func65, Try.ntmps65
  go_upto_region 0 with (fail)
  refine wp_region_lit ?_
  refine ls_op rfl (fun K' hK' => ?_)
  have lz1 := hB.size
  refine wp_new (some 5) rfl (exec_box 53 _ rfl (u8s (q)) rfl) (fun Wz2 nnz3 => ?_)
  have bz4 := nnz3.below (Below.refl _ _) (Nat.le_refl _)
  replace hB := below_after hB bz4
  have hz5 : At Wz2 w.heap.size (.cells (u8s (q)) 53 (0, 0)) := nnz3.at_
  refine hK' _ _ ?_
  clear hK' K' nnz3 bz4
  go_frame
  refine ls_op rfl (fun K' hK' => ?_)
  have lz6 := hB.size
  have lz7 := hz5.lt
  refine wp_new (some 6) rfl (exec_box 53 _ rfl (u8s (r)) rfl) (fun Wz8 nnz9 => ?_)
  have bz10 := nnz9.below (Below.refl _ _) (Nat.le_refl _)
  replace hB := below_after hB bz10
  replace hz5 := hz5.after bz10
  have hz11 : At Wz8 Wz2.heap.size (.cells (u8s (r)) 53 (0, 0)) := nnz9.at_
  refine hK' _ _ ?_
  clear hK' K' nnz9 bz10
  go_frame
  refine ls_op rfl (fun K' hK' => ?_)
  have lz12 := hB.size
  have lz13 := hz5.lt
  have lz14 := hz11.lt
  refine wp_new (some 8) rfl (alMr_impl_Product rfl) (fun Wz15 nnz16 => ?_)
  have bz17 := nnz16.below (Below.refl _ _) (Nat.le_refl _)
  replace hB := below_after hB bz17
  replace hz5 := hz5.after bz17
  replace hz11 := hz11.after bz17
  have hz18 : At Wz15 Wz8.heap.size (.cells (u8s (List.replicate 27 0)) 53 (0, 0)) := nnz16.at_
  refine hK' _ _ ?_
  clear hK' K' nnz16 bz17
  go_frame
  refine ls_ex (some 9) (.bool false) rfl rfl (exec_assign _ rfl (.bool false) rfl) ?_
  go_frame
  refine wpList_nil ?_
  go_upto_region 2 with (fail)
  refine wp_region_lit ?_
  refine ls_ex (some 12) (.pointer (some ⟨w.heap.size, 0, none⟩)) rfl rfl (exec_fieldAddr 53 _ 0 rfl _ (by kernel_rfl)) ?_
  go_frame
  refine ls_ex (some 13) (.agg (u8s (segm q 0 9))) rfl rfl (exec_load_seg 51 _ rfl w.heap.size (0) rfl _ (q) _ 9 hz5 Try.underlying51 rfl (by kernel_rfl) (by rw [hq.len]; omega) (segm q 0 9) rfl) ?_
  go_frame
  refine ls_ex (some 14) (.pointer (some ⟨Wz2.heap.size, 0, none⟩)) rfl rfl (exec_fieldAddr 53 _ 0 rfl _ (by kernel_rfl)) ?_
  go_frame
  refine ls_ex (some 15) (.agg (u8s (segm r 0 9))) rfl rfl (exec_load_seg 51 _ rfl Wz2.heap.size (0) rfl _ (r) _ 9 hz11 Try.underlying51 rfl (by kernel_rfl) (by rw [hr.len]; omega) (segm r 0 9) rfl) ?_
  go_frame
  refine ls_ex (some 16) (.bool true) rfl rfl (exec_eql_u8s_b 51 _ _ _ _ rfl 9 Try.underlying51 Try.underlying5 (by kernel_rfl) (by kernel_rfl) (segm q 0 9) (segm r 0 9) rfl rfl (segm_len (by rw [hq.len]; omega)) (segm_len (by rw [hr.len]; omega)) true HA.out) ?_
  go_frame
  refine ls_ex (some 17) (.bool true) rfl rfl (exec_move _ rfl (.bool true) rfl) ?_
  go_frame
  refine ls_ex_g (some 18) (.pointer (some ⟨w.heap.size, 9, none⟩)) rfl rfl (exec_fieldAddr 53 _ 1 rfl _ (by kernel_rfl)) ?_
  go_frame
  refine ls_ex_g (some 19) (.agg (u8s (segm q 9 9))) rfl rfl (exec_load_seg 51 _ rfl w.heap.size (9) rfl _ (q) _ 9 hz5 Try.underlying51 rfl (by kernel_rfl) (by rw [hq.len]; omega) (segm q 9 9) rfl) ?_
  go_frame
  refine ls_ex_g (some 20) (.pointer (some ⟨Wz2.heap.size, 9, none⟩)) rfl rfl (exec_fieldAddr 53 _ 1 rfl _ (by kernel_rfl)) ?_
  go_frame
  refine ls_ex_g (some 21) (.agg (u8s (segm r 9 9))) rfl rfl (exec_load_seg 51 _ rfl Wz2.heap.size (9) rfl _ (r) _ 9 hz11 Try.underlying51 rfl (by kernel_rfl) (by rw [hr.len]; omega) (segm r 9 9) rfl) ?_
  go_frame
  refine ls_ex_g (some 22) (.bool false) rfl rfl (exec_eql_u8s_b 51 _ _ _ _ rfl 9 Try.underlying51 Try.underlying5 (by kernel_rfl) (by kernel_rfl) (segm q 9 9) (segm r 9 9) rfl rfl (segm_len (by rw [hq.len]; omega)) (segm_len (by rw [hr.len]; omega)) false HB.out) ?_
  go_frame
  refine ls_ex (some 23) (.bool false) rfl rfl (exec_pick _ _ _ rfl true rfl (.bool false) rfl) ?_
  go_frame
  refine ls_ex (some 11) (.bool false) rfl rfl (exec_assign _ rfl (.bool false) rfl) ?_
  go_frame
  refine wpList_nil ?_
  go_upto_region 4 with (fail)
  refine wp_region_lit ?_
  refine ls_ex (some 32) (.pointer (some ⟨w.heap.size, 0, none⟩)) rfl rfl (exec_fieldAddr 53 _ 0 rfl _ (by kernel_rfl)) ?_
  go_frame
  refine ls_ex (some 33) (.agg (u8s (segm q 0 9))) rfl rfl (exec_load_seg 51 _ rfl w.heap.size (0) rfl _ (q) _ 9 hz5 Try.underlying51 rfl (by kernel_rfl) (by rw [hq.len]; omega) (segm q 0 9) rfl) ?_
  go_frame
  refine ls_ex (some 34) (.pointer (some ⟨Wz2.heap.size, 0, none⟩)) rfl rfl (exec_fieldAddr 53 _ 0 rfl _ (by kernel_rfl)) ?_
  go_frame
  refine ls_ex (some 35) (.agg (u8s (segm r 0 9))) rfl rfl (exec_load_seg 51 _ rfl Wz2.heap.size (0) rfl _ (r) _ 9 hz11 Try.underlying51 rfl (by kernel_rfl) (by rw [hr.len]; omega) (segm r 0 9) rfl) ?_
  go_frame
  refine ls_ex (some 36) (.bool true) rfl rfl (exec_eql_u8s_b 51 _ _ _ _ rfl 9 Try.underlying51 Try.underlying5 (by kernel_rfl) (by kernel_rfl) (segm q 0 9) (segm r 0 9) rfl rfl (segm_len (by rw [hq.len]; omega)) (segm_len (by rw [hr.len]; omega)) true HA.out) ?_
  go_frame
  refine ls_ex (some 37) (.bool true) rfl rfl (exec_move _ rfl (.bool true) rfl) ?_
  go_frame
  refine ls_ex_g (some 38) (.int .i64 t) rfl rfl (exec_move _ rfl (.int .i64 t) rfl) ?_
  go_frame
  refine ls_ex_g (some 39) (.bool true) rfl rfl (exec_neq _ _ _ _ rfl t 0 rfl rfl true HT.out) ?_
  go_frame
  refine ls_ex (some 40) (.bool true) rfl rfl (exec_pick _ _ _ rfl true rfl (.bool true) rfl) ?_
  go_frame
  refine ls_ex (some 31) (.bool true) rfl rfl (exec_assign _ rfl (.bool true) rfl) ?_
  go_frame
  refine wpList_nil ?_
  go_upto_region 5 with (fail)
  refine wp_region_lit ?_
  refine ls_ex (some 41) (.int .i64 p) rfl rfl (exec_move _ rfl (.int .i64 p) rfl) ?_
  go_frame
  refine ls_ex (some 42) (.pointer (some ⟨w.heap.size, 9, none⟩)) rfl rfl (exec_fieldAddr 53 _ 1 rfl _ (by kernel_rfl)) ?_
  go_frame
  refine ls_ex (some 43) (.agg (u8s (segm q 9 9))) rfl rfl (exec_load_seg 51 _ rfl w.heap.size (9) rfl _ (q) _ 9 hz5 Try.underlying51 rfl (by kernel_rfl) (by rw [hq.len]; omega) (segm q 9 9) rfl) ?_
  go_frame
  refine ls_ex (some 44) (.int .i64 t) rfl rfl (exec_move _ rfl (.int .i64 t) rfl) ?_
  go_frame
  refine ls_ex (some 45) (.pointer (some ⟨Wz2.heap.size, 9, none⟩)) rfl rfl (exec_fieldAddr 53 _ 1 rfl _ (by kernel_rfl)) ?_
  go_frame
  refine ls_ex (some 46) (.agg (u8s (segm r 9 9))) rfl rfl (exec_load_seg 51 _ rfl Wz2.heap.size (9) rfl _ (r) _ 9 hz11 Try.underlying51 rfl (by kernel_rfl) (by rw [hr.len]; omega) (segm r 9 9) rfl) ?_
  go_frame
  refine ls_op rfl (fun K' hK' => ?_)
  have lz21 := hB.size
  have lz22 := hz5.lt
  have lz23 := hz11.lt
  have lz24 := hz18.lt
  refine wp_call4 (some 47) rfl 100 _ _ _ _ _ rfl (fun args w => by kernel_rfl) _ _ _ _ rfl rfl rfl rfl _ (addedForm_c p t (segm q 9 9) (segm r 9 9) (segm_bytes hq (by omega)) (segm_bytes hr (by omega)) _ (by omega) (by omega) (by omega) (by omega)) (fun e Wz19 h => ?_)
  obtain ⟨rfl, bz20⟩ := h
  replace hB := below_after hB bz20
  replace hz5 := hz5.after bz20
  replace hz11 := hz11.after bz20
  replace hz18 := hz18.after bz20
  rw [HF.out]
  clear bz20
  refine ⟨_, rfl, ?_⟩
  refine hK' _ _ ?_
  clear hK' K'
  go_frame
  refine ls_ex (some 48) (.pointer (some ⟨w.heap.size, 9, none⟩)) rfl rfl (exec_fieldAddr 53 _ 1 rfl _ (by kernel_rfl)) ?_
  go_frame
  refine ls_op rfl (fun K' hK' => ?_)
  refine wp_store_u8s 51 _ _ rfl rfl w.heap.size (9) rfl (F) rfl _ _ hz5 9 (by kernel_rfl) HFb.out.len (by rw [hq.len]; omega) (fun Wz25 pz26 => ?_)
  replace hB := pz26.below hB (by omega)
  replace hz11 := pz26.other hz11 (by omega)
  replace hz18 := pz26.other hz18 (by omega)
  replace hz5 : At Wz25 w.heap.size (.cells (u8s (one)) 53 (0, 0)) := by have h9 := pz26.at_; rwa [HW.out] at h9
  refine hK' _ _ ?_
  clear hK' K' pz26
  refine wpList_nil ?_
  go_upto_region 8 with (fail)
  refine wp_region_lit ?_
  refine ls_ex (some 67) (.agg (u8s (one))) rfl rfl (exec_load_all 53 _ rfl w.heap.size rfl _ _ _ hz5 Try.underlying53 rfl 27 (by kernel_rfl) ((u8s_size _).trans HOb.out.len)) ?_
  go_frame
  refine ls_op rfl (fun K' hK' => ?_)
  refine wp_store_bytes 53 _ _ rfl rfl Wz8.heap.size rfl (one) rfl _ _ hz18 27 (by kernel_rfl) HOb.out.len (by simp) (fun Wz28 pz29 => ?_)
  replace hB := pz29.below hB (by omega)
  replace hz5 := pz29.other hz5 (by omega)
  replace hz11 := pz29.other hz11 (by omega)
  replace hz18 : At Wz28 Wz8.heap.size (.cells (u8s (one)) 53 (0, 0)) := pz29.at_
  refine hK' _ _ ?_
  clear hK' K' pz29
  refine ls_ex (some 9) (.bool true) rfl rfl (exec_assign _ rfl (.bool true) rfl) ?_
  go_frame
  refine wpList_nil ?_
  go_wp2_with fail
  refine bodyPost_ret (results_at2 rfl _ _ Wz8.heap.size _ _ _ rfl _ rfl hz18 Try.underlying53 rfl 27 (by kernel_rfl) ((u8s_size _).trans HOb.out.len)) rfl ?_
  exact ⟨by rw [HE.out]; rfl, hB⟩
set_option maxHeartbeats 4000000 in
theorem onePair_3 (p t : Int) (q r : List Nat) (hq : Bytes 27 q) (hr : Bytes 27 r) (w : World) (hp : 2 ≤ p ∧ p ≤ 5) (ht : 0 ≤ t ∧ t ≤ 5) (ha : segm q 0 9 = segm r 0 9) (hb : segm q 9 9 ≠ segm r 9 9) (hT : t = 0) :
    Calls Try.prog 65 #[.int .i64 p, .agg (u8s q), .agg (u8s r), .int .i64 t] w (fun e w' => e = .returned (unV (opF p t q r)) ∧ Below w.heap.size w w') := by
  have hB := Below.refl w.heap.size w
  have _u0 := ht
  have _u1 := hp
  clear _u0 _u1
  have HA : Hid ((segm q 0 9 == segm r 0 9) = true) := Lib.hid (by simp [ha])
  have HB : Hid ((segm q 9 9 == segm r 9 9) = false) := Lib.hid (by simp [hb])
  have HT : Hid ((t != 0) = false) := Lib.hid (by simp [hT])
  have HE : Hid (opF p t q r = none) := Lib.hid (by unfold opF; simp [ha, hb, hT])
  clear ha hb hT
  go_enter Try.func65, Try.ntmps65
  go_upto_region 0 with (fail)
  refine wp_region_lit ?_
  refine ls_op rfl (fun K' hK' => ?_)
  have lz1 := hB.size
  refine wp_new (some 5) rfl (exec_box 53 _ rfl (u8s (q)) rfl) (fun Wz2 nnz3 => ?_)
  have bz4 := nnz3.below (Below.refl _ _) (Nat.le_refl _)
  replace hB := below_after hB bz4
  have hz5 : At Wz2 w.heap.size (.cells (u8s (q)) 53 (0, 0)) := nnz3.at_
  refine hK' _ _ ?_
  clear hK' K' nnz3 bz4
  go_frame
  refine ls_op rfl (fun K' hK' => ?_)
  have lz6 := hB.size
  have lz7 := hz5.lt
  refine wp_new (some 6) rfl (exec_box 53 _ rfl (u8s (r)) rfl) (fun Wz8 nnz9 => ?_)
  have bz10 := nnz9.below (Below.refl _ _) (Nat.le_refl _)
  replace hB := below_after hB bz10
  replace hz5 := hz5.after bz10
  have hz11 : At Wz8 Wz2.heap.size (.cells (u8s (r)) 53 (0, 0)) := nnz9.at_
  refine hK' _ _ ?_
  clear hK' K' nnz9 bz10
  go_frame
  refine ls_op rfl (fun K' hK' => ?_)
  have lz12 := hB.size
  have lz13 := hz5.lt
  have lz14 := hz11.lt
  refine wp_new (some 8) rfl (alMr_impl_Product rfl) (fun Wz15 nnz16 => ?_)
  have bz17 := nnz16.below (Below.refl _ _) (Nat.le_refl _)
  replace hB := below_after hB bz17
  replace hz5 := hz5.after bz17
  replace hz11 := hz11.after bz17
  have hz18 : At Wz15 Wz8.heap.size (.cells (u8s (List.replicate 27 0)) 53 (0, 0)) := nnz16.at_
  refine hK' _ _ ?_
  clear hK' K' nnz16 bz17
  go_frame
  refine ls_ex (some 9) (.bool false) rfl rfl (exec_assign _ rfl (.bool false) rfl) ?_
  go_frame
  refine wpList_nil ?_
  go_upto_region 2 with (fail)
  refine wp_region_lit ?_
  refine ls_ex (some 12) (.pointer (some ⟨w.heap.size, 0, none⟩)) rfl rfl (exec_fieldAddr 53 _ 0 rfl _ (by kernel_rfl)) ?_
  go_frame
  refine ls_ex (some 13) (.agg (u8s (segm q 0 9))) rfl rfl (exec_load_seg 51 _ rfl w.heap.size (0) rfl _ (q) _ 9 hz5 Try.underlying51 rfl (by kernel_rfl) (by rw [hq.len]; omega) (segm q 0 9) rfl) ?_
  go_frame
  refine ls_ex (some 14) (.pointer (some ⟨Wz2.heap.size, 0, none⟩)) rfl rfl (exec_fieldAddr 53 _ 0 rfl _ (by kernel_rfl)) ?_
  go_frame
  refine ls_ex (some 15) (.agg (u8s (segm r 0 9))) rfl rfl (exec_load_seg 51 _ rfl Wz2.heap.size (0) rfl _ (r) _ 9 hz11 Try.underlying51 rfl (by kernel_rfl) (by rw [hr.len]; omega) (segm r 0 9) rfl) ?_
  go_frame
  refine ls_ex (some 16) (.bool true) rfl rfl (exec_eql_u8s_b 51 _ _ _ _ rfl 9 Try.underlying51 Try.underlying5 (by kernel_rfl) (by kernel_rfl) (segm q 0 9) (segm r 0 9) rfl rfl (segm_len (by rw [hq.len]; omega)) (segm_len (by rw [hr.len]; omega)) true HA.out) ?_
  go_frame
  refine ls_ex (some 17) (.bool true) rfl rfl (exec_move _ rfl (.bool true) rfl) ?_
  go_frame
  refine ls_ex_g (some 18) (.pointer (some ⟨w.heap.size, 9, none⟩)) rfl rfl (exec_fieldAddr 53 _ 1 rfl _ (by kernel_rfl)) ?_
  go_frame
  refine ls_ex_g (some 19) (.agg (u8s (segm q 9 9))) rfl rfl (exec_load_seg 51 _ rfl w.heap.size (9) rfl _ (q) _ 9 hz5 Try.underlying51 rfl (by kernel_rfl) (by rw [hq.len]; omega) (segm q 9 9) rfl) ?_
  go_frame
  refine ls_ex_g (some 20) (.pointer (some ⟨Wz2.heap.size, 9, none⟩)) rfl rfl (exec_fieldAddr 53 _ 1 rfl _ (by kernel_rfl)) ?_
  go_frame
  refine ls_ex_g (some 21) (.agg (u8s (segm r 9 9))) rfl rfl (exec_load_seg 51 _ rfl Wz2.heap.size (9) rfl _ (r) _ 9 hz11 Try.underlying51 rfl (by kernel_rfl) (by rw [hr.len]; omega) (segm r 9 9) rfl) ?_
  go_frame
  refine ls_ex_g (some 22) (.bool false) rfl rfl (exec_eql_u8s_b 51 _ _ _ _ rfl 9 Try.underlying51 Try.underlying5 (by kernel_rfl) (by kernel_rfl) (segm q 9 9) (segm r 9 9) rfl rfl (segm_len (by rw [hq.len]; omega)) (segm_len (by rw [hr.len]; omega)) false HB.out) ?_
  go_frame
  refine ls_ex (some 23) (.bool false) rfl rfl (exec_pick _ _ _ rfl true rfl (.bool false) rfl) ?_
  go_frame
  refine ls_ex (some 11) (.bool false) rfl rfl (exec_assign _ rfl (.bool false) rfl) ?_
  go_frame
  refine wpList_nil ?_
  go_upto_region 4 with (fail)
  refine wp_region_lit ?_
  refine ls_ex (some 32) (.pointer (some ⟨w.heap.size, 0, none⟩)) rfl rfl (exec_fieldAddr 53 _ 0 rfl _ (by kernel_rfl)) ?_
  go_frame
  refine ls_ex (some 33) (.agg (u8s (segm q 0 9))) rfl rfl (exec_load_seg 51 _ rfl w.heap.size (0) rfl _ (q) _ 9 hz5 Try.underlying51 rfl (by kernel_rfl) (by rw [hq.len]; omega) (segm q 0 9) rfl) ?_
  go_frame
  refine ls_ex (some 34) (.pointer (some ⟨Wz2.heap.size, 0, none⟩)) rfl rfl (exec_fieldAddr 53 _ 0 rfl _ (by kernel_rfl)) ?_
  go_frame
  refine ls_ex (some 35) (.agg (u8s (segm r 0 9))) rfl rfl (exec_load_seg 51 _ rfl Wz2.heap.size (0) rfl _ (r) _ 9 hz11 Try.underlying51 rfl (by kernel_rfl) (by rw [hr.len]; omega) (segm r 0 9) rfl) ?_
  go_frame
  refine ls_ex (some 36) (.bool true) rfl rfl (exec_eql_u8s_b 51 _ _ _ _ rfl 9 Try.underlying51 Try.underlying5 (by kernel_rfl) (by kernel_rfl) (segm q 0 9) (segm r 0 9) rfl rfl (segm_len (by rw [hq.len]; omega)) (segm_len (by rw [hr.len]; omega)) true HA.out) ?_
  go_frame
  refine ls_ex (some 37) (.bool true) rfl rfl (exec_move _ rfl (.bool true) rfl) ?_
  go_frame
  refine ls_ex_g (some 38) (.int .i64 t) rfl rfl (exec_move _ rfl (.int .i64 t) rfl) ?_
  go_frame
  refine ls_ex_g (some 39) (.bool false) rfl rfl (exec_neq _ _ _ _ rfl t 0 rfl rfl false HT.out) ?_
  go_frame
  refine ls_ex (some 40) (.bool false) rfl rfl (exec_pick _ _ _ rfl true rfl (.bool false) rfl) ?_
  go_frame
  refine ls_ex (some 31) (.bool false) rfl rfl (exec_assign _ rfl (.bool false) rfl) ?_
  go_frame
  refine wpList_nil ?_
  go_upto_region 6 with (fail)
  refine wp_region_lit ?_
  refine ls_ex (some 50) (.pointer (some ⟨w.heap.size, 9, none⟩)) rfl rfl (exec_fieldAddr 53 _ 1 rfl _ (by kernel_rfl)) ?_
  go_frame
  refine ls_ex (some 51) (.agg (u8s (segm q 9 9))) rfl rfl (exec_load_seg 51 _ rfl w.heap.size (9) rfl _ (q) _ 9 hz5 Try.underlying51 rfl (by kernel_rfl) (by rw [hq.len]; omega) (segm q 9 9) rfl) ?_
  go_frame
  refine ls_ex (some 52) (.pointer (some ⟨Wz2.heap.size, 9, none⟩)) rfl rfl (exec_fieldAddr 53 _ 1 rfl _ (by kernel_rfl)) ?_
  go_frame
  refine ls_ex (some 53) (.agg (u8s (segm r 9 9))) rfl rfl (exec_load_seg 51 _ rfl Wz2.heap.size (9) rfl _ (r) _ 9 hz11 Try.underlying51 rfl (by kernel_rfl) (by rw [hr.len]; omega) (segm r 9 9) rfl) ?_
  go_frame
  refine ls_ex (some 54) (.bool false) rfl rfl (exec_eql_u8s_b 51 _ _ _ _ rfl 9 Try.underlying51 Try.underlying5 (by kernel_rfl) (by kernel_rfl) (segm q 9 9) (segm r 9 9) rfl rfl (segm_len (by rw [hq.len]; omega)) (segm_len (by rw [hr.len]; omega)) false HB.out) ?_
  go_frame
  refine ls_ex (some 55) (.bool false) rfl rfl (exec_move _ rfl (.bool false) rfl) ?_
  go_frame
  refine ls_skip_g (some 56) rfl rfl ?_
  go_frame
  refine ls_skip_g (some 57) rfl rfl ?_
  go_frame
  refine ls_ex (some 58) (.bool false) rfl rfl (exec_pick _ _ _ rfl false rfl (.bool false) rfl) ?_
  go_frame
  refine ls_ex (some 49) (.bool false) rfl rfl (exec_assign _ rfl (.bool false) rfl) ?_
  go_frame
  refine wpList_nil ?_
  go_upto_region 1 with (fail)
  refine wp_region_lit ?_
  refine ls_ex (some 10) (.agg (u8s (List.replicate 27 0))) rfl rfl (exec_build_nil 53 rfl _ (by kernel_rfl)) ?_
  go_frame
  refine ls_op rfl (fun K' hK' => ?_)
  refine wp_store_bytes 53 _ _ rfl rfl Wz8.heap.size rfl (List.replicate 27 0) rfl _ _ hz18 27 (by kernel_rfl) (by simp) (by simp) (fun Wz19 pz20 => ?_)
  replace hB := pz20.below hB (by omega)
  replace hz5 := pz20.other hz5 (by omega)
  replace hz11 := pz20.other hz11 (by omega)
  replace hz18 : At Wz19 Wz8.heap.size (.cells (u8s (List.replicate 27 0)) 53 (0, 0)) := pz20.at_
  refine hK' _ _ ?_
  clear hK' K' pz20
  refine ls_ex (some 9) (.bool false) rfl rfl (exec_assign _ rfl (.bool false) rfl) ?_
  go_frame
  refine wpList_nil ?_
  go_wp2_with fail
  refine bodyPost_ret (results_at2 rfl _ _ Wz8.heap.size _ _ _ rfl _ rfl hz18 Try.underlying53 rfl 27 (by kernel_rfl) ((u8s_size _).trans (by simp))) rfl ?_
  exact ⟨by rw [HE.out]; rfl, hB⟩
set_option maxHeartbeats 4000000 in
theorem onePair_4 (p t : Int) (q r : List Nat) (hq : Bytes 27 q) (hr : Bytes 27 r) (w : World) (hp : 2 ≤ p ∧ p ≤ 5) (ht : 0 ≤ t ∧ t ≤ 5) (ha : segm q 0 9 ≠ segm r 0 9) (hb : segm q 9 9 = segm r 9 9) (hT : t ≠ 0) :
    Calls Try.prog 65 #[.int .i64 p, .agg (u8s q), .agg (u8s r), .int .i64 t] w (fun e w' => e = .returned (unV (opF p t q r)) ∧ Below w.heap.size w w') := by
  have hB := Below.refl w.heap.size w
  have HA : Hid ((segm q 0 9 == segm r 0 9) = false) := Lib.hid (by simp [ha])
  have HB : Hid ((segm q 9 9 == segm r 9 9) = true) := Lib.hid (by simp [hb])
  have HT : Hid ((t != 0) = true) := Lib.hid (by simp [hT])
  obtain ⟨F, hF⟩ : ∃ z9, adF p t (segm q 0 9) (segm r 0 9) = z9 := ⟨_, rfl⟩
  have HFb : Hid (Bytes 9 F) := Lib.hid (by rw [← hF]; exact adF_bytes _ _ _ (by omega) (by omega))
  obtain ⟨one, hone⟩ : ∃ z9, withQ q 0 F = z9 := ⟨_, rfl⟩
  have HOb : Hid (Bytes 27 one) := Lib.hid (by rw [← hone]; exact withQ_bytes hq HFb.out (by omega))
  have HW : Hid (over q 0 F = one) := Lib.hid hone
  have HE : Hid (opF p t q r = some one) := Lib.hid (by unfold opF; simp only [ha, hb, hT, ne_eq, not_false_eq_true, and_true, and_self, if_true, if_false]; rw [← hone, ← hF])
  have HF := Lib.hid hF
  clear hF hone
  clear ha hb hT
  go_enter Try.func65, Try.ntmps65
  go_upto_region 0 with (fail)
  refine wp_region_lit ?_
  refine ls_op rfl (fun K' hK' => ?_)
  have lz1 := hB.size
  refine wp_new (some 5) rfl (exec_box 53 _ rfl (u8s (q)) rfl) (fun Wz2 nnz3 => ?_)
  have bz4 := nnz3.below (Below.refl _ _) (Nat.le_refl _)
  replace hB := below_after hB bz4
  have hz5 : At Wz2 w.heap.size (.cells (u8s (q)) 53 (0, 0)) := nnz3.at_
  refine hK' _ _ ?_
  clear hK' K' nnz3 bz4
  go_frame
  refine ls_op rfl (fun K' hK' => ?_)
  have lz6 := hB.size
  have lz7 := hz5.lt
  refine wp_new (some 6) rfl (exec_box 53 _ rfl (u8s (r)) rfl) (fun Wz8 nnz9 => ?_)
  have bz10 := nnz9.below (Below.refl _ _) (Nat.le_refl _)
  replace hB := below_after hB bz10
  replace hz5 := hz5.after bz10
  have hz11 : At Wz8 Wz2.heap.size (.cells (u8s (r)) 53 (0, 0)) := nnz9.at_
  refine hK' _ _ ?_
  clear hK' K' nnz9 bz10
  go_frame
  refine ls_op rfl (fun K' hK' => ?_)
  have lz12 := hB.size
  have lz13 := hz5.lt
  have lz14 := hz11.lt
  refine wp_new (some 8) rfl (alMr_impl_Product rfl) (fun Wz15 nnz16 => ?_)
  have bz17 := nnz16.below (Below.refl _ _) (Nat.le_refl _)
  replace hB := below_after hB bz17
  replace hz5 := hz5.after bz17
  replace hz11 := hz11.after bz17
  have hz18 : At Wz15 Wz8.heap.size (.cells (u8s (List.replicate 27 0)) 53 (0, 0)) := nnz16.at_
  refine hK' _ _ ?_
  clear hK' K' nnz16 bz17
  go_frame
  refine ls_ex (some 9) (.bool false) rfl rfl (exec_assign _ rfl (.bool false) rfl) ?_
  go_frame
  refine wpList_nil ?_
  go_upto_region 2 with (fail)
  refine wp_region_lit ?_
  refine ls_ex (some 12) (.pointer (some ⟨w.heap.size, 0, none⟩)) rfl rfl (exec_fieldAddr 53 _ 0 rfl _ (by kernel_rfl)) ?_
  go_frame
  refine ls_ex (some 13) (.agg (u8s (segm q 0 9))) rfl rfl (exec_load_seg 51 _ rfl w.heap.size (0) rfl _ (q) _ 9 hz5 Try.underlying51 rfl (by kernel_rfl) (by rw [hq.len]; omega) (segm q 0 9) rfl) ?_
  go_frame
  refine ls_ex (some 14) (.pointer (some ⟨Wz2.heap.size, 0, none⟩)) rfl rfl (exec_fieldAddr 53 _ 0 rfl _ (by kernel_rfl)) ?_
  go_frame
  refine ls_ex (some 15) (.agg (u8s (segm r 0 9))) rfl rfl (exec_load_seg 51 _ rfl Wz2.heap.size (0) rfl _ (r) _ 9 hz11 Try.underlying51 rfl (by kernel_rfl) (by rw [hr.len]; omega) (segm r 0 9) rfl) ?_
  go_frame
  refine ls_ex (some 16) (.bool false) rfl rfl (exec_eql_u8s_b 51 _ _ _ _ rfl 9 Try.underlying51 Try.underlying5 (by kernel_rfl) (by kernel_rfl) (segm q 0 9) (segm r 0 9) rfl rfl (segm_len (by rw [hq.len]; omega)) (segm_len (by rw [hr.len]; omega)) false HA.out) ?_
  go_frame
  refine ls_ex (some 17) (.bool false) rfl rfl (exec_move _ rfl (.bool false) rfl) ?_
  go_frame
  refine ls_skip_g (some 18) rfl rfl ?_
  go_frame
  refine ls_skip_g (some 19) rfl rfl ?_
  go_frame
  refine ls_skip_g (some 20) rfl rfl ?_
  go_frame
  refine ls_skip_g (some 21) rfl rfl ?_
  go_frame
  refine ls_skip_g (some 22) rfl rfl ?_
  go_frame
  refine ls_ex (some 23) (.bool false) rfl rfl (exec_pick _ _ _ rfl false rfl (.bool false) rfl) ?_
  go_frame
  refine ls_ex (some 11) (.bool false) rfl rfl (exec_assign _ rfl (.bool false) rfl) ?_
  go_frame
  refine wpList_nil ?_
  go_upto_region 4 with (fail)
  refine wp_region_lit ?_
  refine ls_ex (some 32) (.pointer (some ⟨w.heap.size, 0, none⟩)) rfl rfl (exec_fieldAddr 53 _ 0 rfl _ (by kernel_rfl)) ?_
  go_frame
  refine ls_ex (some 33) (.agg (u8s (segm q 0 9))) rfl rfl (exec_load_seg 51 _ rfl w.heap.size (0) rfl _ (q) _ 9 hz5 Try.underlying51 rfl (by kernel_rfl) (by rw [hq.len]; omega) (segm q 0 9) rfl) ?_
  go_frame
  refine ls_ex (some 34) (.pointer (some ⟨Wz2.heap.size, 0, none⟩)) rfl rfl (exec_fieldAddr 53 _ 0 rfl _ (by kernel_rfl)) ?_
  go_frame
  refine ls_ex (some 35) (.agg (u8s (segm r 0 9))) rfl rfl (exec_load_seg 51 _ rfl Wz2.heap.size (0) rfl _ (r) _ 9 hz11 Try.underlying51 rfl (by kernel_rfl) (by rw [hr.len]; omega) (segm r 0 9) rfl) ?_
  go_frame
  refine ls_ex (some 36) (.bool false) rfl rfl (exec_eql_u8s_b 51 _ _ _ _ rfl 9 Try.underlying51 Try.underlying5 (by kernel_rfl) (by kernel_rfl) (segm q 0 9) (segm r 0 9) rfl rfl (segm_len (by rw [hq.len]; omega)) (segm_len (by rw [hr.len]; omega)) false HA.out) ?_
  go_frame
  refine ls_ex (some 37) (.bool false) rfl rfl (exec_move _ rfl (.bool false) rfl) ?_
  go_frame
  refine ls_skip_g (some 38) rfl rfl ?_
  go_frame
  refine ls_skip_g (some 39) rfl rfl ?_
  go_frame
  refine ls_ex (some 40) (.bool false) rfl rfl (exec_pick _ _ _ rfl false rfl (.bool false) rfl) ?_
  go_frame
  refine ls_ex (some 31) (.bool false) rfl rfl (exec_assign _ rfl (.bool false) rfl) ?_
  go_frame
  refine wpList_nil ?_
  go_upto_region 6 with (fail)
  refine wp_region_lit ?_
  refine ls_ex (some 50) (.pointer (some ⟨w.heap.size, 9, none⟩)) rfl rfl (exec_fieldAddr 53 _ 1 rfl _ (by kernel_rfl)) ?_
  go_frame
  refine ls_ex (some 51) (.agg (u8s (segm q 9 9))) rfl rfl (exec_load_seg 51 _ rfl w.heap.size (9) rfl _ (q) _ 9 hz5 Try.underlying51 rfl (by kernel_rfl) (by rw [hq.len]; omega) (segm q 9 9) rfl) ?_
  go_frame
  refine ls_ex (some 52) (.pointer (some ⟨Wz2.heap.size, 9, none⟩)) rfl rfl (exec_fieldAddr 53 _ 1 rfl _ (by kernel_rfl)) ?_
  go_frame
  refine ls_ex (some 53) (.agg (u8s (segm r 9 9))) rfl rfl (exec_load_seg 51 _ rfl Wz2.heap.size (9) rfl _ (r) _ 9 hz11 Try.underlying51 rfl (by kernel_rfl) (by rw [hr.len]; omega) (segm r 9 9) rfl) ?_
  go_frame
  refine ls_ex (some 54) (.bool true) rfl rfl (exec_eql_u8s_b 51 _ _ _ _ rfl 9 Try.underlying51 Try.underlying5 (by kernel_rfl) (by kernel_rfl) (segm q 9 9) (segm r 9 9) rfl rfl (segm_len (by rw [hq.len]; omega)) (segm_len (by rw [hr.len]; omega)) true HB.out) ?_
  go_frame
  refine ls_ex (some 55) (.bool true) rfl rfl (exec_move _ rfl (.bool true) rfl) ?_
  go_frame
  refine ls_ex_g (some 56) (.int .i64 t) rfl rfl (exec_move _ rfl (.int .i64 t) rfl) ?_
  go_frame
  refine ls_ex_g (some 57) (.bool true) rfl rfl (exec_neq _ _ _ _ rfl t 0 rfl rfl true HT.out) ?_
  go_frame
  refine ls_ex (some 58) (.bool true) rfl rfl (exec_pick _ _ _ rfl true rfl (.bool true) rfl) ?_
  go_frame
  refine ls_ex (some 49) (.bool true) rfl rfl (exec_assign _ rfl (.bool true) rfl) ?_
  go_frame
  refine wpList_nil ?_
  go_upto_region 7 with (fail)
  refine wp_region_lit ?_
  refine ls_ex (some 59) (.int .i64 p) rfl rfl (exec_move _ rfl (.int .i64 p) rfl) ?_
  go_frame
  refine ls_ex (some 60) (.pointer (some ⟨w.heap.size, 0, none⟩)) rfl rfl (exec_fieldAddr 53 _ 0 rfl _ (by kernel_rfl)) ?_
  go_frame
  refine ls_ex (some 61) (.agg (u8s (segm q 0 9))) rfl rfl (exec_load_seg 51 _ rfl w.heap.size (0) rfl _ (q) _ 9 hz5 Try.underlying51 rfl (by kernel_rfl) (by rw [hq.len]; omega) (segm q 0 9) rfl) ?_
  go_frame
  refine ls_ex (some 62) (.int .i64 t) rfl rfl (exec_move _ rfl (.int .i64 t) rfl) ?_
  go_frame
  refine ls_ex (some 63) (.pointer (some ⟨Wz2.heap.size, 0, none⟩)) rfl rfl (exec_fieldAddr 53 _ 0 rfl _ (by kernel_rfl)) ?_
  go_frame
  refine ls_ex (some 64) (.agg (u8s (segm r 0 9))) rfl rfl (exec_load_seg 51 _ rfl Wz2.heap.size (0) rfl _ (r) _ 9 hz11 Try.underlying51 rfl (by kernel_rfl) (by rw [hr.len]; omega) (segm r 0 9) rfl) ?_
  go_frame
  refine ls_op rfl (fun K' hK' => ?_)
  have lz21 := hB.size
  have lz22 := hz5.lt
  have lz23 := hz11.lt
  have lz24 := hz18.lt
  refine wp_call4 (some 65) rfl 100 _ _ _ _ _ rfl (fun args w => by kernel_rfl) _ _ _ _ rfl rfl rfl rfl _ (addedForm_c p t (segm q 0 9) (segm r 0 9) (segm_bytes hq (by omega)) (segm_bytes hr (by omega)) _ (by omega) (by omega) (by omega) (by omega)) (fun e Wz19 h => ?_)
  obtain ⟨rfl, bz20⟩ := h
  replace hB := below_after hB bz20
  replace hz5 := hz5.after bz20
  replace hz11 := hz11.after bz20
  replace hz18 := hz18.after bz20
  rw [HF.out]
  clear bz20
  refine ⟨_, rfl, ?_⟩
  refine hK' _ _ ?_
  clear hK' K'
  go_frame
  refine ls_ex (some 66) (.pointer (some ⟨w.heap.size, 0, none⟩)) rfl rfl (exec_fieldAddr 53 _ 0 rfl _ (by kernel_rfl)) ?_
  go_frame
  refine ls_op rfl (fun K' hK' => ?_)
  refine wp_store_u8s 51 _ _ rfl rfl w.heap.size (0) rfl (F) rfl _ _ hz5 9 (by kernel_rfl) HFb.out.len (by rw [hq.len]; omega) (fun Wz25 pz26 => ?_)
  replace hB := pz26.below hB (by omega)
  replace hz11 := pz26.other hz11 (by omega)
  replace hz18 := pz26.other hz18 (by omega)
  replace hz5 : At Wz25 w.heap.size (.cells (u8s (one)) 53 (0, 0)) := by have h9 := pz26.at_; rwa [HW.out] at h9
  refine hK' _ _ ?_
  clear hK' K' pz26
  refine wpList_nil ?_
  go_upto_region 8 with (fail)
  refine wp_region_lit ?_
  refine ls_ex (some 67) (.agg (u8s (one))) rfl rfl (exec_load_all 53 _ rfl w.heap.size rfl _ _ _ hz5 Try.underlying53 rfl 27 (by kernel_rfl) ((u8s_size _).trans HOb.out.len)) ?_
  go_frame
  refine ls_op rfl (fun K' hK' => ?_)
  refine wp_store_bytes 53 _ _ rfl rfl Wz8.heap.size rfl (one) rfl _ _ hz18 27 (by kernel_rfl) HOb.out.len (by simp) (fun Wz28 pz29 => ?_)
  replace hB := pz29.below hB (by omega)
  replace hz5 := pz29.other hz5 (by omega)
  replace hz11 := pz29.other hz11 (by omega)
  replace hz18 : At Wz28 Wz8.heap.size (.cells (u8s (one)) 53 (0, 0)) := pz29.at_
  refine hK' _ _ ?_
  clear hK' K' pz29
  refine ls_ex (some 9) (.bool true) rfl rfl (exec_assign _ rfl (.bool true) rfl) ?_
  go_frame
  refine wpList_nil ?_
  go_wp2_with fail
  refine bodyPost_ret (results_at2 rfl _ _ Wz8.heap.size _ _ _ rfl _ rfl hz18 Try.underlying53 rfl 27 (by kernel_rfl) ((u8s_size _).trans HOb.out.len)) rfl ?_
  exact ⟨by rw [HE.out]; rfl, hB⟩
set_option maxHeartbeats 4000000 in
theorem onePair_5 (p t : Int) (q r : List Nat) (hq : Bytes 27 q) (hr : Bytes 27 r) (w : World) (hp : 2 ≤ p ∧ p ≤ 5) (ht : 0 ≤ t ∧ t ≤ 5) (ha : segm q 0 9 ≠ segm r 0 9) (hb : segm q 9 9 = segm r 9 9) (hT : t = 0) :
    Calls Try.prog 65 #[.int .i64 p, .agg (u8s q), .agg (u8s r), .int .i64 t] w (fun e w' => e = .returned (unV (opF p t q r)) ∧ Below w.heap.size w w') := by
  have hB := Below.refl w.heap.size w
  have _u0 := ht
  have _u1 := hp
  clear _u0 _u1
  have HA : Hid ((segm q 0 9 == segm r 0 9) = false) := Lib.hid (by simp [ha])
  have HB : Hid ((segm q 9 9 == segm r 9 9) = true) := Lib.hid (by simp [hb])
  have HT : Hid ((t != 0) = false) := Lib.hid (by simp [hT])
  have HE : Hid (opF p t q r = none) := Lib.hid (by unfold opF; simp [ha, hb, hT])
  clear ha hb hT
  go_enter Try.func65, Try.ntmps65
  go_upto_region 0 with (fail)
  refine wp_region_lit ?_
  refine ls_op rfl (fun K' hK' => ?_)
  have lz1 := hB.size
  refine wp_new (some 5) rfl (exec_box 53 _ rfl (u8s (q)) rfl) (fun Wz2 nnz3 => ?_)
  have bz4 := nnz3.below (Below.refl _ _) (Nat.le_refl _)
  replace hB := below_after hB bz4
  have hz5 : At Wz2 w.heap.size (.cells (u8s (q)) 53 (0, 0)) := nnz3.at_
  refine hK' _ _ ?_
  clear hK' K' nnz3 bz4
  go_frame
  refine ls_op rfl (fun K' hK' => ?_)
  have lz6 := hB.size
  have lz7 := hz5.lt
  refine wp_new (some 6) rfl (exec_box 53 _ rfl (u8s (r)) rfl) (fun Wz8 nnz9 => ?_)
  have bz10 := nnz9.below (Below.refl _ _) (Nat.le_refl _)
  replace hB := below_after hB bz10
  replace hz5 := hz5.after bz10
  have hz11 : At Wz8 Wz2.heap.size (.cells (u8s (r)) 53 (0, 0)) := nnz9.at_
  refine hK' _ _ ?_
  clear hK' K' nnz9 bz10
  go_frame
  refine ls_op rfl (fun K' hK' => ?_)
  have lz12 := hB.size
  have lz13 := hz5.lt
  have lz14 := hz11.lt
  refine wp_new (some 8) rfl (alMr_impl_Product rfl) (fun Wz15 nnz16 => ?_)
  have bz17 := nnz16.below (Below.refl _ _) (Nat.le_refl _)
  replace hB := below_after hB bz17
  replace hz5 := hz5.after bz17
  replace hz11 := hz11.after bz17
  have hz18 : At Wz15 Wz8.heap.size (.cells (u8s (List.replicate 27 0)) 53 (0, 0)) := nnz16.at_
  refine hK' _ _ ?_
  clear hK' K' nnz16 bz17
  go_frame
  refine ls_ex (some 9) (.bool false) rfl rfl (exec_assign _ rfl (.bool false) rfl) ?_
  go_frame
  refine wpList_nil ?_
  go_upto_region 2 with (fail)
  refine wp_region_lit ?_
  refine ls_ex (some 12) (.pointer (some ⟨w.heap.size, 0, none⟩)) rfl rfl (exec_fieldAddr 53 _ 0 rfl _ (by kernel_rfl)) ?_
  go_frame
  refine ls_ex (some 13) (.agg (u8s (segm q 0 9))) rfl rfl (exec_load_seg 51 _ rfl w.heap.size (0) rfl _ (q) _ 9 hz5 Try.underlying51 rfl (by kernel_rfl) (by rw [hq.len]; omega) (segm q 0 9) rfl) ?_
  go_frame
  refine ls_ex (some 14) (.pointer (some ⟨Wz2.heap.size, 0, none⟩)) rfl rfl (exec_fieldAddr 53 _ 0 rfl _ (by kernel_rfl)) ?_
  go_frame
  refine ls_ex (some 15) (.agg (u8s (segm r 0 9))) rfl rfl (exec_load_seg 51 _ rfl Wz2.heap.size (0) rfl _ (r) _ 9 hz11 Try.underlying51 rfl (by kernel_rfl) (by rw [hr.len]; omega) (segm r 0 9) rfl) ?_
  go_frame
  refine ls_ex (some 16) (.bool false) rfl rfl (exec_eql_u8s_b 51 _ _ _ _ rfl 9 Try.underlying51 Try.underlying5 (by kernel_rfl) (by kernel_rfl) (segm q 0 9) (segm r 0 9) rfl rfl (segm_len (by rw [hq.len]; omega)) (segm_len (by rw [hr.len]; omega)) false HA.out) ?_
  go_frame
  refine ls_ex (some 17) (.bool false) rfl rfl (exec_move _ rfl (.bool false) rfl) ?_
  go_frame
  refine ls_skip_g (some 18) rfl rfl ?_
  go_frame
  refine ls_skip_g (some 19) rfl rfl ?_
  go_frame
  refine ls_skip_g (some 20) rfl rfl ?_
  go_frame
  refine ls_skip_g (some 21) rfl rfl ?_
  go_frame
  refine ls_skip_g (some 22) rfl rfl ?_
  go_frame
  refine ls_ex (some 23) (.bool false) rfl rfl (exec_pick _ _ _ rfl false rfl (.bool false) rfl) ?_
  go_frame
  refine ls_ex (some 11) (.bool false) rfl rfl (exec_assign _ rfl (.bool false) rfl) ?_
  go_frame
  refine wpList_nil ?_
  go_upto_region 4 with (fail)
  refine wp_region_lit ?_
  refine ls_ex (some 32) (.pointer (some ⟨w.heap.size, 0, none⟩)) rfl rfl (exec_fieldAddr 53 _ 0 rfl _ (by kernel_rfl)) ?_
  go_frame
  refine ls_ex (some 33) (.agg (u8s (segm q 0 9))) rfl rfl (exec_load_seg 51 _ rfl w.heap.size (0) rfl _ (q) _ 9 hz5 Try.underlying51 rfl (by kernel_rfl) (by rw [hq.len]; omega) (segm q 0 9) rfl) ?_
  go_frame
  refine ls_ex (some 34) (.pointer (some ⟨Wz2.heap.size, 0, none⟩)) rfl rfl (exec_fieldAddr 53 _ 0 rfl _ (by kernel_rfl)) ?_
  go_frame
  refine ls_ex (some 35) (.agg (u8s (segm r 0 9))) rfl rfl (exec_load_seg 51 _ rfl Wz2.heap.size (0) rfl _ (r) _ 9 hz11 Try.underlying51 rfl (by kernel_rfl) (by rw [hr.len]; omega) (segm r 0 9) rfl) ?_
  go_frame
  refine ls_ex (some 36) (.bool false) rfl rfl (exec_eql_u8s_b 51 _ _ _ _ rfl 9 Try.underlying51 Try.underlying5 (by kernel_rfl) (by kernel_rfl) (segm q 0 9) (segm r 0 9) rfl rfl (segm_len (by rw [hq.len]; omega)) (segm_len (by rw [hr.len]; omega)) false HA.out) ?_
  go_frame
  refine ls_ex (some 37) (.bool false) rfl rfl (exec_move _ rfl (.bool false) rfl) ?_
  go_frame
  refine ls_skip_g (some 38) rfl rfl ?_
  go_frame
  refine ls_skip_g (some 39) rfl rfl ?_
  go_frame
  refine ls_ex (some 40) (.bool false) rfl rfl (exec_pick _ _ _ rfl false rfl (.bool false) rfl) ?_
  go_frame
  refine ls_ex (some 31) (.bool false) rfl rfl (exec_assign _ rfl (.bool false) rfl) ?_
  go_frame
  refine wpList_nil ?_
  go_upto_region 6 with (fail)
  refine wp_region_lit ?_
  refine ls_ex (some 50) (.pointer (some ⟨w.heap.size, 9, none⟩)) rfl rfl (exec_fieldAddr 53 _ 1 rfl _ (by kernel_rfl)) ?_
  go_frame
  refine ls_ex (some 51) (.agg (u8s (segm q 9 9))) rfl rfl (exec_load_seg 51 _ rfl w.heap.size (9) rfl _ (q) _ 9 hz5 Try.underlying51 rfl (by kernel_rfl) (by rw [hq.len]; omega) (segm q 9 9) rfl) ?_
  go_frame
  refine ls_ex (some 52) (.pointer (some ⟨Wz2.heap.size, 9, none⟩)) rfl rfl (exec_fieldAddr 53 _ 1 rfl _ (by kernel_rfl)) ?_
  go_frame
  refine ls_ex (some 53) (.agg (u8s (segm r 9 9))) rfl rfl (exec_load_seg 51 _ rfl Wz2.heap.size (9) rfl _ (r) _ 9 hz11 Try.underlying51 rfl (by kernel_rfl) (by rw [hr.len]; omega) (segm r 9 9) rfl) ?_
  go_frame
  refine ls_ex (some 54) (.bool true) rfl rfl (exec_eql_u8s_b 51 _ _ _ _ rfl 9 Try.underlying51 Try.underlying5 (by kernel_rfl) (by kernel_rfl) (segm q 9 9) (segm r 9 9) rfl rfl (segm_len (by rw [hq.len]; omega)) (segm_len (by rw [hr.len]; omega)) true HB.out) ?_
  go_frame
  refine ls_ex (some 55) (.bool true) rfl rfl (exec_move _ rfl (.bool true) rfl) ?_
  go_frame
  refine ls_ex_g (some 56) (.int .i64 t) rfl rfl (exec_move _ rfl (.int .i64 t) rfl) ?_
  go_frame
  refine ls_ex_g (some 57) (.bool false) rfl rfl (exec_neq _ _ _ _ rfl t 0 rfl rfl false HT.out) ?_
  go_frame
  refine ls_ex (some 58) (.bool false) rfl rfl (exec_pick _ _ _ rfl true rfl (.bool false) rfl) ?_
  go_frame
  refine ls_ex (some 49) (.bool false) rfl rfl (exec_assign _ rfl (.bool false) rfl) ?_
  go_frame
  refine wpList_nil ?_
  go_upto_region 1 with (fail)
  refine wp_region_lit ?_
  refine ls_ex (some 10) (.agg (u8s (List.replicate 27 0))) rfl rfl (exec_build_nil 53 rfl _ (by kernel_rfl)) ?_
  go_frame
  refine ls_op rfl (fun K' hK' => ?_)
  refine wp_store_bytes 53 _ _ rfl rfl Wz8.heap.size rfl (List.replicate 27 0) rfl _ _ hz18 27 (by kernel_rfl) (by simp) (by simp) (fun Wz19 pz20 => ?_)
  replace hB := pz20.below hB (by omega)
  replace hz5 := pz20.other hz5 (by omega)
  replace hz11 := pz20.other hz11 (by omega)
  replace hz18 : At Wz19 Wz8.heap.size (.cells (u8s (List.replicate 27 0)) 53 (0, 0)) := pz20.at_
  refine hK' _ _ ?_
  clear hK' K' pz20
  refine ls_ex (some 9) (.bool false) rfl rfl (exec_assign _ rfl (.bool false) rfl) ?_
  go_frame
  refine wpList_nil ?_
  go_wp2_with fail
  refine bodyPost_ret (results_at2 rfl _ _ Wz8.heap.size _ _ _ rfl _ rfl hz18 Try.underlying53 rfl 27 (by kernel_rfl) ((u8s_size _).trans (by simp))) rfl ?_
  exact ⟨by rw [HE.out]; rfl, hB⟩
set_option maxHeartbeats 4000000 in
theorem onePair_6 (p t : Int) (q r : List Nat) (hq : Bytes 27 q) (hr : Bytes 27 r) (w : World) (hp : 2 ≤ p ∧ p ≤ 5) (ht : 0 ≤ t ∧ t ≤ 5) (ha : segm q 0 9 ≠ segm r 0 9) (hb : segm q 9 9 ≠ segm r 9 9) :
    Calls Try.prog 65 #[.int .i64 p, .agg (u8s q), .agg (u8s r), .int .i64 t] w (fun e w' => e = .returned (unV (opF p t q r)) ∧ Below w.heap.size w w') := by
  have hB := Below.refl w.heap.size w
  have _u0 := ht
  have _u1 := hp
  clear _u0 _u1
  have HA : Hid ((segm q 0 9 == segm r 0 9) = false) := Lib.hid (by simp [ha])
  have HB : Hid ((segm q 9 9 == segm r 9 9) = false) := Lib.hid (by simp [hb])
  have HE : Hid (opF p t q r = none) := Lib.hid (by unfold opF; simp [ha, hb])
  clear ha hb
  go_enter Try.func65, Try.ntmps65
  go_upto_region 0 with (fail)
  refine wp_region_lit ?_
  refine ls_op rfl (fun K' hK' => ?_)
  have lz1 := hB.size
  refine wp_new (some 5) rfl (exec_box 53 _ rfl (u8s (q)) rfl) (fun Wz2 nnz3 => ?_)
  have bz4 := nnz3.below (Below.refl _ _) (Nat.le_refl _)
  replace hB := below_after hB bz4
  have hz5 : At Wz2 w.heap.size (.cells (u8s (q)) 53 (0, 0)) := nnz3.at_
  refine hK' _ _ ?_
  clear hK' K' nnz3 bz4
  go_frame
  refine ls_op rfl (fun K' hK' => ?_)
  have lz6 := hB.size
  have lz7 := hz5.lt
  refine wp_new (some 6) rfl (exec_box 53 _ rfl (u8s (r)) rfl) (fun Wz8 nnz9 => ?_)
  have bz10 := nnz9.below (Below.refl _ _) (Nat.le_refl _)
  replace hB := below_after hB bz10
  replace hz5 := hz5.after bz10
  have hz11 : At Wz8 Wz2.heap.size (.cells (u8s (r)) 53 (0, 0)) := nnz9.at_
  refine hK' _ _ ?_
  clear hK' K' nnz9 bz10
  go_frame
  refine ls_op rfl (fun K' hK' => ?_)
  have lz12 := hB.size
  have lz13 := hz5.lt
  have lz14 := hz11.lt
  refine wp_new (some 8) rfl (alMr_impl_Product rfl) (fun Wz15 nnz16 => ?_)
  have bz17 := nnz16.below (Below.refl _ _) (Nat.le_refl _)
  replace hB := below_after hB bz17
  replace hz5 := hz5.after bz17
  replace hz11 := hz11.after bz17
  have hz18 : At Wz15 Wz8.heap.size (.cells (u8s (List.replicate 27 0)) 53 (0, 0)) := nnz16.at_
  refine hK' _ _ ?_
  clear hK' K' nnz16 bz17
  go_frame
  refine ls_ex (some 9) (.bool false) rfl rfl (exec_assign _ rfl (.bool false) rfl) ?_
  go_frame
  refine wpList_nil ?_
  go_upto_region 2 with (fail)
  refine wp_region_lit ?_
  refine ls_ex (some 12) (.pointer (some ⟨w.heap.size, 0, none⟩)) rfl rfl (exec_fieldAddr 53 _ 0 rfl _ (by kernel_rfl)) ?_
  go_frame
  refine ls_ex (some 13) (.agg (u8s (segm q 0 9))) rfl rfl (exec_load_seg 51 _ rfl w.heap.size (0) rfl _ (q) _ 9 hz5 Try.underlying51 rfl (by kernel_rfl) (by rw [hq.len]; omega) (segm q 0 9) rfl) ?_
  go_frame
  refine ls_ex (some 14) (.pointer (some ⟨Wz2.heap.size, 0, none⟩)) rfl rfl (exec_fieldAddr 53 _ 0 rfl _ (by kernel_rfl)) ?_
  go_frame
  refine ls_ex (some 15) (.agg (u8s (segm r 0 9))) rfl rfl (exec_load_seg 51 _ rfl Wz2.heap.size (0) rfl _ (r) _ 9 hz11 Try.underlying51 rfl (by kernel_rfl) (by rw [hr.len]; omega) (segm r 0 9) rfl) ?_
  go_frame
  refine ls_ex (some 16) (.bool false) rfl rfl (exec_eql_u8s_b 51 _ _ _ _ rfl 9 Try.underlying51 Try.underlying5 (by kernel_rfl) (by kernel_rfl) (segm q 0 9) (segm r 0 9) rfl rfl (segm_len (by rw [hq.len]; omega)) (segm_len (by rw [hr.len]; omega)) false HA.out) ?_
  go_frame
  refine ls_ex (some 17) (.bool false) rfl rfl (exec_move _ rfl (.bool false) rfl) ?_
  go_frame
  refine ls_skip_g (some 18) rfl rfl ?_
  go_frame
  refine ls_skip_g (some 19) rfl rfl ?_
  go_frame
  refine ls_skip_g (some 20) rfl rfl ?_
  go_frame
  refine ls_skip_g (some 21) rfl rfl ?_
  go_frame
  refine ls_skip_g (some 22) rfl rfl ?_
  go_frame
  refine ls_ex (some 23) (.bool false) rfl rfl (exec_pick _ _ _ rfl false rfl (.bool false) rfl) ?_
  go_frame
  refine ls_ex (some 11) (.bool false) rfl rfl (exec_assign _ rfl (.bool false) rfl) ?_
  go_frame
  refine wpList_nil ?_
  go_upto_region 4 with (fail)
  refine wp_region_lit ?_
  refine ls_ex (some 32) (.pointer (some ⟨w.heap.size, 0, none⟩)) rfl rfl (exec_fieldAddr 53 _ 0 rfl _ (by kernel_rfl)) ?_
  go_frame
  refine ls_ex (some 33) (.agg (u8s (segm q 0 9))) rfl rfl (exec_load_seg 51 _ rfl w.heap.size (0) rfl _ (q) _ 9 hz5 Try.underlying51 rfl (by kernel_rfl) (by rw [hq.len]; omega) (segm q 0 9) rfl) ?_
  go_frame
  refine ls_ex (some 34) (.pointer (some ⟨Wz2.heap.size, 0, none⟩)) rfl rfl (exec_fieldAddr 53 _ 0 rfl _ (by kernel_rfl)) ?_
  go_frame
  refine ls_ex (some 35) (.agg (u8s (segm r 0 9))) rfl rfl (exec_load_seg 51 _ rfl Wz2.heap.size (0) rfl _ (r) _ 9 hz11 Try.underlying51 rfl (by kernel_rfl) (by rw [hr.len]; omega) (segm r 0 9) rfl) ?_
  go_frame
  refine ls_ex (some 36) (.bool false) rfl rfl (exec_eql_u8s_b 51 _ _ _ _ rfl 9 Try.underlying51 Try.underlying5 (by kernel_rfl) (by kernel_rfl) (segm q 0 9) (segm r 0 9) rfl rfl (segm_len (by rw [hq.len]; omega)) (segm_len (by rw [hr.len]; omega)) false HA.out) ?_
  go_frame
  refine ls_ex (some 37) (.bool false) rfl rfl (exec_move _ rfl (.bool false) rfl) ?_
  go_frame
  refine ls_skip_g (some 38) rfl rfl ?_
  go_frame
  refine ls_skip_g (some 39) rfl rfl ?_
  go_frame
  refine ls_ex (some 40) (.bool false) rfl rfl (exec_pick _ _ _ rfl false rfl (.bool false) rfl) ?_
  go_frame
  refine ls_ex (some 31) (.bool false) rfl rfl (exec_assign _ rfl (.bool false) rfl) ?_
  go_frame
  refine wpList_nil ?_
  go_upto_region 6 with (fail)
  refine wp_region_lit ?_
  refine ls_ex (some 50) (.pointer (some ⟨w.heap.size, 9, none⟩)) rfl rfl (exec_fieldAddr 53 _ 1 rfl _ (by kernel_rfl)) ?_
  go_frame
  refine ls_ex (some 51) (.agg (u8s (segm q 9 9))) rfl rfl (exec_load_seg 51 _ rfl w.heap.size (9) rfl _ (q) _ 9 hz5 Try.underlying51 rfl (by kernel_rfl) (by rw [hq.len]; omega) (segm q 9 9) rfl) ?_
  go_frame
  refine ls_ex (some 52) (.pointer (some ⟨Wz2.heap.size, 9, none⟩)) rfl rfl (exec_fieldAddr 53 _ 1 rfl _ (by kernel_rfl)) ?_
  go_frame
  refine ls_ex (some 53) (.agg (u8s (segm r 9 9))) rfl rfl (exec_load_seg 51 _ rfl Wz2.heap.size (9) rfl _ (r) _ 9 hz11 Try.underlying51 rfl (by kernel_rfl) (by rw [hr.len]; omega) (segm r 9 9) rfl) ?_
  go_frame
  refine ls_ex (some 54) (.bool false) rfl rfl (exec_eql_u8s_b 51 _ _ _ _ rfl 9 Try.underlying51 Try.underlying5 (by kernel_rfl) (by kernel_rfl) (segm q 9 9) (segm r 9 9) rfl rfl (segm_len (by rw [hq.len]; omega)) (segm_len (by rw [hr.len]; omega)) false HB.out) ?_
  go_frame
  refine ls_ex (some 55) (.bool false) rfl rfl (exec_move _ rfl (.bool false) rfl) ?_
  go_frame
  refine ls_skip_g (some 56) rfl rfl ?_
  go_frame
  refine ls_skip_g (some 57) rfl rfl ?_
  go_frame
  refine ls_ex (some 58) (.bool false) rfl rfl (exec_pick _ _ _ rfl false rfl (.bool false) rfl) ?_
  go_frame
  refine ls_ex (some 49) (.bool false) rfl rfl (exec_assign _ rfl (.bool false) rfl) ?_
  go_frame
  refine wpList_nil ?_
  go_upto_region 1 with (fail)
  refine wp_region_lit ?_
  refine ls_ex (some 10) (.agg (u8s (List.replicate 27 0))) rfl rfl (exec_build_nil 53 rfl _ (by kernel_rfl)) ?_
  go_frame
  refine ls_op rfl (fun K' hK' => ?_)
  refine wp_store_bytes 53 _ _ rfl rfl Wz8.heap.size rfl (List.replicate 27 0) rfl _ _ hz18 27 (by kernel_rfl) (by simp) (by simp) (fun Wz19 pz20 => ?_)
  replace hB := pz20.below hB (by omega)
  replace hz5 := pz20.other hz5 (by omega)
  replace hz11 := pz20.other hz11 (by omega)
  replace hz18 : At Wz19 Wz8.heap.size (.cells (u8s (List.replicate 27 0)) 53 (0, 0)) := pz20.at_
  refine hK' _ _ ?_
  clear hK' K' pz20
  refine ls_ex (some 9) (.bool false) rfl rfl (exec_assign _ rfl (.bool false) rfl) ?_
  go_frame
  refine wpList_nil ?_
  go_wp2_with fail
  refine bodyPost_ret (results_at2 rfl _ _ Wz8.heap.size _ _ _ rfl _ rfl hz18 Try.underlying53 rfl 27 (by kernel_rfl) ((u8s_size _).trans (by simp))) rfl ?_
  exact ⟨by rw [HE.out]; rfl, hB⟩
theorem onePair_c (p t : Int) (q r : List Nat) (hq : Bytes 27 q) (hr : Bytes 27 r) (w : World) (hp : 2 ≤ p ∧ p ≤ 5) (ht : 0 ≤ t ∧ t ≤ 5) : Calls Try.prog 65 #[.int .i64 p, .agg (u8s q), .agg (u8s r), .int .i64 t] w (fun e w' => e = .returned (unV (opF p t q r)) ∧ Below w.heap.size w w') := by
  by_cases ha : segm q 0 9 = segm r 0 9
  · by_cases hb : segm q 9 9 = segm r 9 9
    · exact onePair_1 p t q r hq hr w hp ht ha hb
    · by_cases hT : t = 0
      · exact onePair_3 p t q r hq hr w hp ht ha hb hT
      · exact onePair_2 p t q r hq hr w hp ht ha hb hT
  · by_cases hb : segm q 9 9 = segm r 9 9
    · by_cases hT : t = 0
      · exact onePair_5 p t q r hq hr w hp ht ha hb hT
      · exact onePair_4 p t q r hq hr w hp ht ha hb hT
    · exact onePair_6 p t q r hq hr w hp ht ha hb
end Go.Proofs.Ytemkhlokpinecaa
