/-
  TurnMethod of both sides. (Made by mkmt4.py.)
-/
import Derived.Test.YtkjdlmeolnohbaaMt3
namespace Go.Proofs.Ytkjdlmeolnohbaa
open Go.RowKit
set_option maxRecDepth 100000
attribute [local irreducible] wpList

/-- A product turned. -/
def turQ (q : List Nat) : List Nat := cat3 (segm q 9 9) (segm q 18 9) (segm q 0 9)
theorem turQ_bytes {q : List Nat} (h : Bytes 27 q) : Bytes 27 (turQ q) := bytes3 (segm_bytes h (by omega)) (segm_bytes h (by omega)) (segm_bytes h (by omega))
theorem mt_len {f : List Nat → List Nat} {qs : List (List Nat)} {a : Nat} (h : a ≤ qs.length) : ((qs.take a).map f).length = a := by simp; omega
theorem mt_step {f : List Nat → List Nat} {qs : List (List Nat)} {a : Nat} (h : a < qs.length) : (qs.take a).map f ++ [f qs[a]] = (qs.take (a + 1)).map f := by
  rw [List.take_succ_eq_append_getElem h, List.map_append]
  rfl
/-- The first products turned, the others as they were. -/
def mixT (qs : List (List Nat)) (a : Nat) : List (List Nat) := (qs.take a).map turQ ++ qs.drop a
theorem mixT_len {qs : List (List Nat)} {a : Nat} (h : a ≤ qs.length) : (mixT qs a).length = qs.length := by simp [mixT]; omega
theorem mixT_get {qs : List (List Nat)} {a : Nat} (h : a < qs.length) (h2 : a < (mixT qs a).length) : (mixT qs a)[a] = qs[a] := by
  simp [mixT, List.getElem_append_right, Nat.min_eq_left (Nat.le_of_lt h)]
theorem mixT_set {qs : List (List Nat)} {a : Nat} (h : a < qs.length) : (mixT qs a).set a (turQ qs[a]) = mixT qs (a + 1) := by
  unfold mixT
  have hl : ((qs.take a).map turQ).length = a := mt_len (by omega)
  rw [List.set_append_right _ _ (by omega), hl, Nat.sub_self, List.drop_eq_getElem_cons h, List.set_cons_zero, ← mt_step h, List.append_assoc]
  rfl
theorem mixT_bytes {qs : List (List Nat)} (a : Nat) (h : ∀ q ∈ qs, Bytes 27 q) : ∀ q ∈ mixT qs a, Bytes 27 q := fun q hq => by
  unfold mixT at hq
  rcases List.mem_append.1 hq with hq | hq
  · obtain ⟨r, hr, rfl⟩ := List.mem_map.1 hq
    exact turQ_bytes (h r (List.mem_of_mem_take hr))
  · exact h q (List.mem_of_mem_drop hq)
theorem mixT_all (qs : List (List Nat)) : mixT qs qs.length = qs.map turQ := by simp [mixT]
theorem mixT_zero (qs : List (List Nat)) : mixT qs 0 = qs := by simp [mixT]
def tuCode (p i j k : Int) (qs : List (List Nat)) : Int := if methB p i j k qs = true then 0 else 1
theorem tu_bytes {p i j k : Int} {qs : List (List Nat)} (h : ∀ q ∈ qs, Bytes 27 q) : ∀ r ∈ hL (tuCode p i j k qs) (qs.map turQ), Bytes 27 r := hL_bytes fun _ r hr => by
  obtain ⟨q, hq, rfl⟩ := List.mem_map.1 hr
  exact turQ_bytes (h q hq)
theorem tu_len {p i j k : Int} {qs : List (List Nat)} : (hL (tuCode p i j k qs) (qs.map turQ)).length ≤ 1048576 := hL_len fun h => by
  unfold tuCode at h
  split at h
  · next h2 =>
    have := (methB_parts h2).2.2.2.2.1
    rw [List.length_map]
    omega
  · omega
def mosCode (p n m k : Int) (qs : List (List Nat)) : Int := if schemeB p n m k qs = true then 0 else 1
theorem mos_bytes {p n m k : Int} {qs : List (List Nat)} (h : ∀ q ∈ qs, Bytes 27 q) : ∀ r ∈ hL (mosCode p n m k qs) qs, Bytes 27 r := hL_bytes fun _ => h
theorem mos_len {p n m k : Int} {qs : List (List Nat)} : (hL (mosCode p n m k qs) qs).length ≤ 1048576 := hL_len fun h => by
  unfold mosCode at h
  split at h
  · next h2 => have := schemeB_len h2; omega
  · omega
set_option maxHeartbeats 4000000 in
theorem specTurn_no (p i j k : Int) (A : Option Addr) (c : Nat) (qs : List (List Nat)) (w : World) (hR : Rd w A qs) (hlen : qs.length ≤ 1048576) (hs : methB p i j k qs = false) :
    Calls Try.prog 12 #[.agg #[.int .i64 p, .int .i64 i, .int .i64 j, .int .i64 k, .slice A qs.length c]] w (ResH w (hZ (tuCode p i j k qs) p) (hZ (tuCode p i j k qs) j) (hZ (tuCode p i j k qs) k) (hZ (tuCode p i j k qs) i) (hL (tuCode p i j k qs) (qs.map turQ)) (tuCode p i j k qs)) := by
  have hB := Below.refl w.heap.size w
  have HC : Hid (tuCode p i j k qs = 1) := Lib.hid (by unfold tuCode; rw [hs]; rfl)
  have Hs := Lib.hid hs
  clear hs
  go_enter Try.func12, Try.ntmps12
  go_upto_region 0 with (fail)
  refine wp_region_lit ?_
  refine ls_op rfl (fun K' hK' => ?_)
  have lz1 := hB.size
  refine wp_new (some 1) rfl (exec_box 29 _ rfl (#[.int .i64 p, .int .i64 i, .int .i64 j, .int .i64 k, .slice A qs.length c]) rfl) (fun Wz2 nnz3 => ?_)
  have bz4 := nnz3.below (Below.refl _ _) (Nat.le_refl _)
  replace hB := below_after hB bz4
  have hz5 : At Wz2 w.heap.size (.cells #[.int .i64 p, .int .i64 i, .int .i64 j, .int .i64 k, .slice A qs.length c] 29 (0, 0)) := nnz3.at_
  refine hK' _ _ ?_
  clear hK' K' nnz3 bz4
  go_frame
  refine ls_op rfl (fun K' hK' => ?_)
  have lz6 := hB.size
  have lz7 := hz5.lt
  refine wp_new (some 2) rfl (al_impl_Method rfl) (fun Wz8 nnz9 => ?_)
  have bz10 := nnz9.below (Below.refl _ _) (Nat.le_refl _)
  replace hB := below_after hB bz10
  replace hz5 := hz5.after bz10
  have hz11 : At Wz8 Wz2.heap.size (.cells #[.int .i64 0, .int .i64 0, .int .i64 0, .int .i64 0, .slice none 0 0] 29 (0, 0)) := nnz9.at_
  refine hK' _ _ ?_
  clear hK' K' nnz9 bz10
  go_frame
  refine ls_ex (some 3) (.int .i64 0) rfl rfl (exec_assign _ rfl (.int .i64 0) rfl) ?_
  go_frame
  refine wpList_nil ?_
  go_upto_region 1 with (fail)
  refine wp_region_lit ?_
  refine ls_ex (some 7) (.agg #[.int .i64 p, .int .i64 i, .int .i64 j, .int .i64 k, .slice A qs.length c]) rfl rfl (exec_load_all 29 _ rfl w.heap.size rfl _ _ _ hz5 Try.underlying29 rfl 5 (by kernel_rfl) rfl) ?_
  go_frame
  refine ls_op rfl (fun K' hK' => ?_)
  have lz14 := hB.size
  have lz15 := hz5.lt
  have lz16 := hz11.lt
  refine wp_call1 (some 8) rfl 28 _ _ rfl (fun args w => by kernel_rfl) _ rfl _ (l09Is_c p i j k A c qs _ (hR.keep hB) hlen) (fun e Wz12 h => ?_)
  obtain ⟨rfl, bz13⟩ := h
  replace hB := below_after hB bz13
  replace hz5 := hz5.after bz13
  replace hz11 := hz11.after bz13
  rw [Hs.out]
  clear bz13
  refine ⟨_, rfl, ?_⟩
  refine hK' _ _ ?_
  clear hK' K'
  go_frame
  refine ls_ex (some 9) (.bool true) rfl rfl (exec_not _ _ rfl false rfl) ?_
  go_frame
  refine wpList_nil ?_
  go_upto_region 2 with (fail)
  refine wp_region_lit ?_
  refine ls_ex (some 10) (.agg #[.int .i64 0, .int .i64 0, .int .i64 0, .int .i64 0, .slice none 0 0]) rfl rfl (exec_build_nil 29 rfl _ (by kernel_rfl)) ?_
  go_frame
  refine ls_op rfl (fun K' hK' => ?_)
  refine wp_store_all 29 _ _ rfl rfl Wz2.heap.size rfl #[.int .i64 0, .int .i64 0, .int .i64 0, .int .i64 0, .slice none 0 0] rfl _ _ hz11 5 (by kernel_rfl) rfl rfl (one5 _ _ _ _ _ _ _) (fun Wz17 pz18 => ?_)
  replace hB := pz18.below hB (by omega)
  replace hz5 := pz18.other hz5 (by omega)
  replace hz11 : At Wz17 Wz2.heap.size (.cells #[.int .i64 0, .int .i64 0, .int .i64 0, .int .i64 0, .slice none 0 0] 29 (0, 0)) := pz18.at_
  refine hK' _ _ ?_
  clear hK' K' pz18
  refine ls_ex (some 3) (.int .i64 1) rfl rfl (exec_assign _ rfl (.int .i64 1) rfl) ?_
  go_frame
  refine wpList_nil ?_
  go_wp2_with fail
  refine bodyPost_ret (results_at2 rfl _ _ Wz2.heap.size _ _ _ rfl _ rfl hz11 Try.underlying29 rfl 5 (by kernel_rfl) rfl) rfl ?_
  unfold ResH hZ hL
  rw [HC.out]
  exact ⟨_, rfl, Own.nil _ _, hB⟩
set_option maxHeartbeats 12800000 in
theorem specTurn_yes (p i j k : Int) (A : Option Addr) (c : Nat) (qs : List (List Nat)) (w : World) (hR : Rd w A qs) (hlen : qs.length ≤ 1048576) (hs : methB p i j k qs = true) :
    Calls Try.prog 12 #[.agg #[.int .i64 p, .int .i64 i, .int .i64 j, .int .i64 k, .slice A qs.length c]] w (ResH w (hZ (tuCode p i j k qs) p) (hZ (tuCode p i j k qs) j) (hZ (tuCode p i j k qs) k) (hZ (tuCode p i j k qs) i) (hL (tuCode p i j k qs) (qs.map turQ)) (tuCode p i j k qs)) := by
  have hB := Below.refl w.heap.size w
  have HC : Hid (tuCode p i j k qs = 0) := Lib.hid (by unfold tuCode; rw [hs]; rfl)
  have Hs := Lib.hid hs
  have hl30 := (methB_parts hs).2.2.2.2.1
  clear hs
  go_enter Try.func12, Try.ntmps12
  go_upto_region 0 with (fail)
  refine wp_region_lit ?_
  refine ls_op rfl (fun K' hK' => ?_)
  have lz1 := hB.size
  refine wp_new (some 1) rfl (exec_box 29 _ rfl (#[.int .i64 p, .int .i64 i, .int .i64 j, .int .i64 k, .slice A qs.length c]) rfl) (fun Wz2 nnz3 => ?_)
  have bz4 := nnz3.below (Below.refl _ _) (Nat.le_refl _)
  replace hB := below_after hB bz4
  have hz5 : At Wz2 w.heap.size (.cells #[.int .i64 p, .int .i64 i, .int .i64 j, .int .i64 k, .slice A qs.length c] 29 (0, 0)) := nnz3.at_
  refine hK' _ _ ?_
  clear hK' K' nnz3 bz4
  go_frame
  refine ls_op rfl (fun K' hK' => ?_)
  have lz6 := hB.size
  have lz7 := hz5.lt
  refine wp_new (some 2) rfl (al_impl_Method rfl) (fun Wz8 nnz9 => ?_)
  have bz10 := nnz9.below (Below.refl _ _) (Nat.le_refl _)
  replace hB := below_after hB bz10
  replace hz5 := hz5.after bz10
  have hz11 : At Wz8 Wz2.heap.size (.cells #[.int .i64 0, .int .i64 0, .int .i64 0, .int .i64 0, .slice none 0 0] 29 (0, 0)) := nnz9.at_
  refine hK' _ _ ?_
  clear hK' K' nnz9 bz10
  go_frame
  refine ls_ex (some 3) (.int .i64 0) rfl rfl (exec_assign _ rfl (.int .i64 0) rfl) ?_
  go_frame
  refine wpList_nil ?_
  go_upto_region 1 with (fail)
  refine wp_region_lit ?_
  refine ls_ex (some 7) (.agg #[.int .i64 p, .int .i64 i, .int .i64 j, .int .i64 k, .slice A qs.length c]) rfl rfl (exec_load_all 29 _ rfl w.heap.size rfl _ _ _ hz5 Try.underlying29 rfl 5 (by kernel_rfl) rfl) ?_
  go_frame
  refine ls_op rfl (fun K' hK' => ?_)
  have lz14 := hB.size
  have lz15 := hz5.lt
  have lz16 := hz11.lt
  refine wp_call1 (some 8) rfl 28 _ _ rfl (fun args w => by kernel_rfl) _ rfl _ (l09Is_c p i j k A c qs _ (hR.keep hB) hlen) (fun e Wz12 h => ?_)
  obtain ⟨rfl, bz13⟩ := h
  replace hB := below_after hB bz13
  replace hz5 := hz5.after bz13
  replace hz11 := hz11.after bz13
  rw [Hs.out]
  clear bz13
  refine ⟨_, rfl, ?_⟩
  refine hK' _ _ ?_
  clear hK' K'
  go_frame
  refine ls_ex (some 9) (.bool false) rfl rfl (exec_not _ _ rfl true rfl) ?_
  go_frame
  refine wpList_nil ?_
  go_upto_region 3 with (fail)
  refine wp_region_lit ?_
  refine ls_ex (some 11) (.pointer (some ⟨w.heap.size, 0, none⟩)) rfl rfl (exec_fieldAddr 29 _ 0 rfl _ (by kernel_rfl)) ?_
  go_frame
  refine ls_ex (some 12) (.int .i64 p) rfl rfl (exec_load_one 2 _ rfl w.heap.size 0 rfl (.int .i64 p) _ Try.underlying2 rfl (hz5.at_ 0)) ?_
  go_frame
  refine ls_ex (some 13) (.pointer (some ⟨w.heap.size, 2, none⟩)) rfl rfl (exec_fieldAddr 29 _ 2 rfl _ (by kernel_rfl)) ?_
  go_frame
  refine ls_ex (some 14) (.int .i64 j) rfl rfl (exec_load_one 2 _ rfl w.heap.size 2 rfl (.int .i64 j) _ Try.underlying2 rfl (hz5.at_ 2)) ?_
  go_frame
  refine ls_ex (some 15) (.pointer (some ⟨w.heap.size, 3, none⟩)) rfl rfl (exec_fieldAddr 29 _ 3 rfl _ (by kernel_rfl)) ?_
  go_frame
  refine ls_ex (some 16) (.int .i64 k) rfl rfl (exec_load_one 2 _ rfl w.heap.size 3 rfl (.int .i64 k) _ Try.underlying2 rfl (hz5.at_ 3)) ?_
  go_frame
  refine ls_ex (some 17) (.pointer (some ⟨w.heap.size, 1, none⟩)) rfl rfl (exec_fieldAddr 29 _ 1 rfl _ (by kernel_rfl)) ?_
  go_frame
  refine ls_ex (some 18) (.int .i64 i) rfl rfl (exec_load_one 2 _ rfl w.heap.size 1 rfl (.int .i64 i) _ Try.underlying2 rfl (hz5.at_ 1)) ?_
  go_frame
  refine ls_op rfl (fun K' hK' => ?_)
  have lz21 := hB.size
  have lz22 := hz5.lt
  have lz23 := hz11.lt
  refine wp_new (some 19) rfl (exec_bs0 rfl) (fun Wz18 nnz19 => ?_)
  have bz20 := nnz19.below (Below.refl _ _) (Nat.le_refl _)
  replace hB := below_after hB bz20
  replace hz5 := hz5.after bz20
  replace hz11 := hz11.after bz20
  have hoz17 : Own Wz18 Wz12.heap.size (.slice (some ⟨Wz12.heap.size, 0, none⟩) 0 0) [] := own_bs0 nnz19
  refine hK' _ _ ?_
  clear hK' K' nnz19 bz20
  go_frame
  refine ls_ex (some 20) (.agg #[.int .i64 p, .int .i64 j, .int .i64 k, .int .i64 i, .slice (some ⟨Wz12.heap.size, 0, none⟩) 0 0]) rfl rfl (exec_build_meth _ _ _ _ _ rfl p j k i ((some ⟨Wz12.heap.size, 0, none⟩)) 0 0 rfl rfl rfl rfl rfl) ?_
  go_frame
  refine ls_op rfl (fun K' hK' => ?_)
  have lz24 := hB.size
  have lz25 := hz5.lt
  have lz26 := hz11.lt
  have lz27 : Wz12.heap.size < Wz18.heap.size := (hoz17.lt rfl).2
  have lz28 : Wz12.heap.size ≤ Wz12.heap.size := (hoz17.lt rfl).1
  have naz33 := hoz17.away_new
  refine wp_new (some 4) rfl (al_impl_Method rfl) (fun Wz29 nnz30 => ?_)
  have bz31 := nnz30.below (Below.refl _ _) (Nat.le_refl _)
  replace hB := below_after hB bz31
  replace hz5 := hz5.after bz31
  replace hz11 := hz11.after bz31
  replace hoz17 := hoz17.below bz31
  have hz32 : At Wz29 Wz18.heap.size (.cells #[.int .i64 0, .int .i64 0, .int .i64 0, .int .i64 0, .slice none 0 0] 29 (0, 0)) := nnz30.at_
  refine hK' _ _ ?_
  clear hK' K' nnz30 bz31
  go_frame
  refine ls_op rfl (fun K' hK' => ?_)
  refine wp_store_all 29 _ _ rfl rfl Wz18.heap.size rfl #[.int .i64 p, .int .i64 j, .int .i64 k, .int .i64 i, .slice (some ⟨Wz12.heap.size, 0, none⟩) 0 0] rfl _ _ hz32 5 (by kernel_rfl) rfl rfl (one5 _ _ _ _ _ _ _) (fun Wz34 pz35 => ?_)
  replace hB := pz35.below hB (by omega)
  replace hz5 := pz35.other hz5 (by omega)
  replace hz11 := pz35.other hz11 (by omega)
  replace hoz17 := hoz17.put pz35 naz33
  replace hz32 : At Wz34 Wz18.heap.size (.cells #[.int .i64 p, .int .i64 j, .int .i64 k, .int .i64 i, .slice (some ⟨Wz12.heap.size, 0, none⟩) 0 0] 29 (0, 0)) := pz35.at_
  refine hK' _ _ ?_
  clear hK' K' pz35
  refine wpList_nil ?_
  go_upto_region 4 with (fail)
  refine wp_region_lit ?_
  refine ls_ex (some 5) (.int .i64 0) rfl rfl (exec_assign _ rfl (.int .i64 0) rfl) ?_
  go_frame
  refine wpList_nil ?_
  go_wp2_with fail
  go_loopw [5] (fun s5 wr => ∃ (a : Nat) (v : Value), a ≤ qs.length ∧ s5 = .int .i64 a ∧ Below w.heap.size w wr ∧ At wr w.heap.size (.cells #[.int .i64 p, .int .i64 i, .int .i64 j, .int .i64 k, .slice A qs.length c] 29 (0, 0)) ∧ At wr Wz2.heap.size (.cells #[.int .i64 0, .int .i64 0, .int .i64 0, .int .i64 0, .slice none 0 0] 29 (0, 0)) ∧ At wr Wz18.heap.size (.cells #[.int .i64 p, .int .i64 j, .int .i64 k, .int .i64 i, v] 29 (0, 0)) ∧ Own wr w.heap.size v ((qs.take a).map turQ)) (fun s5 _ => qs.length - (intOf s5).toNat)
  case atStart => exact ⟨0, _, by omega, rfl, hB, hz5, hz11, hz32, hoz17.mono (by omega)⟩
  case round =>
    clear hB hz5 hz11 hoz17 hz32
    obtain ⟨a, v, ha, rfl, hB, h0, h1, h2, ho⟩ := hrel
    by_cases hlt : a < qs.length
    · obtain ⟨b, off, rfl, hc⟩ := (hR.keep hB).at_ hlt
      clear hc
      have hq := hR.good _ (List.getElem_mem hlt)
      have Hq27 := Lib.hid hq.len
      obtain ⟨A9, c9, rfl⟩ := Own.rdN2 ho (n := a) (mt_len ha)
      have HT : Hid ((qs.take a).map turQ ++ [turQ qs[a]] = (qs.take (a + 1)).map turQ) := Lib.hid (mt_step hlt)
      go_upto_region 5 with (fail)
      refine wp_region_lit ?_
      refine ls_ex (some 21) (.int .i64 a) rfl rfl (exec_move _ rfl (.int .i64 a) rfl) ?_
      go_frame
      refine ls_ex (some 22) (.pointer (some ⟨w.heap.size, 4, none⟩)) rfl rfl (exec_fieldAddr 29 _ 4 rfl _ (by kernel_rfl)) ?_
      go_frame
      refine ls_ex (some 23) (.slice (some ⟨b, off, none⟩) qs.length c) rfl rfl (exec_load_one 27 _ rfl w.heap.size 4 rfl (.slice (some ⟨b, off, none⟩) qs.length c) _ Try.underlying27 rfl (h0.at_ 4)) ?_
      go_frame
      refine ls_ex (some 24) (.int .i64 qs.length) rfl rfl (exec_len _ 27 72 rfl ((some ⟨b, off, none⟩)) qs.length c rfl Try.underlying27) ?_
      go_frame
      refine ls_ex (some 25) (.bool true) rfl rfl (exec_lss _ _ _ _ rfl a qs.length rfl rfl true (decide_eq_true (by omega))) ?_
      go_frame
      refine wpList_nil ?_
      go_upto_region 7 with (fail)
      refine wp_region_lit ?_
      refine ls_ex (some 28) (.pointer (some ⟨w.heap.size, 4, none⟩)) rfl rfl (exec_fieldAddr 29 _ 4 rfl _ (by kernel_rfl)) ?_
      go_frame
      refine ls_ex (some 29) (.slice (some ⟨b, off, none⟩) qs.length c) rfl rfl (exec_load_one 27 _ rfl w.heap.size 4 rfl (.slice (some ⟨b, off, none⟩) qs.length c) _ Try.underlying27 rfl (h0.at_ 4)) ?_
      go_frame
      refine ls_ex (some 30) (.int .i64 a) rfl rfl (exec_move _ rfl (.int .i64 a) rfl) ?_
      go_frame
      refine ls_ex (some 31) (.pointer (some ⟨b, off + a * 27, none⟩)) rfl rfl (exec_index_slice _ 72 _ _ rfl b off qs.length c a 27 rfl rfl Try.underlying27 (by kernel_rfl) (by omega)) ?_
      go_frame
      refine ls_ex (some 32) (.agg (u8s (qs[a]))) rfl rfl (exec_load_cells 72 _ rfl b (off + a * 27) rfl (qs[a]) _ 27 (Rd.c27m (hR.keep hB) hlt) Try.underlying72 rfl (by kernel_rfl) (hq.len)) ?_
      go_frame
      refine ls_op rfl (fun K' hK' => ?_)
      have lz36 := hB.size
      have lz37 := h0.lt
      have lz38 := h1.lt
      have lz39 := h2.lt
      have naz44 := ho.away_new
      refine wp_new (some 6) rfl (al_impl_Product rfl) (fun Wz40 nnz41 => ?_)
      have bz42 := nnz41.below (Below.refl _ _) (Nat.le_refl _)
      replace hB := below_after hB bz42
      replace h0 := h0.after bz42
      replace h1 := h1.after bz42
      replace h2 := h2.after bz42
      replace ho := ho.below bz42
      have hz43 : At Wz40 wr.heap.size (.cells (u8s (List.replicate 27 0)) 72 (0, 0)) := nnz41.at_
      refine hK' _ _ ?_
      clear hK' K' nnz41 bz42
      go_frame
      refine ls_op rfl (fun K' hK' => ?_)
      refine wp_store_bytes 72 _ _ rfl rfl wr.heap.size rfl (qs[a]) rfl _ _ hz43 27 (by kernel_rfl) hq.len (by simp) (fun Wz45 pz46 => ?_)
      replace hB := pz46.below hB (by omega)
      replace h0 := pz46.other h0 (by omega)
      replace h1 := pz46.other h1 (by omega)
      replace h2 := pz46.other h2 (by omega)
      replace ho := ho.put pz46 naz44
      replace hz43 : At Wz45 wr.heap.size (.cells (u8s (qs[a])) 72 (0, 0)) := pz46.at_
      refine hK' _ _ ?_
      clear hK' K' pz46
      refine wpList_nil ?_
      go_upto_region 8 with (fail)
      refine wp_region_lit ?_
      refine ls_ex (some 33) (.pointer (some ⟨Wz18.heap.size, 4, none⟩)) rfl rfl (exec_fieldAddr 29 _ 4 rfl _ (by kernel_rfl)) ?_
      go_frame
      refine ls_ex (some 34) (.slice A9 a c9) rfl rfl (exec_load_one 27 _ rfl Wz18.heap.size 4 rfl (.slice A9 a c9) _ Try.underlying27 rfl (h2.at_ 4)) ?_
      go_frame
      refine ls_ex (some 35) (.pointer (some ⟨wr.heap.size, 9, none⟩)) rfl rfl (exec_fieldAddr 72 _ 1 rfl _ (by kernel_rfl)) ?_
      go_frame
      refine ls_ex (some 36) (.agg (u8s (segm qs[a] 9 9))) rfl rfl (exec_load_seg 70 _ rfl wr.heap.size (9) rfl _ (qs[a]) _ 9 hz43 Try.underlying70 rfl (by kernel_rfl) (by rw [hq.len]; omega) (segm qs[a] 9 9) rfl) ?_
      go_frame
      refine ls_ex (some 37) (.pointer (some ⟨wr.heap.size, 18, none⟩)) rfl rfl (exec_fieldAddr 72 _ 2 rfl _ (by kernel_rfl)) ?_
      go_frame
      refine ls_ex (some 38) (.agg (u8s (segm qs[a] 18 9))) rfl rfl (exec_load_seg 70 _ rfl wr.heap.size (18) rfl _ (qs[a]) _ 9 hz43 Try.underlying70 rfl (by kernel_rfl) (by rw [hq.len]; omega) (segm qs[a] 18 9) rfl) ?_
      go_frame
      refine ls_ex (some 39) (.pointer (some ⟨wr.heap.size, 0, none⟩)) rfl rfl (exec_fieldAddr 72 _ 0 rfl _ (by kernel_rfl)) ?_
      go_frame
      refine ls_ex (some 40) (.agg (u8s (segm qs[a] 0 9))) rfl rfl (exec_load_seg 70 _ rfl wr.heap.size (0) rfl _ (qs[a]) _ 9 hz43 Try.underlying70 rfl (by kernel_rfl) (by rw [hq.len]; omega) (segm qs[a] 0 9) rfl) ?_
      go_frame
      refine ls_ex (some 41) (.agg (u8s (turQ qs[a]))) rfl rfl (exec_prodC _ _ _ rfl (segm qs[a] 9 9) (segm qs[a] 18 9) (segm qs[a] 0 9) rfl rfl rfl (segm_len (by rw [Hq27.out]; omega)) (segm_len (by rw [Hq27.out]; omega)) (segm_len (by rw [Hq27.out]; omega))) ?_
      go_frame
      refine ls_op rfl (fun K' hK' => ?_)
      have lz47 := hB.size
      have lz48 := h0.lt
      have lz49 := h1.lt
      have lz50 := h2.lt
      have lz51 := hz43.lt
      refine wp_slice1 (some 42) rfl 27 72 _ rfl (turQ qs[a]) rfl Try.underlying27 infoProd (turQ_bytes hq).len (fun Wz52 nnz53 => ?_)
      have bz54 := nnz53.below (Below.refl _ _) (Nat.le_refl _)
      replace hB := below_after hB bz54
      replace h0 := h0.after bz54
      replace h1 := h1.after bz54
      replace h2 := h2.after bz54
      replace ho := ho.below bz54
      replace hz43 := hz43.after bz54
      have hqz55 : At Wz52 Wz45.heap.size (.cells (u8s (turQ qs[a])) 72 (0, 0)) := nnz53.at_
      refine hK' _ _ ?_
      clear hK' K' nnz53 bz54
      go_frame
      refine ls_op rfl (fun K' hK' => ?_)
      have lz59 := hB.size
      have lz60 := h0.lt
      have lz61 := h1.lt
      have lz62 := h2.lt
      have lz63 := hz43.lt
      have lz64 := hqz55.lt
      refine wp_appP (some 43) rfl _ _ rfl (.slice A9 a c9) ((qs.take a).map turQ) (turQ qs[a]) rfl ho Wz45.heap.size rfl hqz55 (turQ_bytes hq).len (by rw [mt_len ha]; omega) (by omega) (fun v6 Wz56 noz58 grz57 => ?_)
      rw [HT.out] at noz58
      obtain ⟨A6, c6, rfl⟩ := Own.rdN2 noz58 (n := a + 1) (mt_len (by omega))
      replace hB := below_grown hB grz57 ho (by omega)
      replace h0 := h0.grown grz57 (ho.off h0 (by decide))
      replace h1 := h1.grown grz57 (ho.off h1 (by decide))
      replace h2 := h2.grown grz57 (ho.off h2 (by decide))
      replace hz43 := hz43.grown grz57 naz44
      replace ho := noz58
      refine hK' _ _ ?_
      clear hK' K' grz57 hqz55
      go_frame
      refine ls_ex (some 44) (.pointer (some ⟨Wz18.heap.size, 4, none⟩)) rfl rfl (exec_fieldAddr 29 _ 4 rfl _ (by kernel_rfl)) ?_
      go_frame
      refine ls_op rfl (fun K' hK' => ?_)
      refine wp_store_one 27 _ _ rfl rfl Wz18.heap.size 4 rfl (.slice A6 (a + 1) c6) rfl rfl rfl _ _ h2 (by kernel_rfl) (by simp) (fun Wz65 pz66 => ?_)
      replace hB := pz66.below hB (by omega)
      replace h0 := pz66.other h0 (by omega)
      replace h1 := pz66.other h1 (by omega)
      replace ho := ho.put pz66 (ho.off h2 (by decide))
      replace hz43 := pz66.other hz43 (by omega)
      replace h2 : At Wz65 Wz18.heap.size (.cells #[.int .i64 p, .int .i64 j, .int .i64 k, .int .i64 i, .slice A6 (a + 1) c6] 29 (0, 0)) := pz66.at_
      refine hK' _ _ ?_
      clear hK' K' pz66
      refine wpList_nil ?_
      go_upto_region 6 with (fail)
      refine wp_region_lit ?_
      refine ls_ex (some 26) (.int .i64 a) rfl rfl (exec_move _ rfl (.int .i64 a) rfl) ?_
      go_frame
      refine ls_ex (some 27) (.int .i64 (a + 1)) rfl rfl (exec_add _ _ _ _ rfl a 1 (a + 1) rfl rfl (IntWalk.i64_in _ (by omega))) ?_
      go_frame
      refine ls_ex (some 5) (.int .i64 (a + 1)) rfl rfl (exec_assign _ rfl (.int .i64 (a + 1)) rfl) ?_
      go_frame
      refine wpList_nil ?_
      go_wp2_with fail
      go_roundw
      case rel => exact ⟨a + 1, _, by omega, by go_num, hB, h0, h1, h2, ho⟩
      case measure => simp [intOf]; omega
    · obtain ⟨A9, c9, rfl⟩ := Own.rdN2 ho (n := a) (mt_len ha)
      have HE : Hid ((qs.take a).map turQ = qs.map turQ) := Lib.hid (by rw [show a = qs.length by omega, List.take_length])
      rw [HE.out] at ho
      go_upto_region 5 with (fail)
      refine wp_region_lit ?_
      refine ls_ex (some 21) (.int .i64 a) rfl rfl (exec_move _ rfl (.int .i64 a) rfl) ?_
      go_frame
      refine ls_ex (some 22) (.pointer (some ⟨w.heap.size, 4, none⟩)) rfl rfl (exec_fieldAddr 29 _ 4 rfl _ (by kernel_rfl)) ?_
      go_frame
      refine ls_ex (some 23) (.slice A qs.length c) rfl rfl (exec_load_one 27 _ rfl w.heap.size 4 rfl (.slice A qs.length c) _ Try.underlying27 rfl (h0.at_ 4)) ?_
      go_frame
      refine ls_ex (some 24) (.int .i64 qs.length) rfl rfl (exec_len _ 27 72 rfl A qs.length c rfl Try.underlying27) ?_
      go_frame
      refine ls_ex (some 25) (.bool false) rfl rfl (exec_lss _ _ _ _ rfl a qs.length rfl rfl false (decide_eq_false (by omega))) ?_
      go_frame
      refine wpList_nil ?_
      go_upto_region 9 with (fail)
      refine wp_region_lit ?_
      refine ls_ex (some 45) (.agg #[.int .i64 p, .int .i64 j, .int .i64 k, .int .i64 i, .slice A9 a c9]) rfl rfl (exec_load_all 29 _ rfl Wz18.heap.size rfl _ _ _ h2 Try.underlying29 rfl 5 (by kernel_rfl) rfl) ?_
      go_frame
      refine ls_op rfl (fun K' hK' => ?_)
      refine wp_store_all 29 _ _ rfl rfl Wz2.heap.size rfl #[.int .i64 p, .int .i64 j, .int .i64 k, .int .i64 i, .slice A9 a c9] rfl _ _ h1 5 (by kernel_rfl) rfl rfl (one5 _ _ _ _ _ _ _) (fun Wz67 pz68 => ?_)
      replace hB := pz68.below hB (by omega)
      replace h0 := pz68.other h0 (by omega)
      replace h2 := pz68.other h2 (by omega)
      replace ho := ho.put pz68 (ho.off h1 (by decide))
      replace h1 : At Wz67 Wz2.heap.size (.cells #[.int .i64 p, .int .i64 j, .int .i64 k, .int .i64 i, .slice A9 a c9] 29 (0, 0)) := pz68.at_
      refine hK' _ _ ?_
      clear hK' K' pz68
      refine ls_ex (some 3) (.int .i64 0) rfl rfl (exec_assign _ rfl (.int .i64 0) rfl) ?_
      go_frame
      refine wpList_nil ?_
      go_wp2_with fail
      refine bodyPost_ret (results_at2 rfl _ _ Wz2.heap.size _ _ _ rfl _ rfl h1 Try.underlying29 rfl 5 (by kernel_rfl) rfl) rfl ?_
      unfold ResH hZ hL
      rw [HC.out]
      exact ⟨_, rfl, ho.mono (by omega), hB⟩
theorem specTurnMethod_c (p i j k : Int) (A : Option Addr) (c : Nat) (qs : List (List Nat)) (w : World) (hR : Rd w A qs) (hlen : qs.length ≤ 1048576) : Calls Try.prog 12 #[.agg #[.int .i64 p, .int .i64 i, .int .i64 j, .int .i64 k, .slice A qs.length c]] w (ResH w (hZ (tuCode p i j k qs) p) (hZ (tuCode p i j k qs) j) (hZ (tuCode p i j k qs) k) (hZ (tuCode p i j k qs) i) (hL (tuCode p i j k qs) (qs.map turQ)) (tuCode p i j k qs)) := by
  cases hs : methB p i j k qs with
  | false => exact specTurn_no p i j k A c qs w hR hlen hs
  | true => exact specTurn_yes p i j k A c qs w hR hlen hs
set_option maxHeartbeats 4000000 in
theorem implTurn_no (p i j k : Int) (A : Option Addr) (c : Nat) (qs : List (List Nat)) (w : World) (hR : Rd w A qs) (hlen : qs.length ≤ 1048576) (hs : methB p i j k qs = false) :
    Calls Try.prog 13 #[.agg #[.int .i64 p, .int .i64 i, .int .i64 j, .int .i64 k, .slice A qs.length c]] w (ResH w (hZ (tuCode p i j k qs) p) (hZ (tuCode p i j k qs) j) (hZ (tuCode p i j k qs) k) (hZ (tuCode p i j k qs) i) (hL (tuCode p i j k qs) (qs.map turQ)) (tuCode p i j k qs)) := by
  have hB := Below.refl w.heap.size w
  have HC : Hid (tuCode p i j k qs = 1) := Lib.hid (by unfold tuCode; rw [hs]; rfl)
  have Hs := Lib.hid hs
  clear hs
  go_enter Try.func13, Try.ntmps13
  go_upto_region 0 with (fail)
  refine wp_region_lit ?_
  refine ls_op rfl (fun K' hK' => ?_)
  have lz1 := hB.size
  refine wp_new (some 1) rfl (exec_box 29 _ rfl (#[.int .i64 p, .int .i64 i, .int .i64 j, .int .i64 k, .slice A qs.length c]) rfl) (fun Wz2 nnz3 => ?_)
  have bz4 := nnz3.below (Below.refl _ _) (Nat.le_refl _)
  replace hB := below_after hB bz4
  have hz5 : At Wz2 w.heap.size (.cells #[.int .i64 p, .int .i64 i, .int .i64 j, .int .i64 k, .slice A qs.length c] 29 (0, 0)) := nnz3.at_
  refine hK' _ _ ?_
  clear hK' K' nnz3 bz4
  go_frame
  refine ls_op rfl (fun K' hK' => ?_)
  have lz6 := hB.size
  have lz7 := hz5.lt
  refine wp_new (some 2) rfl (al_impl_Method rfl) (fun Wz8 nnz9 => ?_)
  have bz10 := nnz9.below (Below.refl _ _) (Nat.le_refl _)
  replace hB := below_after hB bz10
  replace hz5 := hz5.after bz10
  have hz11 : At Wz8 Wz2.heap.size (.cells #[.int .i64 0, .int .i64 0, .int .i64 0, .int .i64 0, .slice none 0 0] 29 (0, 0)) := nnz9.at_
  refine hK' _ _ ?_
  clear hK' K' nnz9 bz10
  go_frame
  refine ls_ex (some 3) (.int .i64 0) rfl rfl (exec_assign _ rfl (.int .i64 0) rfl) ?_
  go_frame
  refine wpList_nil ?_
  go_upto_region 1 with (fail)
  refine wp_region_lit ?_
  refine ls_ex (some 7) (.agg #[.int .i64 p, .int .i64 i, .int .i64 j, .int .i64 k, .slice A qs.length c]) rfl rfl (exec_load_all 29 _ rfl w.heap.size rfl _ _ _ hz5 Try.underlying29 rfl 5 (by kernel_rfl) rfl) ?_
  go_frame
  refine ls_op rfl (fun K' hK' => ?_)
  have lz14 := hB.size
  have lz15 := hz5.lt
  have lz16 := hz11.lt
  refine wp_call1 (some 8) rfl 10 _ _ rfl (fun args w => by kernel_rfl) _ rfl _ (implIsMethod_c p i j k A c qs _ (hR.keep hB) hlen) (fun e Wz12 h => ?_)
  obtain ⟨rfl, bz13⟩ := h
  replace hB := below_after hB bz13
  replace hz5 := hz5.after bz13
  replace hz11 := hz11.after bz13
  rw [Hs.out]
  clear bz13
  refine ⟨_, rfl, ?_⟩
  refine hK' _ _ ?_
  clear hK' K'
  go_frame
  refine ls_ex (some 9) (.bool true) rfl rfl (exec_not _ _ rfl false rfl) ?_
  go_frame
  refine wpList_nil ?_
  go_upto_region 2 with (fail)
  refine wp_region_lit ?_
  refine ls_ex (some 10) (.agg #[.int .i64 0, .int .i64 0, .int .i64 0, .int .i64 0, .slice none 0 0]) rfl rfl (exec_build_nil 29 rfl _ (by kernel_rfl)) ?_
  go_frame
  refine ls_op rfl (fun K' hK' => ?_)
  refine wp_store_all 29 _ _ rfl rfl Wz2.heap.size rfl #[.int .i64 0, .int .i64 0, .int .i64 0, .int .i64 0, .slice none 0 0] rfl _ _ hz11 5 (by kernel_rfl) rfl rfl (one5 _ _ _ _ _ _ _) (fun Wz17 pz18 => ?_)
  replace hB := pz18.below hB (by omega)
  replace hz5 := pz18.other hz5 (by omega)
  replace hz11 : At Wz17 Wz2.heap.size (.cells #[.int .i64 0, .int .i64 0, .int .i64 0, .int .i64 0, .slice none 0 0] 29 (0, 0)) := pz18.at_
  refine hK' _ _ ?_
  clear hK' K' pz18
  refine ls_ex (some 3) (.int .i64 1) rfl rfl (exec_assign _ rfl (.int .i64 1) rfl) ?_
  go_frame
  refine wpList_nil ?_
  go_wp2_with fail
  refine bodyPost_ret (results_at2 rfl _ _ Wz2.heap.size _ _ _ rfl _ rfl hz11 Try.underlying29 rfl 5 (by kernel_rfl) rfl) rfl ?_
  unfold ResH hZ hL
  rw [HC.out]
  exact ⟨_, rfl, Own.nil _ _, hB⟩
set_option maxHeartbeats 12800000 in
theorem implTurn_yes (p i j k : Int) (A : Option Addr) (c : Nat) (qs : List (List Nat)) (w : World) (hR : Rd w A qs) (hlen : qs.length ≤ 1048576) (hs : methB p i j k qs = true) :
    Calls Try.prog 13 #[.agg #[.int .i64 p, .int .i64 i, .int .i64 j, .int .i64 k, .slice A qs.length c]] w (ResH w (hZ (tuCode p i j k qs) p) (hZ (tuCode p i j k qs) j) (hZ (tuCode p i j k qs) k) (hZ (tuCode p i j k qs) i) (hL (tuCode p i j k qs) (qs.map turQ)) (tuCode p i j k qs)) := by
  have hB := Below.refl w.heap.size w
  have HC : Hid (tuCode p i j k qs = 0) := Lib.hid (by unfold tuCode; rw [hs]; rfl)
  have Hs := Lib.hid hs
  have hl30 := (methB_parts hs).2.2.2.2.1
  clear hs
  go_enter Try.func13, Try.ntmps13
  go_upto_region 0 with (fail)
  refine wp_region_lit ?_
  refine ls_op rfl (fun K' hK' => ?_)
  have lz1 := hB.size
  refine wp_new (some 1) rfl (exec_box 29 _ rfl (#[.int .i64 p, .int .i64 i, .int .i64 j, .int .i64 k, .slice A qs.length c]) rfl) (fun Wz2 nnz3 => ?_)
  have bz4 := nnz3.below (Below.refl _ _) (Nat.le_refl _)
  replace hB := below_after hB bz4
  have hz5 : At Wz2 w.heap.size (.cells #[.int .i64 p, .int .i64 i, .int .i64 j, .int .i64 k, .slice A qs.length c] 29 (0, 0)) := nnz3.at_
  refine hK' _ _ ?_
  clear hK' K' nnz3 bz4
  go_frame
  refine ls_op rfl (fun K' hK' => ?_)
  have lz6 := hB.size
  have lz7 := hz5.lt
  refine wp_new (some 2) rfl (al_impl_Method rfl) (fun Wz8 nnz9 => ?_)
  have bz10 := nnz9.below (Below.refl _ _) (Nat.le_refl _)
  replace hB := below_after hB bz10
  replace hz5 := hz5.after bz10
  have hz11 : At Wz8 Wz2.heap.size (.cells #[.int .i64 0, .int .i64 0, .int .i64 0, .int .i64 0, .slice none 0 0] 29 (0, 0)) := nnz9.at_
  refine hK' _ _ ?_
  clear hK' K' nnz9 bz10
  go_frame
  refine ls_ex (some 3) (.int .i64 0) rfl rfl (exec_assign _ rfl (.int .i64 0) rfl) ?_
  go_frame
  refine wpList_nil ?_
  go_upto_region 1 with (fail)
  refine wp_region_lit ?_
  refine ls_ex (some 7) (.agg #[.int .i64 p, .int .i64 i, .int .i64 j, .int .i64 k, .slice A qs.length c]) rfl rfl (exec_load_all 29 _ rfl w.heap.size rfl _ _ _ hz5 Try.underlying29 rfl 5 (by kernel_rfl) rfl) ?_
  go_frame
  refine ls_op rfl (fun K' hK' => ?_)
  have lz14 := hB.size
  have lz15 := hz5.lt
  have lz16 := hz11.lt
  refine wp_call1 (some 8) rfl 10 _ _ rfl (fun args w => by kernel_rfl) _ rfl _ (implIsMethod_c p i j k A c qs _ (hR.keep hB) hlen) (fun e Wz12 h => ?_)
  obtain ⟨rfl, bz13⟩ := h
  replace hB := below_after hB bz13
  replace hz5 := hz5.after bz13
  replace hz11 := hz11.after bz13
  rw [Hs.out]
  clear bz13
  refine ⟨_, rfl, ?_⟩
  refine hK' _ _ ?_
  clear hK' K'
  go_frame
  refine ls_ex (some 9) (.bool false) rfl rfl (exec_not _ _ rfl true rfl) ?_
  go_frame
  refine wpList_nil ?_
  go_upto_region 3 with (fail)
  refine wp_region_lit ?_
  refine ls_ex (some 11) (.pointer (some ⟨w.heap.size, 4, none⟩)) rfl rfl (exec_fieldAddr 29 _ 4 rfl _ (by kernel_rfl)) ?_
  go_frame
  refine ls_ex (some 12) (.slice A qs.length c) rfl rfl (exec_load_one 27 _ rfl w.heap.size 4 rfl (.slice A qs.length c) _ Try.underlying27 rfl (hz5.at_ 4)) ?_
  go_frame
  refine ls_op rfl (fun K' hK' => ?_)
  have lz19 := hB.size
  have lz20 := hz5.lt
  have lz21 := hz11.lt
  refine wp_call1 (some 13) rfl 36 _ _ rfl (fun args w => by kernel_rfl) _ rfl _ (cloneP_c A c qs _ (hR.keep hB) (by omega)) (fun e Wz17 h => ?_)
  obtain ⟨v8, rfl, ho, bz18⟩ := h
  replace hB := below_after hB bz18
  replace hz5 := hz5.after bz18
  replace hz11 := hz11.after bz18
  obtain ⟨A8, c8, rfl⟩ := Own.rdN2 ho (n := qs.length) rfl
  clear bz18
  refine ⟨_, rfl, ?_⟩
  refine hK' _ _ ?_
  clear hK' K'
  go_frame
  refine ls_ex (some 4) (.slice A8 qs.length c8) rfl rfl (exec_assign _ rfl (.slice A8 qs.length c8) rfl) ?_
  go_frame
  refine wpList_nil ?_
  go_upto_region 4 with (fail)
  refine wp_region_lit ?_
  refine ls_ex (some 14) (.slice A8 qs.length c8) rfl rfl (exec_move _ rfl (.slice A8 qs.length c8) rfl) ?_
  go_frame
  refine ls_ex (some 15) (.int .i64 qs.length) rfl rfl (exec_len _ 27 72 rfl A8 qs.length c8 rfl Try.underlying27) ?_
  go_frame
  refine ls_ex (some 16) (.int .i64 0) rfl rfl (exec_move _ rfl (.int .i64 0) rfl) ?_
  go_frame
  refine wpList_nil ?_
  go_wp2_with fail
  go_loopw [16] (fun s16 wr => ∃ a : Nat, a ≤ qs.length ∧ s16 = .int .i64 a ∧ Below w.heap.size w wr ∧ At wr w.heap.size (.cells #[.int .i64 p, .int .i64 i, .int .i64 j, .int .i64 k, .slice A qs.length c] 29 (0, 0)) ∧ At wr Wz2.heap.size (.cells #[.int .i64 0, .int .i64 0, .int .i64 0, .int .i64 0, .slice none 0 0] 29 (0, 0)) ∧ Own wr (Wz12.heap.size) (.slice A8 qs.length c8) (mixT qs a)) (fun s16 _ => qs.length - (intOf s16).toNat)
  case atStart => exact ⟨0, by omega, rfl, hB, hz5, hz11, by rw [mixT_zero]; exact ho⟩
  case round =>
    clear hB hz5 hz11 ho
    obtain ⟨a, ha, rfl, hB, h0, h1, ho⟩ := hrel
    by_cases hlt : a < qs.length
    · have hq := hR.good _ (List.getElem_mem hlt)
      have Hq27 := Lib.hid hq.len
      have HM := Lib.hid (mixT_bytes a hR.good)
      have HM27 : Hid (∀ q ∈ mixT qs a, q.length = 27) := Lib.hid (fun q hq => (mixT_bytes a hR.good q hq).len)
      have HLm := Lib.hid (mixT_len ha)
      obtain ⟨g, rfl, hg⟩ := ho.blk (by rw [HLm.out]; omega)
      have Hcg := fun (W : World) (ho : Own W (Wz12.heap.size) (.slice (some ⟨g, 0, none⟩) qs.length c8) (mixT qs a)) => (fun t ht => by have := Rd.cells27 (ho.rd' HM.out) (i := a) (by rw [HLm.out]; exact hlt) t ht; rwa [Nat.zero_add, mixT_get hlt] at this : ∀ t, t < 27 → W.cell? ⟨g, a * 27 + t, none⟩ = some (.int .u8 ((qs[a][t]?.getD 0 : Nat) : Int)))
      have HT := Lib.hid (mixT_set hlt)
      go_upto_region 5 with (fail)
      refine wp_region_lit ?_
      refine ls_ex (some 17) (.bool true) rfl rfl (exec_lss _ _ _ _ rfl a qs.length rfl rfl true (decide_eq_true (by omega))) ?_
      go_frame
      refine wpList_nil ?_
      go_upto_region 6 with (fail)
      refine wp_region_lit ?_
      refine ls_ex (some 18) (.int .i64 a) rfl rfl (exec_move _ rfl (.int .i64 a) rfl) ?_
      go_frame
      refine ls_ex (some 19) (.pointer (some ⟨g, a * 27, none⟩)) rfl rfl (exec_ix0 _ 72 _ _ rfl g qs.length c8 a 27 rfl rfl Try.underlying27 (by kernel_rfl) hlt) ?_
      go_frame
      refine ls_ex (some 20) (.agg (u8s (qs[a]))) rfl rfl (exec_load_cells 72 _ rfl g (a * 27) rfl (qs[a]) _ 27 (Hcg _ ho) Try.underlying72 rfl (by kernel_rfl) (hq.len)) ?_
      go_frame
      refine ls_op rfl (fun K' hK' => ?_)
      have lz22 := hB.size
      have lz23 := h0.lt
      have lz24 := h1.lt
      have lz25 : g < wr.heap.size := (ho.lt rfl).2
      have lz26 : Wz12.heap.size ≤ g := (ho.lt rfl).1
      have naz31 := ho.away_new
      refine wp_new (some 6) rfl (al_impl_Product rfl) (fun Wz27 nnz28 => ?_)
      have bz29 := nnz28.below (Below.refl _ _) (Nat.le_refl _)
      replace hB := below_after hB bz29
      replace h0 := h0.after bz29
      replace h1 := h1.after bz29
      replace ho := ho.below bz29
      have hz30 : At Wz27 wr.heap.size (.cells (u8s (List.replicate 27 0)) 72 (0, 0)) := nnz28.at_
      refine hK' _ _ ?_
      clear hK' K' nnz28 bz29
      go_frame
      refine ls_ex (some 5) (.int .i64 a) rfl rfl (exec_assign _ rfl (.int .i64 a) rfl) ?_
      go_frame
      refine ls_op rfl (fun K' hK' => ?_)
      refine wp_store_bytes 72 _ _ rfl rfl wr.heap.size rfl (qs[a]) rfl _ _ hz30 27 (by kernel_rfl) hq.len (by simp) (fun Wz32 pz33 => ?_)
      replace hB := pz33.below hB (by omega)
      replace h0 := pz33.other h0 (by omega)
      replace h1 := pz33.other h1 (by omega)
      replace ho := ho.put pz33 naz31
      replace hz30 : At Wz32 wr.heap.size (.cells (u8s (qs[a])) 72 (0, 0)) := pz33.at_
      refine hK' _ _ ?_
      clear hK' K' pz33
      refine wpList_nil ?_
      go_upto_region 7 with (fail)
      refine wp_region_lit ?_
      refine ls_ex (some 21) (.slice (some ⟨g, 0, none⟩) qs.length c8) rfl rfl (exec_move _ rfl (.slice (some ⟨g, 0, none⟩) qs.length c8) rfl) ?_
      go_frame
      refine ls_ex (some 22) (.int .i64 a) rfl rfl (exec_move _ rfl (.int .i64 a) rfl) ?_
      go_frame
      refine ls_ex (some 23) (.pointer (some ⟨wr.heap.size, 9, none⟩)) rfl rfl (exec_fieldAddr 72 _ 1 rfl _ (by kernel_rfl)) ?_
      go_frame
      refine ls_ex (some 24) (.agg (u8s (segm qs[a] 9 9))) rfl rfl (exec_load_seg 70 _ rfl wr.heap.size (9) rfl _ (qs[a]) _ 9 hz30 Try.underlying70 rfl (by kernel_rfl) (by rw [hq.len]; omega) (segm qs[a] 9 9) rfl) ?_
      go_frame
      refine ls_ex (some 25) (.pointer (some ⟨wr.heap.size, 18, none⟩)) rfl rfl (exec_fieldAddr 72 _ 2 rfl _ (by kernel_rfl)) ?_
      go_frame
      refine ls_ex (some 26) (.agg (u8s (segm qs[a] 18 9))) rfl rfl (exec_load_seg 70 _ rfl wr.heap.size (18) rfl _ (qs[a]) _ 9 hz30 Try.underlying70 rfl (by kernel_rfl) (by rw [hq.len]; omega) (segm qs[a] 18 9) rfl) ?_
      go_frame
      refine ls_ex (some 27) (.pointer (some ⟨wr.heap.size, 0, none⟩)) rfl rfl (exec_fieldAddr 72 _ 0 rfl _ (by kernel_rfl)) ?_
      go_frame
      refine ls_ex (some 28) (.agg (u8s (segm qs[a] 0 9))) rfl rfl (exec_load_seg 70 _ rfl wr.heap.size (0) rfl _ (qs[a]) _ 9 hz30 Try.underlying70 rfl (by kernel_rfl) (by rw [hq.len]; omega) (segm qs[a] 0 9) rfl) ?_
      go_frame
      refine ls_ex (some 29) (.agg (u8s (turQ qs[a]))) rfl rfl (exec_prodC _ _ _ rfl (segm qs[a] 9 9) (segm qs[a] 18 9) (segm qs[a] 0 9) rfl rfl rfl (segm_len (by rw [Hq27.out]; omega)) (segm_len (by rw [Hq27.out]; omega)) (segm_len (by rw [Hq27.out]; omega))) ?_
      go_frame
      refine ls_ex (some 30) (.pointer (some ⟨g, a * 27, none⟩)) rfl rfl (exec_ix0 _ 72 _ _ rfl g qs.length c8 a 27 rfl rfl Try.underlying27 (by kernel_rfl) hlt) ?_
      go_frame
      refine ls_op rfl (fun K' hK' => ?_)
      refine wp_store_own 72 _ _ rfl rfl g a rfl (turQ qs[a]) rfl ho (HM27.out) (by kernel_rfl) ((by rw [HLm.out]; exact hlt)) (turQ_bytes hq).len (fun Wz34 hoz36 pz35 _ => ?_)
      replace hB := pz35.below hB (by omega)
      replace h0 := pz35.other h0 (by omega)
      replace h1 := pz35.other h1 (by omega)
      replace hz30 := pz35.other hz30 (by omega)
      replace ho := hoz36
      refine hK' _ _ ?_
      clear hK' K' pz35 hoz36
      refine wpList_nil ?_
      go_upto_region 8 with (fail)
      refine wp_region_lit ?_
      refine ls_ex (some 31) (.int .i64 (a + 1)) rfl rfl (exec_add _ _ _ _ rfl a 1 (a + 1) rfl rfl (IntWalk.i64_in _ (by omega))) ?_
      go_frame
      refine ls_ex (some 16) (.int .i64 (a + 1)) rfl rfl (exec_move _ rfl (.int .i64 (a + 1)) rfl) ?_
      go_frame
      refine wpList_nil ?_
      go_wp2_with fail
      go_roundw
      case rel => exact ⟨a + 1, by omega, by go_num, hB, h0, h1, by rw [← HT.out]; exact ho⟩
      case measure => simp [intOf]; omega
    · have HE : Hid (mixT qs a = qs.map turQ) := Lib.hid (by rw [show a = qs.length by omega]; exact mixT_all qs)
      rw [HE.out] at ho
      go_upto_region 5 with (fail)
      refine wp_region_lit ?_
      refine ls_ex (some 17) (.bool false) rfl rfl (exec_lss _ _ _ _ rfl a qs.length rfl rfl false (decide_eq_false (by omega))) ?_
      go_frame
      refine wpList_nil ?_
      go_upto_region 9 with (fail)
      refine wp_region_lit ?_
      refine ls_ex (some 32) (.pointer (some ⟨w.heap.size, 0, none⟩)) rfl rfl (exec_fieldAddr 29 _ 0 rfl _ (by kernel_rfl)) ?_
      go_frame
      refine ls_ex (some 33) (.int .i64 p) rfl rfl (exec_load_one 2 _ rfl w.heap.size 0 rfl (.int .i64 p) _ Try.underlying2 rfl (h0.at_ 0)) ?_
      go_frame
      refine ls_ex (some 34) (.pointer (some ⟨w.heap.size, 2, none⟩)) rfl rfl (exec_fieldAddr 29 _ 2 rfl _ (by kernel_rfl)) ?_
      go_frame
      refine ls_ex (some 35) (.int .i64 j) rfl rfl (exec_load_one 2 _ rfl w.heap.size 2 rfl (.int .i64 j) _ Try.underlying2 rfl (h0.at_ 2)) ?_
      go_frame
      refine ls_ex (some 36) (.pointer (some ⟨w.heap.size, 3, none⟩)) rfl rfl (exec_fieldAddr 29 _ 3 rfl _ (by kernel_rfl)) ?_
      go_frame
      refine ls_ex (some 37) (.int .i64 k) rfl rfl (exec_load_one 2 _ rfl w.heap.size 3 rfl (.int .i64 k) _ Try.underlying2 rfl (h0.at_ 3)) ?_
      go_frame
      refine ls_ex (some 38) (.pointer (some ⟨w.heap.size, 1, none⟩)) rfl rfl (exec_fieldAddr 29 _ 1 rfl _ (by kernel_rfl)) ?_
      go_frame
      refine ls_ex (some 39) (.int .i64 i) rfl rfl (exec_load_one 2 _ rfl w.heap.size 1 rfl (.int .i64 i) _ Try.underlying2 rfl (h0.at_ 1)) ?_
      go_frame
      refine ls_ex (some 40) (.agg #[.int .i64 j, .int .i64 k, .int .i64 i]) rfl rfl (exec_build_box3 _ _ _ rfl j k i rfl rfl rfl) ?_
      go_frame
      refine ls_ex (some 41) (.slice A8 qs.length c8) rfl rfl (exec_move _ rfl (.slice A8 qs.length c8) rfl) ?_
      go_frame
      refine ls_op rfl (fun K' hK' => ?_)
      have lz39 := hB.size
      have lz40 := h0.lt
      have lz41 := h1.lt
      refine wp_call3 (some 42) rfl 37 _ _ _ _ rfl (fun args w => by kernel_rfl) _ _ _ rfl rfl rfl _ (methodOf_c p j k i A8 qs.length c8 _) (fun e Wz37 h => ?_)
      obtain ⟨rfl, bz38⟩ := h
      replace hB := below_after hB bz38
      replace h0 := h0.after bz38
      replace h1 := h1.after bz38
      replace ho := ho.below bz38
      clear bz38
      refine ⟨_, rfl, ?_⟩
      refine hK' _ _ ?_
      clear hK' K'
      go_frame
      refine ls_op rfl (fun K' hK' => ?_)
      refine wp_store_all 29 _ _ rfl rfl Wz2.heap.size rfl #[.int .i64 p, .int .i64 j, .int .i64 k, .int .i64 i, .slice A8 qs.length c8] rfl _ _ h1 5 (by kernel_rfl) rfl rfl (one5 _ _ _ _ _ _ _) (fun Wz42 pz43 => ?_)
      replace hB := pz43.below hB (by omega)
      replace h0 := pz43.other h0 (by omega)
      replace ho := ho.put pz43 (ho.off h1 (by decide))
      replace h1 : At Wz42 Wz2.heap.size (.cells #[.int .i64 p, .int .i64 j, .int .i64 k, .int .i64 i, .slice A8 qs.length c8] 29 (0, 0)) := pz43.at_
      refine hK' _ _ ?_
      clear hK' K' pz43
      refine ls_ex (some 3) (.int .i64 0) rfl rfl (exec_assign _ rfl (.int .i64 0) rfl) ?_
      go_frame
      refine wpList_nil ?_
      go_wp2_with fail
      refine bodyPost_ret (results_at2 rfl _ _ Wz2.heap.size _ _ _ rfl _ rfl h1 Try.underlying29 rfl 5 (by kernel_rfl) rfl) rfl ?_
      unfold ResH hZ hL
      rw [HC.out]
      exact ⟨_, rfl, ho.mono (by omega), hB⟩
theorem implTurnMethod_c (p i j k : Int) (A : Option Addr) (c : Nat) (qs : List (List Nat)) (w : World) (hR : Rd w A qs) (hlen : qs.length ≤ 1048576) : Calls Try.prog 13 #[.agg #[.int .i64 p, .int .i64 i, .int .i64 j, .int .i64 k, .slice A qs.length c]] w (ResH w (hZ (tuCode p i j k qs) p) (hZ (tuCode p i j k qs) j) (hZ (tuCode p i j k qs) k) (hZ (tuCode p i j k qs) i) (hL (tuCode p i j k qs) (qs.map turQ)) (tuCode p i j k qs)) := by
  cases hs : methB p i j k qs with
  | false => exact implTurn_no p i j k A c qs w hR hlen hs
  | true => exact implTurn_yes p i j k A c qs w hR hlen hs
end Go.Proofs.Ytkjdlmeolnohbaa
