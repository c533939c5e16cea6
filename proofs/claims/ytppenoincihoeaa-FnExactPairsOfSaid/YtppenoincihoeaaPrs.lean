/-
  spec.l10Pairs, impl.pairsOf; PairsOf of both sides. (Made by mkprs.py.)
-/
import Derived.Test.YtppenoincihoeaaPrR
import Derived.Test.YtppenoincihoeaaImplIs
import Derived.Test.YtppenoincihoeaaHeldT
namespace Go.Proofs.Ytppenoincihoeaa
open Go.RowKit
set_option maxRecDepth 100000
attribute [local irreducible] wpList
/-- The pair of a product. -/
def prP (q : List Nat) : List Nat := catR (segm q 0 9) (segm q 9 9)
theorem prP_bytes {q : List Nat} (h : Bytes 27 q) : Bytes 18 (prP q) := catR_bytes (segm_bytes h (by omega)) (segm_bytes h (by omega))
theorem mapR_len {f : List Nat → List Nat} {qs : List (List Nat)} {i : Nat} (h : i ≤ qs.length) : ((qs.take i).map f).length = i := by simp; omega
theorem mapR_step {f : List Nat → List Nat} {qs : List (List Nat)} {i : Nat} (h : i < qs.length) : (qs.take i).map f ++ [f qs[i]] = (qs.take (i + 1)).map f := by
  rw [List.take_succ_eq_append_getElem h, List.map_append]
  rfl
def prCode (p n m k : Int) (qs : List (List Nat)) : Int := if schemeB p n m k qs = true then 0 else 1
def prL (code : Int) (l : List (List Nat)) : List (List Nat) := if code = 0 then l else []
theorem Rd.cP27 {w : World} {b off : Nat} {ts : List (List Nat)} (h : Rd w (some ⟨b, off, none⟩) ts) {i : Nat} (hi : i < ts.length) : ∀ j, j < 27 → w.cell? ⟨b, off + i * 27 + j, none⟩ = some (.int .u8 ((ts[i][j]?.getD 0 : Nat) : Int)) := by
  obtain ⟨b', off', e, hc⟩ := h.at_ hi
  simp only [Option.some.injEq, Addr.mk.injEq, and_true] at e
  obtain ⟨rfl, rfl⟩ := e
  exact hc
theorem Rd.cPf {w : World} {b off : Nat} {ts : List (List Nat)} (h : Rd w (some ⟨b, off, none⟩) ts) {i : Nat} (hi : i < ts.length) {o : Nat} (ho : o + 9 ≤ 27) : ∀ j, j < 9 → w.cell? ⟨b, off + i * 27 + o + j, none⟩ = some (.int .u8 (((segm ts[i] o 9)[j]?.getD 0 : Nat) : Int)) := fun j hj => by
  have h9 := h.cP27 hi (o + j) (by omega)
  rw [show off + i * 27 + o + j = off + i * 27 + (o + j) by omega, h9]
  unfold segm
  rw [List.getElem?_take, if_pos hj, List.getElem?_drop]
theorem Rd.cPf0 {w : World} {b off : Nat} {ts : List (List Nat)} (h : Rd w (some ⟨b, off, none⟩) ts) {i : Nat} (hi : i < ts.length) : ∀ j, j < 9 → w.cell? ⟨b, off + i * 27 + j, none⟩ = some (.int .u8 (((segm ts[i] 0 9)[j]?.getD 0 : Nat) : Int)) := h.cPf hi (o := 0) (by omega)
theorem Rd.cPf9 {w : World} {b off : Nat} {ts : List (List Nat)} (h : Rd w (some ⟨b, off, none⟩) ts) {i : Nat} (hi : i < ts.length) : ∀ j, j < 9 → w.cell? ⟨b, off + i * 27 + 9 + j, none⟩ = some (.int .u8 (((segm ts[i] 9 9)[j]?.getD 0 : Nat) : Int)) := h.cPf hi (o := 9) (by omega)
theorem prs_bytes {p n m k : Int} {qs : List (List Nat)} (h : ∀ q ∈ qs, Bytes 27 q) : ∀ r ∈ prL (prCode p n m k qs) (qs.map prP), Bytes 18 r := by
  unfold prL
  split
  · intro r hr
    obtain ⟨q, hq, rfl⟩ := List.mem_map.1 hr
    exact prP_bytes (h q hq)
  · intro r hr
    simp at hr
theorem prs_len {p n m k : Int} {qs : List (List Nat)} : (prL (prCode p n m k qs) (qs.map prP)).length ≤ 1048576 := by
  rcases Bool.eq_false_or_eq_true (schemeB p n m k qs) with h2 | h2
  · unfold prL
    have h := h2
    unfold schemeB at h
    simp only [Bool.and_eq_true, decide_eq_true_eq] at h
    split
    · rw [List.length_map]
      omega
    · simp
  · unfold prL prCode
    rw [h2]
    simp
theorem al_impl_Product {o : Oper} {a : Act} {w : World} (ho : o.op = .alloc 52) : (execOp a.eval o).run Try.prog w = .ok (.value (.pointer (some ⟨w.heap.size, 0, none⟩))) (w.alloc (.cells (u8s (List.replicate 27 0)) 52 (0, 0))) := by
  unfold execOp
  rw [ho]
  kernel_rfl
set_option maxHeartbeats 12800000 in
theorem l10Pairs_c (p n m k : Int) (A : Option Addr) (c : Nat) (qs : List (List Nat)) (w : World) (hR : Rd w A qs) (hlen : qs.length ≤ 1000000) :
    Calls Try.prog 46 #[.agg #[.int .i64 p, .int .i64 n, .int .i64 m, .int .i64 k, .slice A qs.length c]] w (fun e w' => ∃ v, e = .returned v ∧ OwnR w' w.heap.size v (qs.map prP) ∧ Below w.heap.size w w') := by
  have hB := Below.refl w.heap.size w
  skip
  go_enter Try.func46, Try.ntmps46
  go_upto_region 0 with (fail)
  refine wp_region_lit ?_
  refine ls_op rfl (fun K' hK' => ?_)
  have lz1 := hB.size
  refine wp_new (some 1) rfl (exec_box 28 _ rfl (#[.int .i64 p, .int .i64 n, .int .i64 m, .int .i64 k, .slice A qs.length c]) rfl) (fun Wz2 nnz3 => ?_)
  have bz4 := nnz3.below (Below.refl _ _) (Nat.le_refl _)
  replace hB := below_after hB bz4
  have hz5 : At Wz2 w.heap.size (.cells #[.int .i64 p, .int .i64 n, .int .i64 m, .int .i64 k, .slice A qs.length c] 28 (0, 0)) := nnz3.at_
  refine hK' _ _ ?_
  clear hK' K' nnz3 bz4
  go_frame
  refine ls_ex (some 2) (.slice none 0 0) rfl rfl (exec_assign _ rfl (.slice none 0 0) rfl) ?_
  go_frame
  refine wpList_nil ?_
  go_upto_region 1 with (fail)
  refine wp_region_lit ?_
  refine ls_op rfl (fun K' hK' => ?_)
  have lz9 := hB.size
  have lz10 := hz5.lt
  refine wp_new (some 5) rfl (exec_bs0R rfl) (fun Wz6 nnz7 => ?_)
  have bz8 := nnz7.below (Below.refl _ _) (Nat.le_refl _)
  replace hB := below_after hB bz8
  replace hz5 := hz5.after bz8
  have ho : OwnR Wz6 w.heap.size (.slice (some ⟨Wz2.heap.size, 0, none⟩) 0 0) [] := (own_bs0R nnz7).mono (by have := hB.size; omega)
  refine hK' _ _ ?_
  clear hK' K' nnz7 bz8
  go_frame
  refine ls_ex (some 3) (.slice (some ⟨Wz2.heap.size, 0, none⟩) 0 0) rfl rfl (exec_assign _ rfl (.slice (some ⟨Wz2.heap.size, 0, none⟩) 0 0) rfl) ?_
  go_frame
  refine wpList_nil ?_
  go_upto_region 2 with (fail)
  refine wp_region_lit ?_
  refine ls_ex (some 4) (.int .i64 0) rfl rfl (exec_assign _ rfl (.int .i64 0) rfl) ?_
  go_frame
  refine wpList_nil ?_
  go_wp2_with fail
  go_loopw [3, 4] (fun s3 s4 wr => ∃ (i : Nat) (v : Value), i ≤ qs.length ∧ s4 = .int .i64 i ∧ s3 = v ∧ Below w.heap.size w wr ∧ At wr w.heap.size (.cells #[.int .i64 p, .int .i64 n, .int .i64 m, .int .i64 k, .slice A qs.length c] 28 (0, 0)) ∧ OwnR wr w.heap.size v ((qs.take i).map prP)) (fun _ s4 _ => qs.length - (intOf s4).toNat)
  case atStart => exact ⟨0, _, by omega, rfl, rfl, hB, hz5, ho⟩
  case round =>
    clear hB hz5 ho
    obtain ⟨i, v, hi, rfl, rfl, hB, h0, ho⟩ := hrel
    by_cases hlt : i < qs.length
    · obtain ⟨b, off, rfl, hc⟩ := (hR.keep hB).at_ hlt
      clear hc
      have hq := hR.good _ (List.getElem_mem hlt)
      have Hq27 := Lib.hid hq.len
      obtain ⟨A9, c9, rfl⟩ := OwnR.rdN ho (n := i) (mapR_len hi)
      have HT : Hid ((qs.take i).map prP ++ [prP qs[i]] = (qs.take (i + 1)).map prP) := Lib.hid (mapR_step hlt)
      go_upto_region 3 with (fail)
      refine wp_region_lit ?_
      refine ls_ex (some 6) (.int .i64 i) rfl rfl (exec_move _ rfl (.int .i64 i) rfl) ?_
      go_frame
      refine ls_ex (some 7) (.pointer (some ⟨w.heap.size, 4, none⟩)) rfl rfl (exec_fieldAddr 28 _ 4 rfl _ (by kernel_rfl)) ?_
      go_frame
      refine ls_ex (some 8) (.slice (some ⟨b, off, none⟩) qs.length c) rfl rfl (exec_load_one 26 _ rfl w.heap.size 4 rfl (.slice (some ⟨b, off, none⟩) qs.length c) _ Try.underlying26 rfl (h0.at_ 4)) ?_
      go_frame
      refine ls_ex (some 9) (.int .i64 qs.length) rfl rfl (exec_len _ 26 52 rfl ((some ⟨b, off, none⟩)) qs.length c rfl Try.underlying26) ?_
      go_frame
      refine ls_ex (some 10) (.bool true) rfl rfl (exec_lss _ _ _ _ rfl i qs.length rfl rfl true (decide_eq_true (by omega))) ?_
      go_frame
      refine wpList_nil ?_
      go_upto_region 5 with (fail)
      refine wp_region_y (zs := [15]) (S := fun w' => Below w.heap.size w w' ∧ At w' w.heap.size (.cells #[.int .i64 p, .int .i64 n, .int .i64 m, .int .i64 k, .slice (some ⟨b, off, none⟩) qs.length c] 28 (0, 0))) (S2 := fun w' => True) (by kernel_rfl) ?_
      change wpAnyY _ _ _ _ _ _ _ _ _ _ (World.drew _)
      generalize hwdz11 : World.drew _ = wdz11
      replace hB : Below w.heap.size w wdz11 := by rw [← hwdz11]; exact hB.drew
      replace h0 : At wdz11 w.heap.size (.cells #[.int .i64 p, .int .i64 n, .int .i64 m, .int .i64 k, .slice (some ⟨b, off, none⟩) qs.length c] 28 (0, 0)) := by rw [← hwdz11]; exact h0
      replace ho : OwnR wdz11 w.heap.size (.slice A9 i c9) ((qs.take i).map prP) := by rw [← hwdz11]; exact ho.drew
      clear hwdz11
      refine y_yield 0 (some 13) (.slice A9 i c9) rfl (by kernel_rfl) (by kernel_rfl) (by kernel_rfl) (fun _ _ _ h => h) rfl rfl ⟨hB, h0⟩ (fun w' h' => exec_move _ rfl (.slice A9 i c9) rfl) ?_
      go_frame
      refine y_yield 1 (some 14) (.pointer (some ⟨w.heap.size, 4, none⟩)) rfl (by kernel_rfl) (by kernel_rfl) (by kernel_rfl) (fun _ _ _ h => h) rfl rfl ⟨hB, h0⟩ (fun w' h' => exec_fieldAddr 28 _ 4 rfl _ (by kernel_rfl)) ?_
      go_frame
      refine y_yield 2 (some 15) (.slice (some ⟨b, off, none⟩) qs.length c) rfl (by kernel_rfl) (by kernel_rfl) (by kernel_rfl) (fun _ _ _ h => h) rfl rfl ⟨hB, h0⟩ (fun w' h' => exec_load_one 26 _ rfl w.heap.size 4 rfl (.slice (some ⟨b, off, none⟩) qs.length c) _ Try.underlying26 rfl (h'.2.at_ 4)) ?_
      go_frame
      refine y_yield 3 (some 16) (.int .i64 i) rfl (by kernel_rfl) (by kernel_rfl) (by kernel_rfl) (fun _ _ _ h => h) rfl rfl ⟨hB, h0⟩ (fun w' h' => exec_move _ rfl (.int .i64 i) rfl) ?_
      go_frame
      refine y_yield 4 (some 17) (.pointer (some ⟨b, off + i * 27, none⟩)) rfl (by kernel_rfl) (by kernel_rfl) (by kernel_rfl) (fun _ _ _ h => h) rfl rfl ⟨hB, h0⟩ (fun w' h' => exec_index_slice _ 52 _ _ rfl b off qs.length c i 27 rfl rfl Try.underlying26 (by kernel_rfl) (by omega)) ?_
      go_frame
      refine y_yield 5 (some 18) (.pointer (some ⟨b, off + i * 27, none⟩)) rfl (by kernel_rfl) (by kernel_rfl) (by kernel_rfl) (fun _ _ _ h => h) rfl rfl ⟨hB, h0⟩ (fun w' h' => exec_fieldAddr 52 _ 0 rfl _ (by kernel_rfl)) ?_
      go_frame
      refine y_yield 6 (some 19) (.agg (u8s (segm qs[i] 0 9))) rfl (by kernel_rfl) (by kernel_rfl) (by kernel_rfl) (fun _ _ _ h => h) rfl rfl ⟨hB, h0⟩ (fun w' h' => exec_load_cells 49 _ rfl b (off + i * 27) rfl (segm qs[i] 0 9) _ 9 (Rd.cPf0 (hR.keep h'.1) hlt) Try.underlying49 rfl (by kernel_rfl) (segm_len (by rw [Hq27.out]; omega))) ?_
      go_frame
      refine y_yield 7 (some 20) (.pointer (some ⟨w.heap.size, 4, none⟩)) rfl (by kernel_rfl) (by kernel_rfl) (by kernel_rfl) (fun _ _ _ h => h) rfl rfl ⟨hB, h0⟩ (fun w' h' => exec_fieldAddr 28 _ 4 rfl _ (by kernel_rfl)) ?_
      go_frame
      refine y_yield 8 (some 21) (.slice (some ⟨b, off, none⟩) qs.length c) rfl (by kernel_rfl) (by kernel_rfl) (by kernel_rfl) (fun _ _ _ h => h) rfl rfl ⟨hB, h0⟩ (fun w' h' => exec_load_one 26 _ rfl w.heap.size 4 rfl (.slice (some ⟨b, off, none⟩) qs.length c) _ Try.underlying26 rfl (h'.2.at_ 4)) ?_
      go_frame
      refine y_yield 9 (some 22) (.int .i64 i) rfl (by kernel_rfl) (by kernel_rfl) (by kernel_rfl) (fun _ _ _ h => h) rfl rfl ⟨hB, h0⟩ (fun w' h' => exec_move _ rfl (.int .i64 i) rfl) ?_
      go_frame
      refine y_yield 10 (some 23) (.pointer (some ⟨b, off + i * 27, none⟩)) rfl (by kernel_rfl) (by kernel_rfl) (by kernel_rfl) (fun _ _ _ h => h) rfl rfl ⟨hB, h0⟩ (fun w' h' => exec_index_slice _ 52 _ _ rfl b off qs.length c i 27 rfl rfl Try.underlying26 (by kernel_rfl) (by omega)) ?_
      go_frame
      refine y_yield 11 (some 24) (.pointer (some ⟨b, off + i * 27 + 9, none⟩)) rfl (by kernel_rfl) (by kernel_rfl) (by kernel_rfl) (fun _ _ _ h => h) rfl rfl ⟨hB, h0⟩ (fun w' h' => exec_fieldAddr 52 _ 1 rfl _ (by kernel_rfl)) ?_
      go_frame
      refine y_yield 12 (some 25) (.agg (u8s (segm qs[i] 9 9))) rfl (by kernel_rfl) (by kernel_rfl) (by kernel_rfl) (fun _ _ _ h => h) rfl rfl ⟨hB, h0⟩ (fun w' h' => exec_load_cells 49 _ rfl b (off + i * 27 + 9) rfl (segm qs[i] 9 9) _ 9 (Rd.cPf9 (hR.keep h'.1) hlt) Try.underlying49 rfl (by kernel_rfl) (segm_len (by rw [Hq27.out]; omega))) ?_
      go_frame
      refine y_yield 13 (some 26) (.agg (u8s (catR (segm qs[i] 0 9) (segm qs[i] 9 9)))) rfl (by kernel_rfl) (by kernel_rfl) (by kernel_rfl) (fun _ _ _ h => h) rfl rfl ⟨hB, h0⟩ (fun w' h' => exec_pair _ _ rfl (segm qs[i] 0 9) (segm qs[i] 9 9) rfl rfl (segm_len (by rw [Hq27.out]; omega)) (segm_len (by rw [Hq27.out]; omega))) ?_
      go_frame
      refine y_oper 14 (by kernel_rfl) rfl rfl (fun K' hK' => ?_)
      have lz12 := hB.size
      have lz13 := h0.lt
      refine wp_slice1R (some 27) rfl 37 74 _ rfl (prP qs[i]) rfl Try.underlying37 infoPair (prP_bytes hq).len (fun Wz14 nnz15 => ?_)
      have bz16 := nnz15.below (Below.refl _ _) (Nat.le_refl _)
      replace hB := below_after hB bz16
      replace h0 := h0.after bz16
      replace ho := ho.below bz16
      have hqz17 : At Wz14 wdz11.heap.size (.cells (u8s (prP qs[i])) 74 (0, 0)) := nnz15.at_
      refine hK' _ _ ⟨hB, h0⟩ (fun _ => trivial) ?_
      clear hK' K' nnz15 bz16
      go_frame
      refine y_oper 15 (by kernel_rfl) rfl rfl (fun K' hK' => ?_)
      have lz21 := hB.size
      have lz22 := h0.lt
      have lz23 := hqz17.lt
      refine wp_appR (some 28) rfl _ _ rfl (.slice A9 i c9) ((qs.take i).map prP) (prP qs[i]) rfl ho wdz11.heap.size rfl hqz17 (prP_bytes hq).len (by rw [mapR_len hi]; omega) (by omega) (fun v8 Wz18 noz20 grz19 => ?_)
      rw [HT.out] at noz20
      obtain ⟨A8, c8, rfl⟩ := OwnR.rdN noz20 (n := i + 1) (mapR_len (by omega))
      replace hB := below_grownR hB grz19 ho (by omega)
      replace h0 := h0.grown grz19 (ho.off h0 (by decide))
      replace ho := noz20
      refine hK' _ _ ⟨hB, h0⟩ (fun h => absurd (by decide) h) ?_
      clear hK' K' grz19 hqz17
      go_frame
      refine y_oper 16 (by kernel_rfl) rfl rfl (fun K' hK' => ?_)
      refine wp_exec (some 3) rfl (.slice A8 (i + 1) c8) (exec_assign _ rfl (.slice A8 (i + 1) c8) rfl) ?_
      refine hK' _ _ ⟨hB, h0⟩ (fun _ => trivial) ?_
      clear hK' K'
      go_frame
      refine y_done (by kernel_rfl) ?_ _
      go_upto_region 4 with (fail)
      refine wp_region_lit ?_
      refine ls_ex (some 11) (.int .i64 i) rfl rfl (exec_move _ rfl (.int .i64 i) rfl) ?_
      go_frame
      refine ls_ex (some 12) (.int .i64 (i + 1)) rfl rfl (exec_add _ _ _ _ rfl i 1 (i + 1) rfl rfl (IntWalk.i64_in _ (by omega))) ?_
      go_frame
      refine ls_ex (some 4) (.int .i64 (i + 1)) rfl rfl (exec_assign _ rfl (.int .i64 (i + 1)) rfl) ?_
      go_frame
      refine wpList_nil ?_
      go_wp2_with fail
      go_roundw
      case rel => exact ⟨i + 1, _, by omega, by go_num, rfl, hB, h0, ho⟩
      case measure => simp [intOf]; omega
    · obtain ⟨A9, c9, rfl⟩ := OwnR.rdN ho (n := i) (mapR_len hi)
      have HE : Hid ((qs.take i).map prP = qs.map prP) := Lib.hid (by rw [show i = qs.length by omega, List.take_length])
      rw [HE.out] at ho
      go_upto_region 3 with (fail)
      refine wp_region_lit ?_
      refine ls_ex (some 6) (.int .i64 i) rfl rfl (exec_move _ rfl (.int .i64 i) rfl) ?_
      go_frame
      refine ls_ex (some 7) (.pointer (some ⟨w.heap.size, 4, none⟩)) rfl rfl (exec_fieldAddr 28 _ 4 rfl _ (by kernel_rfl)) ?_
      go_frame
      refine ls_ex (some 8) (.slice A qs.length c) rfl rfl (exec_load_one 26 _ rfl w.heap.size 4 rfl (.slice A qs.length c) _ Try.underlying26 rfl (h0.at_ 4)) ?_
      go_frame
      refine ls_ex (some 9) (.int .i64 qs.length) rfl rfl (exec_len _ 26 52 rfl A qs.length c rfl Try.underlying26) ?_
      go_frame
      refine ls_ex (some 10) (.bool false) rfl rfl (exec_lss _ _ _ _ rfl i qs.length rfl rfl false (decide_eq_false (by omega))) ?_
      go_frame
      refine wpList_nil ?_
      go_upto_region 6 with (fail)
      refine wp_region_lit ?_
      refine ls_ex (some 29) (.slice A9 i c9) rfl rfl (exec_move _ rfl (.slice A9 i c9) rfl) ?_
      go_frame
      refine ls_ex (some 2) (.slice A9 i c9) rfl rfl (exec_assign _ rfl (.slice A9 i c9) rfl) ?_
      go_frame
      refine wpList_nil ?_
      go_wp2_with fail
      go_ret
      exact ⟨_, rfl, ho, hB⟩
set_option maxHeartbeats 12800000 in
theorem pairsOf_c (p n m k : Int) (A : Option Addr) (c : Nat) (qs : List (List Nat)) (w : World) (hR : Rd w A qs) (hlen : qs.length ≤ 1000000) :
    Calls Try.prog 47 #[.agg #[.int .i64 p, .int .i64 n, .int .i64 m, .int .i64 k, .slice A qs.length c]] w (fun e w' => ∃ v, e = .returned v ∧ OwnR w' w.heap.size v (qs.map prP) ∧ Below w.heap.size w w') := by
  have hB := Below.refl w.heap.size w
  skip
  go_enter Try.func47, Try.ntmps47
  go_upto_region 0 with (fail)
  refine wp_region_lit ?_
  refine ls_op rfl (fun K' hK' => ?_)
  have lz1 := hB.size
  refine wp_new (some 1) rfl (exec_box 28 _ rfl (#[.int .i64 p, .int .i64 n, .int .i64 m, .int .i64 k, .slice A qs.length c]) rfl) (fun Wz2 nnz3 => ?_)
  have bz4 := nnz3.below (Below.refl _ _) (Nat.le_refl _)
  replace hB := below_after hB bz4
  have hz5 : At Wz2 w.heap.size (.cells #[.int .i64 p, .int .i64 n, .int .i64 m, .int .i64 k, .slice A qs.length c] 28 (0, 0)) := nnz3.at_
  refine hK' _ _ ?_
  clear hK' K' nnz3 bz4
  go_frame
  refine ls_ex (some 2) (.slice none 0 0) rfl rfl (exec_assign _ rfl (.slice none 0 0) rfl) ?_
  go_frame
  refine wpList_nil ?_
  go_upto_region 1 with (fail)
  refine wp_region_lit ?_
  refine ls_ex (some 3) (.slice none 0 0) rfl rfl (exec_assign _ rfl (.slice none 0 0) rfl) ?_
  go_frame
  refine wpList_nil ?_
  go_upto_region 2 with (fail)
  refine wp_region_lit ?_
  refine ls_ex (some 6) (.pointer (some ⟨w.heap.size, 4, none⟩)) rfl rfl (exec_fieldAddr 28 _ 4 rfl _ (by kernel_rfl)) ?_
  go_frame
  refine ls_ex (some 7) (.slice A qs.length c) rfl rfl (exec_load_one 26 _ rfl w.heap.size 4 rfl (.slice A qs.length c) _ Try.underlying26 rfl (hz5.at_ 4)) ?_
  go_frame
  refine ls_ex (some 8) (.int .i64 qs.length) rfl rfl (exec_len _ 26 52 rfl A qs.length c rfl Try.underlying26) ?_
  go_frame
  refine ls_ex (some 9) (.int .i64 0) rfl rfl (exec_move _ rfl (.int .i64 0) rfl) ?_
  go_frame
  refine wpList_nil ?_
  go_wp2_with fail
  go_loopw [3, 9] (fun s3 s9 wr => ∃ (i : Nat) (v : Value), i ≤ qs.length ∧ s9 = .int .i64 i ∧ s3 = v ∧ Below w.heap.size w wr ∧ At wr w.heap.size (.cells #[.int .i64 p, .int .i64 n, .int .i64 m, .int .i64 k, .slice A qs.length c] 28 (0, 0)) ∧ OwnR wr w.heap.size v ((qs.take i).map prP)) (fun _ s9 _ => qs.length - (intOf s9).toNat)
  case atStart => exact ⟨0, _, by omega, rfl, rfl, hB, hz5, OwnR.nil _ _⟩
  case round =>
    clear hB hz5
    obtain ⟨i, v, hi, rfl, rfl, hB, h0, ho⟩ := hrel
    by_cases hlt : i < qs.length
    · obtain ⟨b, off, rfl, hc⟩ := (hR.keep hB).at_ hlt
      clear hc
      have hq := hR.good _ (List.getElem_mem hlt)
      have Hq27 := Lib.hid hq.len
      obtain ⟨A9, c9, rfl⟩ := OwnR.rdN ho (n := i) (mapR_len hi)
      have HT : Hid ((qs.take i).map prP ++ [prP qs[i]] = (qs.take (i + 1)).map prP) := Lib.hid (mapR_step hlt)
      go_upto_region 3 with (fail)
      refine wp_region_lit ?_
      refine ls_ex (some 10) (.bool true) rfl rfl (exec_lss _ _ _ _ rfl i qs.length rfl rfl true (decide_eq_true (by omega))) ?_
      go_frame
      refine wpList_nil ?_
      go_upto_region 4 with (fail)
      refine wp_region_lit ?_
      refine ls_ex (some 11) (.pointer (some ⟨b, off + i * 27, none⟩)) rfl rfl (exec_index_slice _ 52 _ _ rfl b off qs.length c i 27 rfl rfl Try.underlying26 (by kernel_rfl) (by omega)) ?_
      go_frame
      refine ls_ex (some 12) (.agg (u8s (qs[i]))) rfl rfl (exec_load_cells 52 _ rfl b (off + i * 27) rfl (qs[i]) _ 27 (Rd.cP27 (hR.keep hB) hlt) Try.underlying52 rfl (by kernel_rfl) (Hq27.out)) ?_
      go_frame
      refine ls_op rfl (fun K' hK' => ?_)
      have lz6 := hB.size
      have lz7 := h0.lt
      have naz12 := ho.away_new
      refine wp_new (some 5) rfl (al_impl_Product rfl) (fun Wz8 nnz9 => ?_)
      have bz10 := nnz9.below (Below.refl _ _) (Nat.le_refl _)
      replace hB := below_after hB bz10
      replace h0 := h0.after bz10
      replace ho := ho.below bz10
      have hz11 : At Wz8 wr.heap.size (.cells (u8s (List.replicate 27 0)) 52 (0, 0)) := nnz9.at_
      refine hK' _ _ ?_
      clear hK' K' nnz9 bz10
      go_frame
      refine ls_op rfl (fun K' hK' => ?_)
      refine wp_store_bytes 52 _ _ rfl rfl wr.heap.size rfl (qs[i]) rfl _ _ hz11 27 (by kernel_rfl) Hq27.out (by simp) (fun Wz13 pz14 => ?_)
      replace hB := pz14.below hB (by omega)
      replace h0 := pz14.other h0 (by omega)
      replace ho := ho.put pz14 naz12
      replace hz11 : At Wz13 wr.heap.size (.cells (u8s (qs[i])) 52 (0, 0)) := pz14.at_
      refine hK' _ _ ?_
      clear hK' K' pz14
      refine wpList_nil ?_
      go_upto_region 5 with (fail)
      refine wp_region_lit ?_
      refine ls_ex (some 13) (.slice A9 i c9) rfl rfl (exec_move _ rfl (.slice A9 i c9) rfl) ?_
      go_frame
      refine ls_ex (some 14) (.pointer (some ⟨wr.heap.size, 0, none⟩)) rfl rfl (exec_fieldAddr 52 _ 0 rfl _ (by kernel_rfl)) ?_
      go_frame
      refine ls_ex (some 15) (.agg (u8s (segm (qs[i]) 0 9))) rfl rfl (exec_load_seg 49 _ rfl wr.heap.size (0) rfl _ (qs[i]) _ 9 hz11 Try.underlying49 rfl (by kernel_rfl) (by rw [Hq27.out]; omega) (segm (qs[i]) 0 9) rfl) ?_
      go_frame
      refine ls_ex (some 16) (.pointer (some ⟨wr.heap.size, 9, none⟩)) rfl rfl (exec_fieldAddr 52 _ 1 rfl _ (by kernel_rfl)) ?_
      go_frame
      refine ls_ex (some 17) (.agg (u8s (segm (qs[i]) 9 9))) rfl rfl (exec_load_seg 49 _ rfl wr.heap.size (9) rfl _ (qs[i]) _ 9 hz11 Try.underlying49 rfl (by kernel_rfl) (by rw [Hq27.out]; omega) (segm (qs[i]) 9 9) rfl) ?_
      go_frame
      refine ls_ex (some 18) (.agg (u8s (catR (segm qs[i] 0 9) (segm qs[i] 9 9)))) rfl rfl (exec_pair _ _ rfl (segm qs[i] 0 9) (segm qs[i] 9 9) rfl rfl (segm_len (by rw [Hq27.out]; omega)) (segm_len (by rw [Hq27.out]; omega))) ?_
      go_frame
      refine ls_op rfl (fun K' hK' => ?_)
      have lz15 := hB.size
      have lz16 := h0.lt
      have lz17 := hz11.lt
      refine wp_slice1R (some 19) rfl 37 74 _ rfl (prP qs[i]) rfl Try.underlying37 infoPair (prP_bytes hq).len (fun Wz18 nnz19 => ?_)
      have bz20 := nnz19.below (Below.refl _ _) (Nat.le_refl _)
      replace hB := below_after hB bz20
      replace h0 := h0.after bz20
      replace ho := ho.below bz20
      replace hz11 := hz11.after bz20
      have hqz21 : At Wz18 Wz13.heap.size (.cells (u8s (prP qs[i])) 74 (0, 0)) := nnz19.at_
      refine hK' _ _ ?_
      clear hK' K' nnz19 bz20
      go_frame
      refine ls_op rfl (fun K' hK' => ?_)
      have lz25 := hB.size
      have lz26 := h0.lt
      have lz27 := hz11.lt
      have lz28 := hqz21.lt
      refine wp_appR (some 20) rfl _ _ rfl (.slice A9 i c9) ((qs.take i).map prP) (prP qs[i]) rfl ho Wz13.heap.size rfl hqz21 (prP_bytes hq).len (by rw [mapR_len hi]; omega) (by omega) (fun v8 Wz22 noz24 grz23 => ?_)
      rw [HT.out] at noz24
      obtain ⟨A8, c8, rfl⟩ := OwnR.rdN noz24 (n := i + 1) (mapR_len (by omega))
      replace hB := below_grownR hB grz23 ho (by omega)
      replace h0 := h0.grown grz23 (ho.off h0 (by decide))
      replace hz11 := hz11.grown grz23 (ho.off hz11 (by decide))
      replace ho := noz24
      refine hK' _ _ ?_
      clear hK' K' grz23 hqz21
      go_frame
      refine ls_ex (some 3) (.slice A8 (i + 1) c8) rfl rfl (exec_assign _ rfl (.slice A8 (i + 1) c8) rfl) ?_
      go_frame
      refine wpList_nil ?_
      go_upto_region 6 with (fail)
      refine wp_region_lit ?_
      refine ls_ex (some 21) (.int .i64 (i + 1)) rfl rfl (exec_add _ _ _ _ rfl i 1 (i + 1) rfl rfl (IntWalk.i64_in _ (by omega))) ?_
      go_frame
      refine ls_ex (some 9) (.int .i64 (i + 1)) rfl rfl (exec_move _ rfl (.int .i64 (i + 1)) rfl) ?_
      go_frame
      refine wpList_nil ?_
      go_wp2_with fail
      go_roundw
      case rel => exact ⟨i + 1, _, by omega, by go_num, rfl, hB, h0, ho⟩
      case measure => simp [intOf]; omega
    · obtain ⟨A9, c9, rfl⟩ := OwnR.rdN ho (n := i) (mapR_len hi)
      have HE : Hid ((qs.take i).map prP = qs.map prP) := Lib.hid (by rw [show i = qs.length by omega, List.take_length])
      rw [HE.out] at ho
      go_upto_region 3 with (fail)
      refine wp_region_lit ?_
      refine ls_ex (some 10) (.bool false) rfl rfl (exec_lss _ _ _ _ rfl i qs.length rfl rfl false (decide_eq_false (by omega))) ?_
      go_frame
      refine wpList_nil ?_
      go_upto_region 7 with (fail)
      refine wp_region_lit ?_
      refine ls_ex (some 22) (.slice A9 i c9) rfl rfl (exec_move _ rfl (.slice A9 i c9) rfl) ?_
      go_frame
      refine ls_ex (some 2) (.slice A9 i c9) rfl rfl (exec_assign _ rfl (.slice A9 i c9) rfl) ?_
      go_frame
      refine wpList_nil ?_
      go_wp2_with fail
      go_ret
      exact ⟨_, rfl, ho, hB⟩
set_option maxHeartbeats 4000000 in
theorem specPairsOf_false (p n m k : Int) (A : Option Addr) (c : Nat) (qs : List (List Nat)) (w : World) (hR : Rd w A qs) (hlen : qs.length ≤ 1048576) (hs : schemeB p n m k qs = false) :
    Calls Try.prog 16 #[.agg #[.int .i64 p, .int .i64 n, .int .i64 m, .int .i64 k, .slice A qs.length c]] w (ResR w (prL (prCode p n m k qs) (qs.map prP)) (prCode p n m k qs)) := by
  have hB := Below.refl w.heap.size w
  have HC : Hid (prCode p n m k qs = 1) := Lib.hid (by unfold prCode; rw [hs]; rfl)
  have Hs := Lib.hid hs
  clear hs
  go_enter Try.func16, Try.ntmps16
  go_upto_region 0 with (fail)
  refine wp_region_lit ?_
  refine ls_op rfl (fun K' hK' => ?_)
  have lz1 := hB.size
  refine wp_new (some 1) rfl (exec_box 28 _ rfl (#[.int .i64 p, .int .i64 n, .int .i64 m, .int .i64 k, .slice A qs.length c]) rfl) (fun Wz2 nnz3 => ?_)
  have bz4 := nnz3.below (Below.refl _ _) (Nat.le_refl _)
  replace hB := below_after hB bz4
  have hz5 : At Wz2 w.heap.size (.cells #[.int .i64 p, .int .i64 n, .int .i64 m, .int .i64 k, .slice A qs.length c] 28 (0, 0)) := nnz3.at_
  refine hK' _ _ ?_
  clear hK' K' nnz3 bz4
  go_frame
  refine ls_ex (some 2) (.slice none 0 0) rfl rfl (exec_assign _ rfl (.slice none 0 0) rfl) ?_
  go_frame
  refine ls_ex (some 3) (.int .i64 0) rfl rfl (exec_assign _ rfl (.int .i64 0) rfl) ?_
  go_frame
  refine wpList_nil ?_
  go_upto_region 1 with (fail)
  refine wp_region_lit ?_
  refine ls_ex (some 4) (.agg #[.int .i64 p, .int .i64 n, .int .i64 m, .int .i64 k, .slice A qs.length c]) rfl rfl (exec_load_all 28 _ rfl w.heap.size rfl _ _ _ hz5 Try.underlying28 rfl 5 (by kernel_rfl) rfl) ?_
  go_frame
  refine ls_op rfl (fun K' hK' => ?_)
  have lz8 := hB.size
  have lz9 := hz5.lt
  refine wp_call1 (some 5) rfl 24 _ _ rfl (fun args w => by kernel_rfl) _ rfl _ (l01Is_c p n m k A c qs _ (hR.keep hB) (by omega)) (fun e Wz6 h => ?_)
  obtain ⟨rfl, bz7⟩ := h
  replace hB := below_after hB bz7
  replace hz5 := hz5.after bz7
  rw [Hs.out]
  clear bz7
  refine ⟨_, rfl, ?_⟩
  refine hK' _ _ ?_
  clear hK' K'
  go_frame
  refine ls_ex (some 6) (.bool true) rfl rfl (exec_not _ _ rfl false rfl) ?_
  go_frame
  refine wpList_nil ?_
  go_upto_region 2 with (fail)
  refine wp_region_lit ?_
  refine ls_ex (some 2) (.slice none 0 0) rfl rfl (exec_assign _ rfl (.slice none 0 0) rfl) ?_
  go_frame
  refine ls_ex (some 3) (.int .i64 1) rfl rfl (exec_assign _ rfl (.int .i64 1) rfl) ?_
  go_frame
  refine wpList_nil ?_
  go_wp2_with fail
  go_ret2
  unfold ResR prL
  rw [HC.out]
  exact ⟨_, rfl, OwnR.nil _ _, hB⟩
set_option maxHeartbeats 4000000 in
theorem specPairsOf_true (p n m k : Int) (A : Option Addr) (c : Nat) (qs : List (List Nat)) (w : World) (hR : Rd w A qs) (hlen : qs.length ≤ 1048576) (hs : schemeB p n m k qs = true) :
    Calls Try.prog 16 #[.agg #[.int .i64 p, .int .i64 n, .int .i64 m, .int .i64 k, .slice A qs.length c]] w (ResR w (prL (prCode p n m k qs) (qs.map prP)) (prCode p n m k qs)) := by
  have hB := Below.refl w.heap.size w
  have HC : Hid (prCode p n m k qs = 0) := Lib.hid (by unfold prCode; rw [hs]; rfl)
  have Hs := Lib.hid hs
  have hl6 : qs.length ≤ 1000000 := by have h := hs; unfold schemeB at h; simp only [Bool.and_eq_true, decide_eq_true_eq] at h; omega
  clear hs
  go_enter Try.func16, Try.ntmps16
  go_upto_region 0 with (fail)
  refine wp_region_lit ?_
  refine ls_op rfl (fun K' hK' => ?_)
  have lz1 := hB.size
  refine wp_new (some 1) rfl (exec_box 28 _ rfl (#[.int .i64 p, .int .i64 n, .int .i64 m, .int .i64 k, .slice A qs.length c]) rfl) (fun Wz2 nnz3 => ?_)
  have bz4 := nnz3.below (Below.refl _ _) (Nat.le_refl _)
  replace hB := below_after hB bz4
  have hz5 : At Wz2 w.heap.size (.cells #[.int .i64 p, .int .i64 n, .int .i64 m, .int .i64 k, .slice A qs.length c] 28 (0, 0)) := nnz3.at_
  refine hK' _ _ ?_
  clear hK' K' nnz3 bz4
  go_frame
  refine ls_ex (some 2) (.slice none 0 0) rfl rfl (exec_assign _ rfl (.slice none 0 0) rfl) ?_
  go_frame
  refine ls_ex (some 3) (.int .i64 0) rfl rfl (exec_assign _ rfl (.int .i64 0) rfl) ?_
  go_frame
  refine wpList_nil ?_
  go_upto_region 1 with (fail)
  refine wp_region_lit ?_
  refine ls_ex (some 4) (.agg #[.int .i64 p, .int .i64 n, .int .i64 m, .int .i64 k, .slice A qs.length c]) rfl rfl (exec_load_all 28 _ rfl w.heap.size rfl _ _ _ hz5 Try.underlying28 rfl 5 (by kernel_rfl) rfl) ?_
  go_frame
  refine ls_op rfl (fun K' hK' => ?_)
  have lz8 := hB.size
  have lz9 := hz5.lt
  refine wp_call1 (some 5) rfl 24 _ _ rfl (fun args w => by kernel_rfl) _ rfl _ (l01Is_c p n m k A c qs _ (hR.keep hB) (by omega)) (fun e Wz6 h => ?_)
  obtain ⟨rfl, bz7⟩ := h
  replace hB := below_after hB bz7
  replace hz5 := hz5.after bz7
  rw [Hs.out]
  clear bz7
  refine ⟨_, rfl, ?_⟩
  refine hK' _ _ ?_
  clear hK' K'
  go_frame
  refine ls_ex (some 6) (.bool false) rfl rfl (exec_not _ _ rfl true rfl) ?_
  go_frame
  refine wpList_nil ?_
  go_upto_region 3 with (fail)
  refine wp_region_lit ?_
  refine ls_ex (some 7) (.agg #[.int .i64 p, .int .i64 n, .int .i64 m, .int .i64 k, .slice A qs.length c]) rfl rfl (exec_load_all 28 _ rfl w.heap.size rfl _ _ _ hz5 Try.underlying28 rfl 5 (by kernel_rfl) rfl) ?_
  go_frame
  refine ls_op rfl (fun K' hK' => ?_)
  have lz12 := hB.size
  have lz13 := hz5.lt
  have lo9 := hB.size
  refine wp_call1 (some 8) rfl 46 _ _ rfl (fun args w => by kernel_rfl) _ rfl _ (l10Pairs_c p n m k A c qs _ (hR.keep hB) hl6) (fun e Wz10 h => ?_)
  obtain ⟨v9, rfl, ho, bz11⟩ := h
  replace hB := below_after hB bz11
  replace hz5 := hz5.after bz11
  obtain ⟨A9, c9, rfl⟩ := OwnR.rdN ho (n := qs.length) (by simp)
  clear bz11
  refine ⟨_, rfl, ?_⟩
  refine hK' _ _ ?_
  clear hK' K'
  go_frame
  refine ls_ex (some 2) (.slice A9 qs.length c9) rfl rfl (exec_assign _ rfl (.slice A9 qs.length c9) rfl) ?_
  go_frame
  refine ls_ex (some 3) (.int .i64 0) rfl rfl (exec_assign _ rfl (.int .i64 0) rfl) ?_
  go_frame
  refine wpList_nil ?_
  go_wp2_with fail
  go_ret2
  unfold ResR prL
  rw [HC.out]
  exact ⟨_, rfl, ho.mono (by omega), hB⟩
theorem specPairsOf_c (p n m k : Int) (A : Option Addr) (c : Nat) (qs : List (List Nat)) (w : World) (hR : Rd w A qs) (hlen : qs.length ≤ 1048576) : Calls Try.prog 16 #[.agg #[.int .i64 p, .int .i64 n, .int .i64 m, .int .i64 k, .slice A qs.length c]] w (ResR w (prL (prCode p n m k qs) (qs.map prP)) (prCode p n m k qs)) := by
  rcases Bool.eq_false_or_eq_true (schemeB p n m k qs) with hs | hs
  · exact specPairsOf_true p n m k A c qs w hR hlen hs
  · exact specPairsOf_false p n m k A c qs w hR hlen hs
set_option maxHeartbeats 4000000 in
theorem implPairsOf_false (p n m k : Int) (A : Option Addr) (c : Nat) (qs : List (List Nat)) (w : World) (hR : Rd w A qs) (hlen : qs.length ≤ 1048576) (hs : schemeB p n m k qs = false) :
    Calls Try.prog 17 #[.agg #[.int .i64 p, .int .i64 n, .int .i64 m, .int .i64 k, .slice A qs.length c]] w (ResR w (prL (prCode p n m k qs) (qs.map prP)) (prCode p n m k qs)) := by
  have hB := Below.refl w.heap.size w
  have HC : Hid (prCode p n m k qs = 1) := Lib.hid (by unfold prCode; rw [hs]; rfl)
  have Hs := Lib.hid hs
  clear hs
  go_enter Try.func17, Try.ntmps17
  go_upto_region 0 with (fail)
  refine wp_region_lit ?_
  refine ls_op rfl (fun K' hK' => ?_)
  have lz1 := hB.size
  refine wp_new (some 1) rfl (exec_box 28 _ rfl (#[.int .i64 p, .int .i64 n, .int .i64 m, .int .i64 k, .slice A qs.length c]) rfl) (fun Wz2 nnz3 => ?_)
  have bz4 := nnz3.below (Below.refl _ _) (Nat.le_refl _)
  replace hB := below_after hB bz4
  have hz5 : At Wz2 w.heap.size (.cells #[.int .i64 p, .int .i64 n, .int .i64 m, .int .i64 k, .slice A qs.length c] 28 (0, 0)) := nnz3.at_
  refine hK' _ _ ?_
  clear hK' K' nnz3 bz4
  go_frame
  refine ls_ex (some 2) (.slice none 0 0) rfl rfl (exec_assign _ rfl (.slice none 0 0) rfl) ?_
  go_frame
  refine ls_ex (some 3) (.int .i64 0) rfl rfl (exec_assign _ rfl (.int .i64 0) rfl) ?_
  go_frame
  refine wpList_nil ?_
  go_upto_region 1 with (fail)
  refine wp_region_lit ?_
  refine ls_ex (some 4) (.agg #[.int .i64 p, .int .i64 n, .int .i64 m, .int .i64 k, .slice A qs.length c]) rfl rfl (exec_load_all 28 _ rfl w.heap.size rfl _ _ _ hz5 Try.underlying28 rfl 5 (by kernel_rfl) rfl) ?_
  go_frame
  refine ls_op rfl (fun K' hK' => ?_)
  have lz8 := hB.size
  have lz9 := hz5.lt
  refine wp_call1 (some 5) rfl 30 _ _ rfl (fun args w => by kernel_rfl) _ rfl _ (implIsScheme_c p n m k A c qs _ (hR.keep hB) (by omega)) (fun e Wz6 h => ?_)
  obtain ⟨rfl, bz7⟩ := h
  replace hB := below_after hB bz7
  replace hz5 := hz5.after bz7
  rw [Hs.out]
  clear bz7
  refine ⟨_, rfl, ?_⟩
  refine hK' _ _ ?_
  clear hK' K'
  go_frame
  refine ls_ex (some 6) (.bool true) rfl rfl (exec_not _ _ rfl false rfl) ?_
  go_frame
  refine wpList_nil ?_
  go_upto_region 2 with (fail)
  refine wp_region_lit ?_
  refine ls_ex (some 2) (.slice none 0 0) rfl rfl (exec_assign _ rfl (.slice none 0 0) rfl) ?_
  go_frame
  refine ls_ex (some 3) (.int .i64 1) rfl rfl (exec_assign _ rfl (.int .i64 1) rfl) ?_
  go_frame
  refine wpList_nil ?_
  go_wp2_with fail
  go_ret2
  unfold ResR prL
  rw [HC.out]
  exact ⟨_, rfl, OwnR.nil _ _, hB⟩
set_option maxHeartbeats 4000000 in
theorem implPairsOf_true (p n m k : Int) (A : Option Addr) (c : Nat) (qs : List (List Nat)) (w : World) (hR : Rd w A qs) (hlen : qs.length ≤ 1048576) (hs : schemeB p n m k qs = true) :
    Calls Try.prog 17 #[.agg #[.int .i64 p, .int .i64 n, .int .i64 m, .int .i64 k, .slice A qs.length c]] w (ResR w (prL (prCode p n m k qs) (qs.map prP)) (prCode p n m k qs)) := by
  have hB := Below.refl w.heap.size w
  have HC : Hid (prCode p n m k qs = 0) := Lib.hid (by unfold prCode; rw [hs]; rfl)
  have Hs := Lib.hid hs
  have hl6 : qs.length ≤ 1000000 := by have h := hs; unfold schemeB at h; simp only [Bool.and_eq_true, decide_eq_true_eq] at h; omega
  clear hs
  go_enter Try.func17, Try.ntmps17
  go_upto_region 0 with (fail)
  refine wp_region_lit ?_
  refine ls_op rfl (fun K' hK' => ?_)
  have lz1 := hB.size
  refine wp_new (some 1) rfl (exec_box 28 _ rfl (#[.int .i64 p, .int .i64 n, .int .i64 m, .int .i64 k, .slice A qs.length c]) rfl) (fun Wz2 nnz3 => ?_)
  have bz4 := nnz3.below (Below.refl _ _) (Nat.le_refl _)
  replace hB := below_after hB bz4
  have hz5 : At Wz2 w.heap.size (.cells #[.int .i64 p, .int .i64 n, .int .i64 m, .int .i64 k, .slice A qs.length c] 28 (0, 0)) := nnz3.at_
  refine hK' _ _ ?_
  clear hK' K' nnz3 bz4
  go_frame
  refine ls_ex (some 2) (.slice none 0 0) rfl rfl (exec_assign _ rfl (.slice none 0 0) rfl) ?_
  go_frame
  refine ls_ex (some 3) (.int .i64 0) rfl rfl (exec_assign _ rfl (.int .i64 0) rfl) ?_
  go_frame
  refine wpList_nil ?_
  go_upto_region 1 with (fail)
  refine wp_region_lit ?_
  refine ls_ex (some 4) (.agg #[.int .i64 p, .int .i64 n, .int .i64 m, .int .i64 k, .slice A qs.length c]) rfl rfl (exec_load_all 28 _ rfl w.heap.size rfl _ _ _ hz5 Try.underlying28 rfl 5 (by kernel_rfl) rfl) ?_
  go_frame
  refine ls_op rfl (fun K' hK' => ?_)
  have lz8 := hB.size
  have lz9 := hz5.lt
  refine wp_call1 (some 5) rfl 30 _ _ rfl (fun args w => by kernel_rfl) _ rfl _ (implIsScheme_c p n m k A c qs _ (hR.keep hB) (by omega)) (fun e Wz6 h => ?_)
  obtain ⟨rfl, bz7⟩ := h
  replace hB := below_after hB bz7
  replace hz5 := hz5.after bz7
  rw [Hs.out]
  clear bz7
  refine ⟨_, rfl, ?_⟩
  refine hK' _ _ ?_
  clear hK' K'
  go_frame
  refine ls_ex (some 6) (.bool false) rfl rfl (exec_not _ _ rfl true rfl) ?_
  go_frame
  refine wpList_nil ?_
  go_upto_region 3 with (fail)
  refine wp_region_lit ?_
  refine ls_ex (some 7) (.agg #[.int .i64 p, .int .i64 n, .int .i64 m, .int .i64 k, .slice A qs.length c]) rfl rfl (exec_load_all 28 _ rfl w.heap.size rfl _ _ _ hz5 Try.underlying28 rfl 5 (by kernel_rfl) rfl) ?_
  go_frame
  refine ls_op rfl (fun K' hK' => ?_)
  have lz12 := hB.size
  have lz13 := hz5.lt
  have lo9 := hB.size
  refine wp_call1 (some 8) rfl 47 _ _ rfl (fun args w => by kernel_rfl) _ rfl _ (pairsOf_c p n m k A c qs _ (hR.keep hB) hl6) (fun e Wz10 h => ?_)
  obtain ⟨v9, rfl, ho, bz11⟩ := h
  replace hB := below_after hB bz11
  replace hz5 := hz5.after bz11
  obtain ⟨A9, c9, rfl⟩ := OwnR.rdN ho (n := qs.length) (by simp)
  clear bz11
  refine ⟨_, rfl, ?_⟩
  refine hK' _ _ ?_
  clear hK' K'
  go_frame
  refine ls_ex (some 2) (.slice A9 qs.length c9) rfl rfl (exec_assign _ rfl (.slice A9 qs.length c9) rfl) ?_
  go_frame
  refine ls_ex (some 3) (.int .i64 0) rfl rfl (exec_assign _ rfl (.int .i64 0) rfl) ?_
  go_frame
  refine wpList_nil ?_
  go_wp2_with fail
  go_ret2
  unfold ResR prL
  rw [HC.out]
  exact ⟨_, rfl, ho.mono (by omega), hB⟩
theorem implPairsOf_c (p n m k : Int) (A : Option Addr) (c : Nat) (qs : List (List Nat)) (w : World) (hR : Rd w A qs) (hlen : qs.length ≤ 1048576) : Calls Try.prog 17 #[.agg #[.int .i64 p, .int .i64 n, .int .i64 m, .int .i64 k, .slice A qs.length c]] w (ResR w (prL (prCode p n m k qs) (qs.map prP)) (prCode p n m k qs)) := by
  rcases Bool.eq_false_or_eq_true (schemeB p n m k qs) with hs | hs
  · exact implPairsOf_true p n m k A c qs w hR hlen hs
  · exact implPairsOf_false p n m k A c qs w hR hlen hs
end Go.Proofs.Ytppenoincihoeaa
