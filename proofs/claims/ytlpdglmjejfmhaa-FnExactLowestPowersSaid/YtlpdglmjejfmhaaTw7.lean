/-
  spec.l08Of; BorderOfScheme of both sides. (Made by mktw7.py.)
-/
import Derived.Test.YtlpdglmjejfmhaaTw6
import Derived.Test.YtlpdglmjejfmhaaHeldT
namespace Go.Proofs.Ytlpdglmjejfmhaa
open Go.RowKit
set_option maxRecDepth 100000
attribute [local irreducible] wpList
theorem al_impl_Border {o : Oper} {a : Act} {w : World} (ho : o.op = .alloc 29) : (execOp a.eval o).run Try.prog w = .ok (.value (.pointer (some ⟨w.heap.size, 0, none⟩))) (w.alloc (.cells #[.int .i64 0, .int .i64 0, .int .i64 0, .int .i64 0, .slice none 0 0] 29 (0, 0))) := by
  unfold execOp
  rw [ho]
  kernel_rfl
theorem al_impl_Product {o : Oper} {a : Act} {w : World} (ho : o.op = .alloc 73) : (execOp a.eval o).run Try.prog w = .ok (.value (.pointer (some ⟨w.heap.size, 0, none⟩))) (w.alloc (.cells (u8s (List.replicate 27 0)) 73 (0, 0))) := by
  unfold execOp
  rw [ho]
  kernel_rfl
theorem Rd.cT27 {w : World} {b off : Nat} {ts : List (List Nat)} (h : Rd w (some ⟨b, off, none⟩) ts) {i : Nat} (hi : i < ts.length) : ∀ j, j < 27 → w.cell? ⟨b, off + i * 27 + j, none⟩ = some (.int .u8 ((ts[i][j]?.getD 0 : Nat) : Int)) := by
  obtain ⟨b', off', e, hc⟩ := h.at_ hi
  simp only [Option.some.injEq, Addr.mk.injEq, and_true] at e
  obtain ⟨rfl, rfl⟩ := e
  exact hc
theorem seriesCon_c (f : List Nat) (hf : Bytes 9 f) (w : World) : Calls Try.prog 43 #[.agg (u8s (f ++ List.replicate 27 0))] w (fun e w' => e = .returned (.agg (u8s (conS f))) ∧ Below w.heap.size w w') := by
  have h := series_c (f ++ List.replicate 27 0) ⟨by simp [hf.len], fun n hn => by rcases List.mem_append.1 hn with h | h; exact hf.2 n h; simp at h; omega⟩ w
  rwa [serOf_con f hf.len] at h
set_option maxHeartbeats 12800000 in
theorem l08Of_c (p n m k : Int) (A : Option Addr) (c : Nat) (qs : List (List Nat)) (w : World) (hR : Rd w A qs) (hlen : qs.length ≤ 1000000) :
    Calls Try.prog 41 #[.agg #[.int .i64 p, .int .i64 n, .int .i64 m, .int .i64 k, .slice A qs.length c]] w (fun e w' => ∃ v, e = .returned (.agg #[.int .i64 p, .int .i64 n, .int .i64 m, .int .i64 k, v]) ∧ OwnT w' w.heap.size v (qs.map conT) ∧ Below w.heap.size w w') := by
  have hB := Below.refl w.heap.size w
  skip
  go_enter Try.func41, Try.ntmps41
  go_upto_region 0 with (fail)
  refine wp_region_lit ?_
  refine ls_op rfl (fun K' hK' => ?_)
  have lz1 := hB.size
  refine wp_new (some 1) rfl (exec_box 41 _ rfl (#[.int .i64 p, .int .i64 n, .int .i64 m, .int .i64 k, .slice A qs.length c]) rfl) (fun Wz2 nnz3 => ?_)
  have bz4 := nnz3.below (Below.refl _ _) (Nat.le_refl _)
  replace hB := below_after hB bz4
  have hz5 : At Wz2 w.heap.size (.cells #[.int .i64 p, .int .i64 n, .int .i64 m, .int .i64 k, .slice A qs.length c] 41 (0, 0)) := nnz3.at_
  refine hK' _ _ ?_
  clear hK' K' nnz3 bz4
  go_frame
  refine ls_op rfl (fun K' hK' => ?_)
  have lz6 := hB.size
  have lz7 := hz5.lt
  refine wp_new (some 2) rfl (al_impl_Border rfl) (fun Wz8 nnz9 => ?_)
  have bz10 := nnz9.below (Below.refl _ _) (Nat.le_refl _)
  replace hB := below_after hB bz10
  replace hz5 := hz5.after bz10
  have hz11 : At Wz8 Wz2.heap.size (.cells #[.int .i64 0, .int .i64 0, .int .i64 0, .int .i64 0, .slice none 0 0] 29 (0, 0)) := nnz9.at_
  refine hK' _ _ ?_
  clear hK' K' nnz9 bz10
  go_frame
  refine wpList_nil ?_
  go_upto_region 1 with (fail)
  refine wp_region_lit ?_
  refine ls_ex (some 6) (.pointer (some ⟨w.heap.size, 0, none⟩)) rfl rfl (exec_fieldAddr 41 _ 0 rfl _ (by kernel_rfl)) ?_
  go_frame
  refine ls_ex (some 7) (.int .i64 p) rfl rfl (exec_load_one 2 _ rfl w.heap.size 0 rfl (.int .i64 p) _ Try.underlying2 rfl (hz5.at_ 0)) ?_
  go_frame
  refine ls_ex (some 8) (.pointer (some ⟨w.heap.size, 1, none⟩)) rfl rfl (exec_fieldAddr 41 _ 1 rfl _ (by kernel_rfl)) ?_
  go_frame
  refine ls_ex (some 9) (.int .i64 n) rfl rfl (exec_load_one 2 _ rfl w.heap.size 1 rfl (.int .i64 n) _ Try.underlying2 rfl (hz5.at_ 1)) ?_
  go_frame
  refine ls_ex (some 10) (.pointer (some ⟨w.heap.size, 2, none⟩)) rfl rfl (exec_fieldAddr 41 _ 2 rfl _ (by kernel_rfl)) ?_
  go_frame
  refine ls_ex (some 11) (.int .i64 m) rfl rfl (exec_load_one 2 _ rfl w.heap.size 2 rfl (.int .i64 m) _ Try.underlying2 rfl (hz5.at_ 2)) ?_
  go_frame
  refine ls_ex (some 12) (.pointer (some ⟨w.heap.size, 3, none⟩)) rfl rfl (exec_fieldAddr 41 _ 3 rfl _ (by kernel_rfl)) ?_
  go_frame
  refine ls_ex (some 13) (.int .i64 k) rfl rfl (exec_load_one 2 _ rfl w.heap.size 3 rfl (.int .i64 k) _ Try.underlying2 rfl (hz5.at_ 3)) ?_
  go_frame
  refine ls_op rfl (fun K' hK' => ?_)
  have lz15 := hB.size
  have lz16 := hz5.lt
  have lz17 := hz11.lt
  refine wp_new (some 14) rfl (exec_bs0T rfl) (fun Wz12 nnz13 => ?_)
  have bz14 := nnz13.below (Below.refl _ _) (Nat.le_refl _)
  replace hB := below_after hB bz14
  replace hz5 := hz5.after bz14
  replace hz11 := hz11.after bz14
  have ho : OwnT Wz12 w.heap.size (.slice (some ⟨Wz8.heap.size, 0, none⟩) 0 0) [] := (own_bs0T nnz13).mono (by have := hB.size; omega)
  refine hK' _ _ ?_
  clear hK' K' nnz13 bz14
  go_frame
  refine ls_ex (some 15) (.agg #[.int .i64 p, .int .i64 n, .int .i64 m, .int .i64 k, .slice (some ⟨Wz8.heap.size, 0, none⟩) 0 0]) rfl rfl (exec_build_brd _ _ _ _ _ rfl p n m k (some ⟨Wz8.heap.size, 0, none⟩) 0 0 rfl rfl rfl rfl rfl) ?_
  go_frame
  refine ls_op rfl (fun K' hK' => ?_)
  have lz18 := hB.size
  have lz19 := hz5.lt
  have lz20 := hz11.lt
  have naz25 := ho.away_new
  refine wp_new (some 3) rfl (al_impl_Border rfl) (fun Wz21 nnz22 => ?_)
  have bz23 := nnz22.below (Below.refl _ _) (Nat.le_refl _)
  replace hB := below_after hB bz23
  replace hz5 := hz5.after bz23
  replace hz11 := hz11.after bz23
  replace ho := ho.below bz23
  have hz24 : At Wz21 Wz12.heap.size (.cells #[.int .i64 0, .int .i64 0, .int .i64 0, .int .i64 0, .slice none 0 0] 29 (0, 0)) := nnz22.at_
  refine hK' _ _ ?_
  clear hK' K' nnz22 bz23
  go_frame
  refine ls_op rfl (fun K' hK' => ?_)
  refine wp_store_all 29 _ _ rfl rfl Wz12.heap.size rfl #[.int .i64 p, .int .i64 n, .int .i64 m, .int .i64 k, .slice (some ⟨Wz8.heap.size, 0, none⟩) 0 0] rfl _ _ hz24 5 (by kernel_rfl) rfl rfl (one5 _ _ _ _ _ _ _) (fun Wz26 pz27 => ?_)
  replace hB := pz27.below hB (by omega)
  replace hz5 := pz27.other hz5 (by omega)
  replace hz11 := pz27.other hz11 (by omega)
  replace ho := ho.put pz27 naz25
  replace hz24 : At Wz26 Wz12.heap.size (.cells #[.int .i64 p, .int .i64 n, .int .i64 m, .int .i64 k, .slice (some ⟨Wz8.heap.size, 0, none⟩) 0 0] 29 (0, 0)) := pz27.at_
  refine hK' _ _ ?_
  clear hK' K' pz27
  refine wpList_nil ?_
  go_upto_region 2 with (fail)
  refine wp_region_lit ?_
  refine ls_ex (some 4) (.int .i64 0) rfl rfl (exec_assign _ rfl (.int .i64 0) rfl) ?_
  go_frame
  refine wpList_nil ?_
  go_wp2_with fail
  go_loopw [4] (fun s4 wr => ∃ (i : Nat) (v : Value), i ≤ qs.length ∧ s4 = .int .i64 i ∧ Below w.heap.size w wr ∧ At wr w.heap.size (.cells #[.int .i64 p, .int .i64 n, .int .i64 m, .int .i64 k, .slice A qs.length c] 41 (0, 0)) ∧ At wr Wz2.heap.size (.cells #[.int .i64 0, .int .i64 0, .int .i64 0, .int .i64 0, .slice none 0 0] 29 (0, 0)) ∧ At wr Wz12.heap.size (.cells #[.int .i64 p, .int .i64 n, .int .i64 m, .int .i64 k, v] 29 (0, 0)) ∧ OwnT wr w.heap.size v ((qs.take i).map conT)) (fun s4 _ => qs.length - (intOf s4).toNat)
  case atStart => exact ⟨0, _, by omega, rfl, hB, hz5, hz11, hz24, ho⟩
  case round =>
    clear hB hz5 hz11 ho hz24
    obtain ⟨i, v, hi, rfl, hB, h0, h1, h2, ho⟩ := hrel
    by_cases hlt : i < qs.length
    · obtain ⟨b, off, rfl, hc⟩ := (hR.keep hB).at_ hlt
      clear hc
      have hq := hR.good _ (List.getElem_mem hlt)
      have Hq27 := Lib.hid hq.len
      obtain ⟨A9, c9, rfl⟩ := OwnT.rdN ho (n := i) (map_take_len hi)
      have HT : Hid ((qs.take i).map conT ++ [conT qs[i]] = (qs.take (i + 1)).map conT) := Lib.hid (map_take_step hlt)
      go_upto_region 3 with (fail)
      refine wp_region_lit ?_
      refine ls_ex (some 16) (.int .i64 i) rfl rfl (exec_move _ rfl (.int .i64 i) rfl) ?_
      go_frame
      refine ls_ex (some 17) (.pointer (some ⟨w.heap.size, 4, none⟩)) rfl rfl (exec_fieldAddr 41 _ 4 rfl _ (by kernel_rfl)) ?_
      go_frame
      refine ls_ex (some 18) (.slice (some ⟨b, off, none⟩) qs.length c) rfl rfl (exec_load_one 39 _ rfl w.heap.size 4 rfl (.slice (some ⟨b, off, none⟩) qs.length c) _ Try.underlying39 rfl (h0.at_ 4)) ?_
      go_frame
      refine ls_ex (some 19) (.int .i64 qs.length) rfl rfl (exec_len _ 39 73 rfl ((some ⟨b, off, none⟩)) qs.length c rfl Try.underlying39) ?_
      go_frame
      refine ls_ex (some 20) (.bool true) rfl rfl (exec_lss _ _ _ _ rfl i qs.length rfl rfl true (decide_eq_true (by omega))) ?_
      go_frame
      refine wpList_nil ?_
      go_upto_region 5 with (fail)
      refine wp_region_lit ?_
      refine ls_ex (some 23) (.pointer (some ⟨w.heap.size, 4, none⟩)) rfl rfl (exec_fieldAddr 41 _ 4 rfl _ (by kernel_rfl)) ?_
      go_frame
      refine ls_ex (some 24) (.slice (some ⟨b, off, none⟩) qs.length c) rfl rfl (exec_load_one 39 _ rfl w.heap.size 4 rfl (.slice (some ⟨b, off, none⟩) qs.length c) _ Try.underlying39 rfl (h0.at_ 4)) ?_
      go_frame
      refine ls_ex (some 25) (.int .i64 i) rfl rfl (exec_move _ rfl (.int .i64 i) rfl) ?_
      go_frame
      refine ls_ex (some 26) (.pointer (some ⟨b, off + i * 27, none⟩)) rfl rfl (exec_index_slice _ 73 _ _ rfl b off qs.length c i 27 rfl rfl Try.underlying39 (by kernel_rfl) (by omega)) ?_
      go_frame
      refine ls_ex (some 27) (.agg (u8s (qs[i]))) rfl rfl (exec_load_cells 73 _ rfl b (off + i * 27) rfl (qs[i]) _ 27 (Rd.cT27 (hR.keep hB) hlt) Try.underlying73 rfl (by kernel_rfl) (Hq27.out)) ?_
      go_frame
      refine ls_op rfl (fun K' hK' => ?_)
      have lz28 := hB.size
      have lz29 := h0.lt
      have lz30 := h1.lt
      have lz31 := h2.lt
      have naz36 := ho.away_new
      refine wp_new (some 5) rfl (al_impl_Product rfl) (fun Wz32 nnz33 => ?_)
      have bz34 := nnz33.below (Below.refl _ _) (Nat.le_refl _)
      replace hB := below_after hB bz34
      replace h0 := h0.after bz34
      replace h1 := h1.after bz34
      replace h2 := h2.after bz34
      replace ho := ho.below bz34
      have hz35 : At Wz32 wr.heap.size (.cells (u8s (List.replicate 27 0)) 73 (0, 0)) := nnz33.at_
      refine hK' _ _ ?_
      clear hK' K' nnz33 bz34
      go_frame
      refine ls_op rfl (fun K' hK' => ?_)
      refine wp_store_bytes 73 _ _ rfl rfl wr.heap.size rfl (qs[i]) rfl _ _ hz35 27 (by kernel_rfl) Hq27.out (by simp) (fun Wz37 pz38 => ?_)
      replace hB := pz38.below hB (by omega)
      replace h0 := pz38.other h0 (by omega)
      replace h1 := pz38.other h1 (by omega)
      replace h2 := pz38.other h2 (by omega)
      replace ho := ho.put pz38 naz36
      replace hz35 : At Wz37 wr.heap.size (.cells (u8s (qs[i])) 73 (0, 0)) := pz38.at_
      refine hK' _ _ ?_
      clear hK' K' pz38
      refine wpList_nil ?_
      go_upto_region 6 with (fail)
      refine wp_region_y (zs := [15]) (S := fun w' => Below w.heap.size w w' ∧ At w' wr.heap.size (.cells (u8s (qs[i])) 73 (0, 0))) (S2 := fun w' => At w' Wz12.heap.size (.cells #[.int .i64 p, .int .i64 n, .int .i64 m, .int .i64 k, .slice A9 i c9] 29 (0, 0))) (by kernel_rfl) ?_
      change wpAnyY _ _ _ _ _ _ _ _ _ _ (World.drew _)
      generalize hwdz39 : World.drew _ = wdz39
      replace hB : Below w.heap.size w wdz39 := by rw [← hwdz39]; exact hB.drew
      replace h0 : At wdz39 w.heap.size (.cells #[.int .i64 p, .int .i64 n, .int .i64 m, .int .i64 k, .slice (some ⟨b, off, none⟩) qs.length c] 41 (0, 0)) := by rw [← hwdz39]; exact h0
      replace h1 : At wdz39 Wz2.heap.size (.cells #[.int .i64 0, .int .i64 0, .int .i64 0, .int .i64 0, .slice none 0 0] 29 (0, 0)) := by rw [← hwdz39]; exact h1
      replace h2 : At wdz39 Wz12.heap.size (.cells #[.int .i64 p, .int .i64 n, .int .i64 m, .int .i64 k, .slice A9 i c9] 29 (0, 0)) := by rw [← hwdz39]; exact h2
      replace ho : OwnT wdz39 w.heap.size (.slice A9 i c9) ((qs.take i).map conT) := by rw [← hwdz39]; exact ho.drew
      replace hz35 : At wdz39 wr.heap.size (.cells (u8s (qs[i])) 73 (0, 0)) := by rw [← hwdz39]; exact hz35
      clear hwdz39
      refine y_yield 0 (some 28) (.pointer (some ⟨Wz12.heap.size, 4, none⟩)) rfl (by kernel_rfl) (by kernel_rfl) (by kernel_rfl) (fun _ _ _ h => h) rfl rfl ⟨hB, hz35⟩ (fun w' h' => exec_fieldAddr 29 _ 4 rfl _ (by kernel_rfl)) ?_
      go_frame
      refine y_yield3 1 (some 29) (.slice A9 i c9) rfl 16 (by kernel_rfl) (by kernel_rfl) (by kernel_rfl) (by kernel_rfl) (by kernel_rfl) (fun _ _ _ h => h) rfl rfl ⟨hB, hz35⟩ h2 (fun w' h' h2' => exec_load_one 27 _ rfl Wz12.heap.size 4 rfl (.slice A9 i c9) _ Try.underlying27 rfl (h2'.at_ 4)) ?_
      go_frame
      refine y_yield 2 (some 30) (.pointer (some ⟨wr.heap.size, 0, none⟩)) rfl (by kernel_rfl) (by kernel_rfl) (by kernel_rfl) (fun _ _ _ h => h) rfl rfl ⟨hB, hz35⟩ (fun w' h' => exec_fieldAddr 73 _ 0 rfl _ (by kernel_rfl)) ?_
      go_frame
      refine y_yield 3 (some 31) (.agg (u8s (segm (qs[i]) 0 9))) rfl (by kernel_rfl) (by kernel_rfl) (by kernel_rfl) (fun _ _ _ h => h) rfl rfl ⟨hB, hz35⟩ (fun w' h' => exec_load_seg 71 _ rfl wr.heap.size (0) rfl _ (qs[i]) _ 9 h'.2 Try.underlying71 rfl (by kernel_rfl) (by rw [Hq27.out]; omega) (segm (qs[i]) 0 9) rfl) ?_
      go_frame
      refine y_yield 5 (some 33) (.pointer (some ⟨wr.heap.size, 9, none⟩)) rfl (by kernel_rfl) (by kernel_rfl) (by kernel_rfl) (fun _ _ _ h => h) rfl rfl ⟨hB, hz35⟩ (fun w' h' => exec_fieldAddr 73 _ 1 rfl _ (by kernel_rfl)) ?_
      go_frame
      refine y_yield 6 (some 34) (.agg (u8s (segm (qs[i]) 9 9))) rfl (by kernel_rfl) (by kernel_rfl) (by kernel_rfl) (fun _ _ _ h => h) rfl rfl ⟨hB, hz35⟩ (fun w' h' => exec_load_seg 71 _ rfl wr.heap.size (9) rfl _ (qs[i]) _ 9 h'.2 Try.underlying71 rfl (by kernel_rfl) (by rw [Hq27.out]; omega) (segm (qs[i]) 9 9) rfl) ?_
      go_frame
      refine y_yield 8 (some 36) (.pointer (some ⟨wr.heap.size, 18, none⟩)) rfl (by kernel_rfl) (by kernel_rfl) (by kernel_rfl) (fun _ _ _ h => h) rfl rfl ⟨hB, hz35⟩ (fun w' h' => exec_fieldAddr 73 _ 2 rfl _ (by kernel_rfl)) ?_
      go_frame
      refine y_yield 9 (some 37) (.agg (u8s (segm (qs[i]) 18 9))) rfl (by kernel_rfl) (by kernel_rfl) (by kernel_rfl) (fun _ _ _ h => h) rfl rfl ⟨hB, hz35⟩ (fun w' h' => exec_load_seg 71 _ rfl wr.heap.size (18) rfl _ (qs[i]) _ 9 h'.2 Try.underlying71 rfl (by kernel_rfl) (by rw [Hq27.out]; omega) (segm (qs[i]) 18 9) rfl) ?_
      go_frame
      refine y_oper 4 (by kernel_rfl) rfl rfl (fun K' hK' => ?_)
      have lz42 := hB.size
      have lz43 := h0.lt
      have lz44 := h1.lt
      have lz45 := h2.lt
      have lz46 := hz35.lt
      refine wp_call1 (some 32) rfl 80 _ _ rfl (fun args w => by kernel_rfl) _ rfl _ (l08Constant_c (segm (qs[i]) 0 9) (segm_bytes hq (by omega)) _) (fun e Wz40 h => ?_)
      obtain ⟨rfl, bz41⟩ := h
      replace hB := below_after hB bz41
      replace h0 := h0.after bz41
      replace h1 := h1.after bz41
      replace h2 := h2.after bz41
      replace ho := ho.below bz41
      replace hz35 := hz35.after bz41
      clear bz41
      refine ⟨_, rfl, ?_⟩
      refine hK' _ _ ⟨hB, hz35⟩ (fun _ => h2) ?_
      clear hK' K'
      go_frame
      refine y_oper 7 (by kernel_rfl) rfl rfl (fun K' hK' => ?_)
      have lz49 := hB.size
      have lz50 := h0.lt
      have lz51 := h1.lt
      have lz52 := h2.lt
      have lz53 := hz35.lt
      refine wp_call1 (some 35) rfl 80 _ _ rfl (fun args w => by kernel_rfl) _ rfl _ (l08Constant_c (segm (qs[i]) 9 9) (segm_bytes hq (by omega)) _) (fun e Wz47 h => ?_)
      obtain ⟨rfl, bz48⟩ := h
      replace hB := below_after hB bz48
      replace h0 := h0.after bz48
      replace h1 := h1.after bz48
      replace h2 := h2.after bz48
      replace ho := ho.below bz48
      replace hz35 := hz35.after bz48
      clear bz48
      refine ⟨_, rfl, ?_⟩
      refine hK' _ _ ⟨hB, hz35⟩ (fun _ => h2) ?_
      clear hK' K'
      go_frame
      refine y_oper 10 (by kernel_rfl) rfl rfl (fun K' hK' => ?_)
      have lz56 := hB.size
      have lz57 := h0.lt
      have lz58 := h1.lt
      have lz59 := h2.lt
      have lz60 := hz35.lt
      refine wp_call1 (some 38) rfl 80 _ _ rfl (fun args w => by kernel_rfl) _ rfl _ (l08Constant_c (segm (qs[i]) 18 9) (segm_bytes hq (by omega)) _) (fun e Wz54 h => ?_)
      obtain ⟨rfl, bz55⟩ := h
      replace hB := below_after hB bz55
      replace h0 := h0.after bz55
      replace h1 := h1.after bz55
      replace h2 := h2.after bz55
      replace ho := ho.below bz55
      replace hz35 := hz35.after bz55
      clear bz55
      refine ⟨_, rfl, ?_⟩
      refine hK' _ _ ⟨hB, hz35⟩ (fun _ => h2) ?_
      clear hK' K'
      go_frame
      refine y_yield 11 (some 39) (.agg (u8s (catT (conS (segm qs[i] 0 9)) (conS (segm qs[i] 9 9)) (conS (segm qs[i] 18 9))))) rfl (by kernel_rfl) (by kernel_rfl) (by kernel_rfl) (fun _ _ _ h => h) rfl rfl ⟨hB, hz35⟩ (fun w' h' => exec_twig _ _ _ rfl (conS (segm qs[i] 0 9)) (conS (segm qs[i] 9 9)) (conS (segm qs[i] 18 9)) rfl rfl rfl (conS_len _) (conS_len _) (conS_len _)) ?_
      go_frame
      refine y_oper 12 (by kernel_rfl) rfl rfl (fun K' hK' => ?_)
      have lz61 := hB.size
      have lz62 := h0.lt
      have lz63 := h1.lt
      have lz64 := h2.lt
      have lz65 := hz35.lt
      refine wp_slice1T (some 40) rfl 27 63 _ rfl (conT qs[i]) rfl Try.underlying27 infoTwig (conT_bytes hq).len (fun Wz66 nnz67 => ?_)
      have bz68 := nnz67.below (Below.refl _ _) (Nat.le_refl _)
      replace hB := below_after hB bz68
      replace h0 := h0.after bz68
      replace h1 := h1.after bz68
      replace h2 := h2.after bz68
      replace ho := ho.below bz68
      replace hz35 := hz35.after bz68
      have hqz69 : At Wz66 Wz54.heap.size (.cells (u8s (conT qs[i])) 63 (0, 0)) := nnz67.at_
      refine hK' _ _ ⟨hB, hz35⟩ (fun _ => h2) ?_
      clear hK' K' nnz67 bz68
      go_frame
      refine y_oper 13 (by kernel_rfl) rfl rfl (fun K' hK' => ?_)
      have lz73 := hB.size
      have lz74 := h0.lt
      have lz75 := h1.lt
      have lz76 := h2.lt
      have lz77 := hz35.lt
      have lz78 := hqz69.lt
      refine wp_appT (some 41) rfl _ _ rfl (.slice A9 i c9) ((qs.take i).map conT) (conT qs[i]) rfl ho Wz54.heap.size rfl hqz69 (conT_bytes hq).len (by rw [map_take_len hi]; omega) (by omega) (fun v8 Wz70 noz72 grz71 => ?_)
      rw [HT.out] at noz72
      obtain ⟨A8, c8, rfl⟩ := OwnT.rdN noz72 (n := i + 1) (map_take_len (by omega))
      replace hB := below_grownT hB grz71 ho (by omega)
      replace h0 := h0.grown grz71 (ho.off h0 (by decide))
      replace h1 := h1.grown grz71 (ho.off h1 (by decide))
      replace h2 := h2.grown grz71 (ho.off h2 (by decide))
      replace hz35 := hz35.grown grz71 (ho.off hz35 (by decide))
      replace ho := noz72
      refine hK' _ _ ⟨hB, hz35⟩ (fun _ => h2) ?_
      clear hK' K' grz71 hqz69
      go_frame
      refine y_yield 14 (some 42) (.pointer (some ⟨Wz12.heap.size, 4, none⟩)) rfl (by kernel_rfl) (by kernel_rfl) (by kernel_rfl) (fun _ _ _ h => h) rfl rfl ⟨hB, hz35⟩ (fun w' h' => exec_fieldAddr 29 _ 4 rfl _ (by kernel_rfl)) ?_
      go_frame
      refine y_oper 15 (by kernel_rfl) rfl rfl (fun K' hK' => ?_)
      refine wp_store_one 27 _ _ rfl rfl Wz12.heap.size 4 rfl (.slice A8 (i + 1) c8) rfl rfl rfl _ _ h2 (by kernel_rfl) (by simp) (fun Wz79 pz80 => ?_)
      replace hB := pz80.below hB (by omega)
      replace h0 := pz80.other h0 (by omega)
      replace h1 := pz80.other h1 (by omega)
      replace ho := ho.put pz80 (ho.off h2 (by decide))
      replace hz35 := pz80.other hz35 (by omega)
      replace h2 : At Wz79 Wz12.heap.size (.cells #[.int .i64 p, .int .i64 n, .int .i64 m, .int .i64 k, .slice A8 (i + 1) c8] 29 (0, 0)) := pz80.at_
      refine hK' _ _ ⟨hB, hz35⟩ (fun h => absurd (by decide) h) ?_
      clear hK' K' pz80
      refine y_done (by kernel_rfl) ?_ _
      go_upto_region 4 with (fail)
      refine wp_region_lit ?_
      refine ls_ex (some 21) (.int .i64 i) rfl rfl (exec_move _ rfl (.int .i64 i) rfl) ?_
      go_frame
      refine ls_ex (some 22) (.int .i64 (i + 1)) rfl rfl (exec_add _ _ _ _ rfl i 1 (i + 1) rfl rfl (IntWalk.i64_in _ (by omega))) ?_
      go_frame
      refine ls_ex (some 4) (.int .i64 (i + 1)) rfl rfl (exec_assign _ rfl (.int .i64 (i + 1)) rfl) ?_
      go_frame
      refine wpList_nil ?_
      go_wp2_with fail
      go_roundw
      case rel => exact ⟨i + 1, _, by omega, by go_num, hB, h0, h1, h2, ho⟩
      case measure => simp [intOf]; omega
    · obtain ⟨A9, c9, rfl⟩ := OwnT.rdN ho (n := i) (map_take_len hi)
      have HE : Hid ((qs.take i).map conT = qs.map conT) := Lib.hid (by rw [show i = qs.length by omega, List.take_length])
      rw [HE.out] at ho
      go_upto_region 3 with (fail)
      refine wp_region_lit ?_
      refine ls_ex (some 16) (.int .i64 i) rfl rfl (exec_move _ rfl (.int .i64 i) rfl) ?_
      go_frame
      refine ls_ex (some 17) (.pointer (some ⟨w.heap.size, 4, none⟩)) rfl rfl (exec_fieldAddr 41 _ 4 rfl _ (by kernel_rfl)) ?_
      go_frame
      refine ls_ex (some 18) (.slice A qs.length c) rfl rfl (exec_load_one 39 _ rfl w.heap.size 4 rfl (.slice A qs.length c) _ Try.underlying39 rfl (h0.at_ 4)) ?_
      go_frame
      refine ls_ex (some 19) (.int .i64 qs.length) rfl rfl (exec_len _ 39 73 rfl A qs.length c rfl Try.underlying39) ?_
      go_frame
      refine ls_ex (some 20) (.bool false) rfl rfl (exec_lss _ _ _ _ rfl i qs.length rfl rfl false (decide_eq_false (by omega))) ?_
      go_frame
      refine wpList_nil ?_
      go_upto_region 7 with (fail)
      refine wp_region_lit ?_
      refine ls_ex (some 43) (.agg #[.int .i64 p, .int .i64 n, .int .i64 m, .int .i64 k, .slice A9 i c9]) rfl rfl (exec_load_all 29 _ rfl Wz12.heap.size rfl _ _ _ h2 Try.underlying29 rfl 5 (by kernel_rfl) rfl) ?_
      go_frame
      refine ls_op rfl (fun K' hK' => ?_)
      refine wp_store_all 29 _ _ rfl rfl Wz2.heap.size rfl #[.int .i64 p, .int .i64 n, .int .i64 m, .int .i64 k, .slice A9 i c9] rfl _ _ h1 5 (by kernel_rfl) rfl rfl (one5 _ _ _ _ _ _ _) (fun Wz81 pz82 => ?_)
      replace hB := pz82.below hB (by omega)
      replace h0 := pz82.other h0 (by omega)
      replace h2 := pz82.other h2 (by omega)
      replace ho := ho.put pz82 (ho.off h1 (by decide))
      replace h1 : At Wz81 Wz2.heap.size (.cells #[.int .i64 p, .int .i64 n, .int .i64 m, .int .i64 k, .slice A9 i c9] 29 (0, 0)) := pz82.at_
      refine hK' _ _ ?_
      clear hK' K' pz82
      refine wpList_nil ?_
      go_wp2_with fail
      refine bodyPost_ret (results_at rfl _ _ Wz2.heap.size _ _ _ rfl h1 Try.underlying29 rfl 5 (by kernel_rfl) rfl) rfl ?_
      exact ⟨_, rfl, ho, hB⟩
def outZ (code x : Int) : Int := if code = 0 then x else 0
def outL (code : Int) (l : List (List Nat)) : List (List Nat) := if code = 0 then l else []
theorem outL_len {code : Int} {l : List (List Nat)} {N : Nat} (h : code = 0 → l.length ≤ N) : (outL code l).length ≤ N := by
  unfold outL
  split
  · exact h (by assumption)
  · simp
theorem outL_bytes {code : Int} {l : List (List Nat)} {N : Nat} (h : code = 0 → ∀ r ∈ l, Bytes N r) : ∀ r ∈ outL code l, Bytes N r := by
  unfold outL
  split
  · exact h (by assumption)
  · simp
def bofCode (p n m k : Int) (qs : List (List Nat)) : Int := if schemeB p n m k qs = true then 0 else 1
set_option maxHeartbeats 4000000 in
theorem specBorderOfScheme_no (p n m k : Int) (A : Option Addr) (c : Nat) (qs : List (List Nat)) (w : World) (hR : Rd w A qs) (hlen : qs.length ≤ 1048576) (hs : schemeB p n m k qs = false) :
    Calls Try.prog 14 #[.agg #[.int .i64 p, .int .i64 n, .int .i64 m, .int .i64 k, .slice A qs.length c]] w (ResD w (outZ (bofCode p n m k qs) p) (outZ (bofCode p n m k qs) n) (outZ (bofCode p n m k qs) m) (outZ (bofCode p n m k qs) k) (outL (bofCode p n m k qs) (qs.map conT)) (bofCode p n m k qs)) := by
  have hB := Below.refl w.heap.size w
  have HC : Hid (bofCode p n m k qs = 1) := Lib.hid (by unfold bofCode; rw [hs]; rfl)
  have Hs := Lib.hid hs
  clear hs
  go_enter Try.func14, Try.ntmps14
  go_upto_region 0 with (fail)
  refine wp_region_lit ?_
  refine ls_op rfl (fun K' hK' => ?_)
  have lz1 := hB.size
  refine wp_new (some 1) rfl (exec_box 41 _ rfl (#[.int .i64 p, .int .i64 n, .int .i64 m, .int .i64 k, .slice A qs.length c]) rfl) (fun Wz2 nnz3 => ?_)
  have bz4 := nnz3.below (Below.refl _ _) (Nat.le_refl _)
  replace hB := below_after hB bz4
  have hz5 : At Wz2 w.heap.size (.cells #[.int .i64 p, .int .i64 n, .int .i64 m, .int .i64 k, .slice A qs.length c] 41 (0, 0)) := nnz3.at_
  refine hK' _ _ ?_
  clear hK' K' nnz3 bz4
  go_frame
  refine ls_op rfl (fun K' hK' => ?_)
  have lz6 := hB.size
  have lz7 := hz5.lt
  refine wp_new (some 2) rfl (al_impl_Border rfl) (fun Wz8 nnz9 => ?_)
  have bz10 := nnz9.below (Below.refl _ _) (Nat.le_refl _)
  replace hB := below_after hB bz10
  replace hz5 := hz5.after bz10
  have hz11 : At Wz8 Wz2.heap.size (.cells #[.int .i64 0, .int .i64 0, .int .i64 0, .int .i64 0, .slice none 0 0] 29 (0, 0)) := nnz9.at_
  refine hK' _ _ ?_
  clear hK' K' nnz9 bz10
  go_frame
  refine ls_ex (some 3) (.int .i64 0) rfl rfl (exec_assign _ rfl (.int .i64 0) rfl) ?_
  go_frame
  refine wpList_nil ?_
  go_upto_region 1 with (fail)
  refine wp_region_lit ?_
  refine ls_ex (some 4) (.agg #[.int .i64 p, .int .i64 n, .int .i64 m, .int .i64 k, .slice A qs.length c]) rfl rfl (exec_load_all 41 _ rfl w.heap.size rfl _ _ _ hz5 Try.underlying41 rfl 5 (by kernel_rfl) rfl) ?_
  go_frame
  refine ls_op rfl (fun K' hK' => ?_)
  have lz14 := hB.size
  have lz15 := hz5.lt
  have lz16 := hz11.lt
  refine wp_call1 (some 5) rfl 40 _ _ rfl (fun args w => by kernel_rfl) _ rfl _ (l01Is_c p n m k A c qs _ (hR.keep hB) (by omega)) (fun e Wz12 h => ?_)
  obtain ⟨rfl, bz13⟩ := h
  replace hB := below_after hB bz13
  replace hz5 := hz5.after bz13
  replace hz11 := hz11.after bz13
  rw [Hs.out]
  clear bz13
  refine ⟨_, rfl, ?_⟩
  refine hK' _ _ ?_
  clear hK' K'
  go_frame
  refine ls_ex (some 6) (.bool true) rfl rfl (exec_not _ _ rfl false rfl) ?_
  go_frame
  refine wpList_nil ?_
  go_upto_region 2 with (fail)
  refine wp_region_lit ?_
  refine ls_ex (some 7) (.agg #[.int .i64 0, .int .i64 0, .int .i64 0, .int .i64 0, .slice none 0 0]) rfl rfl (exec_build_nil 29 rfl _ (by kernel_rfl)) ?_
  go_frame
  refine ls_op rfl (fun K' hK' => ?_)
  refine wp_store_all 29 _ _ rfl rfl Wz2.heap.size rfl #[.int .i64 0, .int .i64 0, .int .i64 0, .int .i64 0, .slice none 0 0] rfl _ _ hz11 5 (by kernel_rfl) rfl rfl (one5 _ _ _ _ _ _ _) (fun Wz17 pz18 => ?_)
  replace hB := pz18.below hB (by omega)
  replace hz5 := pz18.other hz5 (by omega)
  replace hz11 : At Wz17 Wz2.heap.size (.cells #[.int .i64 0, .int .i64 0, .int .i64 0, .int .i64 0, .slice none 0 0] 29 (0, 0)) := pz18.at_
  refine hK' _ _ ?_
  clear hK' K' pz18
  refine ls_ex (some 3) (.int .i64 1) rfl rfl (exec_assign _ rfl (.int .i64 1) rfl) ?_
  go_frame
  refine wpList_nil ?_
  go_wp2_with fail
  refine bodyPost_ret (results_at2 rfl _ _ Wz2.heap.size _ _ _ rfl _ rfl hz11 Try.underlying29 rfl 5 (by kernel_rfl) rfl) rfl ?_
  unfold ResD outZ outL
  rw [HC.out]
  exact ⟨_, rfl, OwnT.nil _ _, hB⟩
set_option maxHeartbeats 12800000 in
theorem implBorderOfScheme_no (p n m k : Int) (A : Option Addr) (c : Nat) (qs : List (List Nat)) (w : World) (hR : Rd w A qs) (hlen : qs.length ≤ 1048576) (hs : schemeB p n m k qs = false) :
    Calls Try.prog 16 #[.agg #[.int .i64 p, .int .i64 n, .int .i64 m, .int .i64 k, .slice A qs.length c]] w (ResD w (outZ (bofCode p n m k qs) p) (outZ (bofCode p n m k qs) n) (outZ (bofCode p n m k qs) m) (outZ (bofCode p n m k qs) k) (outL (bofCode p n m k qs) (qs.map conT)) (bofCode p n m k qs)) := by
  have hB := Below.refl w.heap.size w
  have HC : Hid (bofCode p n m k qs = 1) := Lib.hid (by unfold bofCode; rw [hs]; rfl)
  have Hs := Lib.hid hs
  clear hs
  go_enter Try.func16, Try.ntmps16
  go_upto_region 0 with (fail)
  refine wp_region_lit ?_
  refine ls_op rfl (fun K' hK' => ?_)
  have lz1 := hB.size
  refine wp_new (some 1) rfl (exec_box 41 _ rfl (#[.int .i64 p, .int .i64 n, .int .i64 m, .int .i64 k, .slice A qs.length c]) rfl) (fun Wz2 nnz3 => ?_)
  have bz4 := nnz3.below (Below.refl _ _) (Nat.le_refl _)
  replace hB := below_after hB bz4
  have hz5 : At Wz2 w.heap.size (.cells #[.int .i64 p, .int .i64 n, .int .i64 m, .int .i64 k, .slice A qs.length c] 41 (0, 0)) := nnz3.at_
  refine hK' _ _ ?_
  clear hK' K' nnz3 bz4
  go_frame
  refine ls_op rfl (fun K' hK' => ?_)
  have lz6 := hB.size
  have lz7 := hz5.lt
  refine wp_new (some 2) rfl (al_impl_Border rfl) (fun Wz8 nnz9 => ?_)
  have bz10 := nnz9.below (Below.refl _ _) (Nat.le_refl _)
  replace hB := below_after hB bz10
  replace hz5 := hz5.after bz10
  have hz11 : At Wz8 Wz2.heap.size (.cells #[.int .i64 0, .int .i64 0, .int .i64 0, .int .i64 0, .slice none 0 0] 29 (0, 0)) := nnz9.at_
  refine hK' _ _ ?_
  clear hK' K' nnz9 bz10
  go_frame
  refine ls_ex (some 3) (.int .i64 0) rfl rfl (exec_assign _ rfl (.int .i64 0) rfl) ?_
  go_frame
  refine wpList_nil ?_
  go_upto_region 1 with (fail)
  refine wp_region_lit ?_
  refine ls_ex (some 7) (.agg #[.int .i64 p, .int .i64 n, .int .i64 m, .int .i64 k, .slice A qs.length c]) rfl rfl (exec_load_all 41 _ rfl w.heap.size rfl _ _ _ hz5 Try.underlying41 rfl 5 (by kernel_rfl) rfl) ?_
  go_frame
  refine ls_op rfl (fun K' hK' => ?_)
  have lz14 := hB.size
  have lz15 := hz5.lt
  have lz16 := hz11.lt
  refine wp_call1 (some 8) rfl 33 _ _ rfl (fun args w => by kernel_rfl) _ rfl _ (implIsScheme_c p n m k A c qs _ (hR.keep hB) (by omega)) (fun e Wz12 h => ?_)
  obtain ⟨rfl, bz13⟩ := h
  replace hB := below_after hB bz13
  replace hz5 := hz5.after bz13
  replace hz11 := hz11.after bz13
  rw [Hs.out]
  clear bz13
  refine ⟨_, rfl, ?_⟩
  refine hK' _ _ ?_
  clear hK' K'
  go_frame
  refine ls_ex (some 9) (.bool true) rfl rfl (exec_not _ _ rfl false rfl) ?_
  go_frame
  refine wpList_nil ?_
  go_upto_region 2 with (fail)
  refine wp_region_lit ?_
  refine ls_ex (some 10) (.agg #[.int .i64 0, .int .i64 0, .int .i64 0, .int .i64 0, .slice none 0 0]) rfl rfl (exec_build_nil 29 rfl _ (by kernel_rfl)) ?_
  go_frame
  refine ls_op rfl (fun K' hK' => ?_)
  refine wp_store_all 29 _ _ rfl rfl Wz2.heap.size rfl #[.int .i64 0, .int .i64 0, .int .i64 0, .int .i64 0, .slice none 0 0] rfl _ _ hz11 5 (by kernel_rfl) rfl rfl (one5 _ _ _ _ _ _ _) (fun Wz17 pz18 => ?_)
  replace hB := pz18.below hB (by omega)
  replace hz5 := pz18.other hz5 (by omega)
  replace hz11 : At Wz17 Wz2.heap.size (.cells #[.int .i64 0, .int .i64 0, .int .i64 0, .int .i64 0, .slice none 0 0] 29 (0, 0)) := pz18.at_
  refine hK' _ _ ?_
  clear hK' K' pz18
  refine ls_ex (some 3) (.int .i64 1) rfl rfl (exec_assign _ rfl (.int .i64 1) rfl) ?_
  go_frame
  refine wpList_nil ?_
  go_wp2_with fail
  refine bodyPost_ret (results_at2 rfl _ _ Wz2.heap.size _ _ _ rfl _ rfl hz11 Try.underlying29 rfl 5 (by kernel_rfl) rfl) rfl ?_
  unfold ResD outZ outL
  rw [HC.out]
  exact ⟨_, rfl, OwnT.nil _ _, hB⟩
set_option maxHeartbeats 4000000 in
theorem specBorderOfScheme_yes (p n m k : Int) (A : Option Addr) (c : Nat) (qs : List (List Nat)) (w : World) (hR : Rd w A qs) (hlen : qs.length ≤ 1048576) (hs : schemeB p n m k qs = true) :
    Calls Try.prog 14 #[.agg #[.int .i64 p, .int .i64 n, .int .i64 m, .int .i64 k, .slice A qs.length c]] w (ResD w (outZ (bofCode p n m k qs) p) (outZ (bofCode p n m k qs) n) (outZ (bofCode p n m k qs) m) (outZ (bofCode p n m k qs) k) (outL (bofCode p n m k qs) (qs.map conT)) (bofCode p n m k qs)) := by
  have hB := Below.refl w.heap.size w
  have HC : Hid (bofCode p n m k qs = 0) := Lib.hid (by unfold bofCode; rw [hs]; rfl)
  have Hs := Lib.hid hs
  replace hlen : qs.length ≤ 1000000 := by have h := hs; unfold schemeB at h; simp only [Bool.and_eq_true, decide_eq_true_eq] at h; omega
  clear hs
  go_enter Try.func14, Try.ntmps14
  go_upto_region 0 with (fail)
  refine wp_region_lit ?_
  refine ls_op rfl (fun K' hK' => ?_)
  have lz1 := hB.size
  refine wp_new (some 1) rfl (exec_box 41 _ rfl (#[.int .i64 p, .int .i64 n, .int .i64 m, .int .i64 k, .slice A qs.length c]) rfl) (fun Wz2 nnz3 => ?_)
  have bz4 := nnz3.below (Below.refl _ _) (Nat.le_refl _)
  replace hB := below_after hB bz4
  have hz5 : At Wz2 w.heap.size (.cells #[.int .i64 p, .int .i64 n, .int .i64 m, .int .i64 k, .slice A qs.length c] 41 (0, 0)) := nnz3.at_
  refine hK' _ _ ?_
  clear hK' K' nnz3 bz4
  go_frame
  refine ls_op rfl (fun K' hK' => ?_)
  have lz6 := hB.size
  have lz7 := hz5.lt
  refine wp_new (some 2) rfl (al_impl_Border rfl) (fun Wz8 nnz9 => ?_)
  have bz10 := nnz9.below (Below.refl _ _) (Nat.le_refl _)
  replace hB := below_after hB bz10
  replace hz5 := hz5.after bz10
  have hz11 : At Wz8 Wz2.heap.size (.cells #[.int .i64 0, .int .i64 0, .int .i64 0, .int .i64 0, .slice none 0 0] 29 (0, 0)) := nnz9.at_
  refine hK' _ _ ?_
  clear hK' K' nnz9 bz10
  go_frame
  refine ls_ex (some 3) (.int .i64 0) rfl rfl (exec_assign _ rfl (.int .i64 0) rfl) ?_
  go_frame
  refine wpList_nil ?_
  go_upto_region 1 with (fail)
  refine wp_region_lit ?_
  refine ls_ex (some 4) (.agg #[.int .i64 p, .int .i64 n, .int .i64 m, .int .i64 k, .slice A qs.length c]) rfl rfl (exec_load_all 41 _ rfl w.heap.size rfl _ _ _ hz5 Try.underlying41 rfl 5 (by kernel_rfl) rfl) ?_
  go_frame
  refine ls_op rfl (fun K' hK' => ?_)
  have lz14 := hB.size
  have lz15 := hz5.lt
  have lz16 := hz11.lt
  refine wp_call1 (some 5) rfl 40 _ _ rfl (fun args w => by kernel_rfl) _ rfl _ (l01Is_c p n m k A c qs _ (hR.keep hB) (by omega)) (fun e Wz12 h => ?_)
  obtain ⟨rfl, bz13⟩ := h
  replace hB := below_after hB bz13
  replace hz5 := hz5.after bz13
  replace hz11 := hz11.after bz13
  rw [Hs.out]
  clear bz13
  refine ⟨_, rfl, ?_⟩
  refine hK' _ _ ?_
  clear hK' K'
  go_frame
  refine ls_ex (some 6) (.bool false) rfl rfl (exec_not _ _ rfl true rfl) ?_
  go_frame
  refine wpList_nil ?_
  go_upto_region 3 with (fail)
  refine wp_region_lit ?_
  refine ls_ex (some 8) (.agg #[.int .i64 p, .int .i64 n, .int .i64 m, .int .i64 k, .slice A qs.length c]) rfl rfl (exec_load_all 41 _ rfl w.heap.size rfl _ _ _ hz5 Try.underlying41 rfl 5 (by kernel_rfl) rfl) ?_
  go_frame
  refine ls_op rfl (fun K' hK' => ?_)
  have lz19 := hB.size
  have lz20 := hz5.lt
  have lz21 := hz11.lt
  have lo9 := hB.size
  refine wp_call1 (some 9) rfl 41 _ _ rfl (fun args w => by kernel_rfl) _ rfl _ (l08Of_c p n m k A c qs _ (hR.keep hB) hlen) (fun e Wz17 h => ?_)
  obtain ⟨v9, rfl, ho, bz18⟩ := h
  replace hB := below_after hB bz18
  replace hz5 := hz5.after bz18
  replace hz11 := hz11.after bz18
  obtain ⟨A9, c9, rfl⟩ := OwnT.rdN ho (n := qs.length) (by simp)
  clear bz18
  refine ⟨_, rfl, ?_⟩
  refine hK' _ _ ?_
  clear hK' K'
  go_frame
  refine ls_op rfl (fun K' hK' => ?_)
  refine wp_store_all 29 _ _ rfl rfl Wz2.heap.size rfl #[.int .i64 p, .int .i64 n, .int .i64 m, .int .i64 k, .slice A9 qs.length c9] rfl _ _ hz11 5 (by kernel_rfl) rfl rfl (one5 _ _ _ _ _ _ _) (fun Wz22 pz23 => ?_)
  replace hB := pz23.below hB (by omega)
  replace hz5 := pz23.other hz5 (by omega)
  replace ho := ho.put pz23 (ho.off hz11 (by decide))
  replace hz11 : At Wz22 Wz2.heap.size (.cells #[.int .i64 p, .int .i64 n, .int .i64 m, .int .i64 k, .slice A9 qs.length c9] 29 (0, 0)) := pz23.at_
  refine hK' _ _ ?_
  clear hK' K' pz23
  refine ls_ex (some 3) (.int .i64 0) rfl rfl (exec_assign _ rfl (.int .i64 0) rfl) ?_
  go_frame
  refine wpList_nil ?_
  go_wp2_with fail
  refine bodyPost_ret (results_at2 rfl _ _ Wz2.heap.size _ _ _ rfl _ rfl hz11 Try.underlying29 rfl 5 (by kernel_rfl) rfl) rfl ?_
  unfold ResD outZ outL
  rw [HC.out]
  exact ⟨_, rfl, ho.mono (by omega), hB⟩
set_option maxHeartbeats 12800000 in
theorem implBorderOfScheme_yes (p n m k : Int) (A : Option Addr) (c : Nat) (qs : List (List Nat)) (w : World) (hR : Rd w A qs) (hlen : qs.length ≤ 1048576) (hs : schemeB p n m k qs = true) :
    Calls Try.prog 16 #[.agg #[.int .i64 p, .int .i64 n, .int .i64 m, .int .i64 k, .slice A qs.length c]] w (ResD w (outZ (bofCode p n m k qs) p) (outZ (bofCode p n m k qs) n) (outZ (bofCode p n m k qs) m) (outZ (bofCode p n m k qs) k) (outL (bofCode p n m k qs) (qs.map conT)) (bofCode p n m k qs)) := by
  have hB := Below.refl w.heap.size w
  have HC : Hid (bofCode p n m k qs = 0) := Lib.hid (by unfold bofCode; rw [hs]; rfl)
  have Hs := Lib.hid hs
  replace hlen : qs.length ≤ 1000000 := by have h := hs; unfold schemeB at h; simp only [Bool.and_eq_true, decide_eq_true_eq] at h; omega
  clear hs
  go_enter Try.func16, Try.ntmps16
  go_upto_region 0 with (fail)
  refine wp_region_lit ?_
  refine ls_op rfl (fun K' hK' => ?_)
  have lz1 := hB.size
  refine wp_new (some 1) rfl (exec_box 41 _ rfl (#[.int .i64 p, .int .i64 n, .int .i64 m, .int .i64 k, .slice A qs.length c]) rfl) (fun Wz2 nnz3 => ?_)
  have bz4 := nnz3.below (Below.refl _ _) (Nat.le_refl _)
  replace hB := below_after hB bz4
  have hz5 : At Wz2 w.heap.size (.cells #[.int .i64 p, .int .i64 n, .int .i64 m, .int .i64 k, .slice A qs.length c] 41 (0, 0)) := nnz3.at_
  refine hK' _ _ ?_
  clear hK' K' nnz3 bz4
  go_frame
  refine ls_op rfl (fun K' hK' => ?_)
  have lz6 := hB.size
  have lz7 := hz5.lt
  refine wp_new (some 2) rfl (al_impl_Border rfl) (fun Wz8 nnz9 => ?_)
  have bz10 := nnz9.below (Below.refl _ _) (Nat.le_refl _)
  replace hB := below_after hB bz10
  replace hz5 := hz5.after bz10
  have hz11 : At Wz8 Wz2.heap.size (.cells #[.int .i64 0, .int .i64 0, .int .i64 0, .int .i64 0, .slice none 0 0] 29 (0, 0)) := nnz9.at_
  refine hK' _ _ ?_
  clear hK' K' nnz9 bz10
  go_frame
  refine ls_ex (some 3) (.int .i64 0) rfl rfl (exec_assign _ rfl (.int .i64 0) rfl) ?_
  go_frame
  refine wpList_nil ?_
  go_upto_region 1 with (fail)
  refine wp_region_lit ?_
  refine ls_ex (some 7) (.agg #[.int .i64 p, .int .i64 n, .int .i64 m, .int .i64 k, .slice A qs.length c]) rfl rfl (exec_load_all 41 _ rfl w.heap.size rfl _ _ _ hz5 Try.underlying41 rfl 5 (by kernel_rfl) rfl) ?_
  go_frame
  refine ls_op rfl (fun K' hK' => ?_)
  have lz14 := hB.size
  have lz15 := hz5.lt
  have lz16 := hz11.lt
  refine wp_call1 (some 8) rfl 33 _ _ rfl (fun args w => by kernel_rfl) _ rfl _ (implIsScheme_c p n m k A c qs _ (hR.keep hB) (by omega)) (fun e Wz12 h => ?_)
  obtain ⟨rfl, bz13⟩ := h
  replace hB := below_after hB bz13
  replace hz5 := hz5.after bz13
  replace hz11 := hz11.after bz13
  rw [Hs.out]
  clear bz13
  refine ⟨_, rfl, ?_⟩
  refine hK' _ _ ?_
  clear hK' K'
  go_frame
  refine ls_ex (some 9) (.bool false) rfl rfl (exec_not _ _ rfl true rfl) ?_
  go_frame
  refine wpList_nil ?_
  go_upto_region 3 with (fail)
  refine wp_region_lit ?_
  refine ls_ex (some 11) (.pointer (some ⟨w.heap.size, 0, none⟩)) rfl rfl (exec_fieldAddr 41 _ 0 rfl _ (by kernel_rfl)) ?_
  go_frame
  refine ls_ex (some 12) (.int .i64 p) rfl rfl (exec_load_one 2 _ rfl w.heap.size 0 rfl (.int .i64 p) _ Try.underlying2 rfl (hz5.at_ 0)) ?_
  go_frame
  refine ls_ex (some 13) (.pointer (some ⟨w.heap.size, 1, none⟩)) rfl rfl (exec_fieldAddr 41 _ 1 rfl _ (by kernel_rfl)) ?_
  go_frame
  refine ls_ex (some 14) (.int .i64 n) rfl rfl (exec_load_one 2 _ rfl w.heap.size 1 rfl (.int .i64 n) _ Try.underlying2 rfl (hz5.at_ 1)) ?_
  go_frame
  refine ls_ex (some 15) (.pointer (some ⟨w.heap.size, 2, none⟩)) rfl rfl (exec_fieldAddr 41 _ 2 rfl _ (by kernel_rfl)) ?_
  go_frame
  refine ls_ex (some 16) (.int .i64 m) rfl rfl (exec_load_one 2 _ rfl w.heap.size 2 rfl (.int .i64 m) _ Try.underlying2 rfl (hz5.at_ 2)) ?_
  go_frame
  refine ls_ex (some 17) (.pointer (some ⟨w.heap.size, 3, none⟩)) rfl rfl (exec_fieldAddr 41 _ 3 rfl _ (by kernel_rfl)) ?_
  go_frame
  refine ls_ex (some 18) (.int .i64 k) rfl rfl (exec_load_one 2 _ rfl w.heap.size 3 rfl (.int .i64 k) _ Try.underlying2 rfl (hz5.at_ 3)) ?_
  go_frame
  refine ls_ex (some 19) (.agg #[.int .i64 p, .int .i64 n, .int .i64 m, .int .i64 k, .slice none 0 0]) rfl rfl (exec_build_brd4 _ _ _ _ rfl p n m k rfl rfl rfl rfl) ?_
  go_frame
  refine ls_op rfl (fun K' hK' => ?_)
  have lz17 := hB.size
  have lz18 := hz5.lt
  have lz19 := hz11.lt
  refine wp_new (some 4) rfl (al_impl_Border rfl) (fun Wz20 nnz21 => ?_)
  have bz22 := nnz21.below (Below.refl _ _) (Nat.le_refl _)
  replace hB := below_after hB bz22
  replace hz5 := hz5.after bz22
  replace hz11 := hz11.after bz22
  have hz23 : At Wz20 Wz12.heap.size (.cells #[.int .i64 0, .int .i64 0, .int .i64 0, .int .i64 0, .slice none 0 0] 29 (0, 0)) := nnz21.at_
  refine hK' _ _ ?_
  clear hK' K' nnz21 bz22
  go_frame
  refine ls_op rfl (fun K' hK' => ?_)
  refine wp_store_all 29 _ _ rfl rfl Wz12.heap.size rfl #[.int .i64 p, .int .i64 n, .int .i64 m, .int .i64 k, .slice none 0 0] rfl _ _ hz23 5 (by kernel_rfl) rfl rfl (one5 _ _ _ _ _ _ _) (fun Wz24 pz25 => ?_)
  replace hB := pz25.below hB (by omega)
  replace hz5 := pz25.other hz5 (by omega)
  replace hz11 := pz25.other hz11 (by omega)
  replace hz23 : At Wz24 Wz12.heap.size (.cells #[.int .i64 p, .int .i64 n, .int .i64 m, .int .i64 k, .slice none 0 0] 29 (0, 0)) := pz25.at_
  refine hK' _ _ ?_
  clear hK' K' pz25
  refine wpList_nil ?_
  go_upto_region 4 with (fail)
  refine wp_region_lit ?_
  refine ls_ex (some 20) (.pointer (some ⟨w.heap.size, 4, none⟩)) rfl rfl (exec_fieldAddr 41 _ 4 rfl _ (by kernel_rfl)) ?_
  go_frame
  refine ls_ex (some 21) (.slice A qs.length c) rfl rfl (exec_load_one 39 _ rfl w.heap.size 4 rfl (.slice A qs.length c) _ Try.underlying39 rfl (hz5.at_ 4)) ?_
  go_frame
  refine ls_ex (some 22) (.int .i64 qs.length) rfl rfl (exec_len _ 39 73 rfl A qs.length c rfl Try.underlying39) ?_
  go_frame
  refine ls_ex (some 23) (.int .i64 0) rfl rfl (exec_move _ rfl (.int .i64 0) rfl) ?_
  go_frame
  refine wpList_nil ?_
  go_wp2_with fail
  go_loopw [23] (fun s23 wr => ∃ (i : Nat) (v : Value), i ≤ qs.length ∧ s23 = .int .i64 i ∧ Below w.heap.size w wr ∧ At wr w.heap.size (.cells #[.int .i64 p, .int .i64 n, .int .i64 m, .int .i64 k, .slice A qs.length c] 41 (0, 0)) ∧ At wr Wz2.heap.size (.cells #[.int .i64 0, .int .i64 0, .int .i64 0, .int .i64 0, .slice none 0 0] 29 (0, 0)) ∧ At wr Wz12.heap.size (.cells #[.int .i64 p, .int .i64 n, .int .i64 m, .int .i64 k, v] 29 (0, 0)) ∧ OwnT wr w.heap.size v ((qs.take i).map conT)) (fun s23 _ => qs.length - (intOf s23).toNat)
  case atStart => exact ⟨0, _, by omega, rfl, hB, hz5, hz11, hz23, OwnT.nil _ _⟩
  case round =>
    clear hB hz5 hz11 hz23
    obtain ⟨i, v, hi, rfl, hB, h0, h1, h2, ho⟩ := hrel
    by_cases hlt : i < qs.length
    · obtain ⟨b, off, rfl, hc⟩ := (hR.keep hB).at_ hlt
      clear hc
      have hq := hR.good _ (List.getElem_mem hlt)
      have Hq27 := Lib.hid hq.len
      obtain ⟨A9, c9, rfl⟩ := OwnT.rdN ho (n := i) (map_take_len hi)
      have HT : Hid ((qs.take i).map conT ++ [conT qs[i]] = (qs.take (i + 1)).map conT) := Lib.hid (map_take_step hlt)
      go_upto_region 5 with (fail)
      refine wp_region_lit ?_
      refine ls_ex (some 24) (.bool true) rfl rfl (exec_lss _ _ _ _ rfl i qs.length rfl rfl true (decide_eq_true (by omega))) ?_
      go_frame
      refine wpList_nil ?_
      go_upto_region 6 with (fail)
      refine wp_region_lit ?_
      refine ls_ex (some 25) (.pointer (some ⟨b, off + i * 27, none⟩)) rfl rfl (exec_index_slice _ 73 _ _ rfl b off qs.length c i 27 rfl rfl Try.underlying39 (by kernel_rfl) (by omega)) ?_
      go_frame
      refine ls_ex (some 26) (.agg (u8s (qs[i]))) rfl rfl (exec_load_cells 73 _ rfl b (off + i * 27) rfl (qs[i]) _ 27 (Rd.cT27 (hR.keep hB) hlt) Try.underlying73 rfl (by kernel_rfl) (Hq27.out)) ?_
      go_frame
      refine ls_op rfl (fun K' hK' => ?_)
      have lz26 := hB.size
      have lz27 := h0.lt
      have lz28 := h1.lt
      have lz29 := h2.lt
      have naz34 := ho.away_new
      refine wp_new (some 6) rfl (al_impl_Product rfl) (fun Wz30 nnz31 => ?_)
      have bz32 := nnz31.below (Below.refl _ _) (Nat.le_refl _)
      replace hB := below_after hB bz32
      replace h0 := h0.after bz32
      replace h1 := h1.after bz32
      replace h2 := h2.after bz32
      replace ho := ho.below bz32
      have hz33 : At Wz30 wr.heap.size (.cells (u8s (List.replicate 27 0)) 73 (0, 0)) := nnz31.at_
      refine hK' _ _ ?_
      clear hK' K' nnz31 bz32
      go_frame
      refine ls_op rfl (fun K' hK' => ?_)
      refine wp_store_bytes 73 _ _ rfl rfl wr.heap.size rfl (qs[i]) rfl _ _ hz33 27 (by kernel_rfl) Hq27.out (by simp) (fun Wz35 pz36 => ?_)
      replace hB := pz36.below hB (by omega)
      replace h0 := pz36.other h0 (by omega)
      replace h1 := pz36.other h1 (by omega)
      replace h2 := pz36.other h2 (by omega)
      replace ho := ho.put pz36 naz34
      replace hz33 : At Wz35 wr.heap.size (.cells (u8s (qs[i])) 73 (0, 0)) := pz36.at_
      refine hK' _ _ ?_
      clear hK' K' pz36
      refine wpList_nil ?_
      go_upto_region 7 with (fail)
      refine wp_region_y (zs := [18]) (S := fun w' => Below w.heap.size w w' ∧ At w' wr.heap.size (.cells (u8s (qs[i])) 73 (0, 0))) (S2 := fun w' => At w' Wz12.heap.size (.cells #[.int .i64 p, .int .i64 n, .int .i64 m, .int .i64 k, .slice A9 i c9] 29 (0, 0))) (by kernel_rfl) ?_
      change wpAnyY _ _ _ _ _ _ _ _ _ _ (World.drew _)
      generalize hwdz37 : World.drew _ = wdz37
      replace hB : Below w.heap.size w wdz37 := by rw [← hwdz37]; exact hB.drew
      replace h0 : At wdz37 w.heap.size (.cells #[.int .i64 p, .int .i64 n, .int .i64 m, .int .i64 k, .slice (some ⟨b, off, none⟩) qs.length c] 41 (0, 0)) := by rw [← hwdz37]; exact h0
      replace h1 : At wdz37 Wz2.heap.size (.cells #[.int .i64 0, .int .i64 0, .int .i64 0, .int .i64 0, .slice none 0 0] 29 (0, 0)) := by rw [← hwdz37]; exact h1
      replace h2 : At wdz37 Wz12.heap.size (.cells #[.int .i64 p, .int .i64 n, .int .i64 m, .int .i64 k, .slice A9 i c9] 29 (0, 0)) := by rw [← hwdz37]; exact h2
      replace ho : OwnT wdz37 w.heap.size (.slice A9 i c9) ((qs.take i).map conT) := by rw [← hwdz37]; exact ho.drew
      replace hz33 : At wdz37 wr.heap.size (.cells (u8s (qs[i])) 73 (0, 0)) := by rw [← hwdz37]; exact hz33
      clear hwdz37
      refine y_yield 0 (some 27) (.pointer (some ⟨Wz12.heap.size, 4, none⟩)) rfl (by kernel_rfl) (by kernel_rfl) (by kernel_rfl) (fun _ _ _ h => h) rfl rfl ⟨hB, hz33⟩ (fun w' h' => exec_fieldAddr 29 _ 4 rfl _ (by kernel_rfl)) ?_
      go_frame
      refine y_yield3 1 (some 28) (.slice A9 i c9) rfl 19 (by kernel_rfl) (by kernel_rfl) (by kernel_rfl) (by kernel_rfl) (by kernel_rfl) (fun _ _ _ h => h) rfl rfl ⟨hB, hz33⟩ h2 (fun w' h' h2' => exec_load_one 27 _ rfl Wz12.heap.size 4 rfl (.slice A9 i c9) _ Try.underlying27 rfl (h2'.at_ 4)) ?_
      go_frame
      refine y_yield 2 (some 29) (.pointer (some ⟨wr.heap.size, 0, none⟩)) rfl (by kernel_rfl) (by kernel_rfl) (by kernel_rfl) (fun _ _ _ h => h) rfl rfl ⟨hB, hz33⟩ (fun w' h' => exec_fieldAddr 73 _ 0 rfl _ (by kernel_rfl)) ?_
      go_frame
      refine y_yield 3 (some 30) (.agg (u8s (segm (qs[i]) 0 9))) rfl (by kernel_rfl) (by kernel_rfl) (by kernel_rfl) (fun _ _ _ h => h) rfl rfl ⟨hB, hz33⟩ (fun w' h' => exec_load_seg 71 _ rfl wr.heap.size (0) rfl _ (qs[i]) _ 9 h'.2 Try.underlying71 rfl (by kernel_rfl) (by rw [Hq27.out]; omega) (segm (qs[i]) 0 9) rfl) ?_
      go_frame
      refine y_yield 4 (some 31) (.agg (u8s (segm qs[i] 0 9 ++ List.replicate 27 0))) rfl (by kernel_rfl) (by kernel_rfl) (by kernel_rfl) (fun _ _ _ h => h) rfl rfl ⟨hB, hz33⟩ (fun w' h' => exec_parts1 _ rfl (segm qs[i] 0 9) rfl (segm_len (by rw [Hq27.out]; omega))) ?_
      go_frame
      refine y_yield 6 (some 33) (.pointer (some ⟨wr.heap.size, 9, none⟩)) rfl (by kernel_rfl) (by kernel_rfl) (by kernel_rfl) (fun _ _ _ h => h) rfl rfl ⟨hB, hz33⟩ (fun w' h' => exec_fieldAddr 73 _ 1 rfl _ (by kernel_rfl)) ?_
      go_frame
      refine y_yield 7 (some 34) (.agg (u8s (segm (qs[i]) 9 9))) rfl (by kernel_rfl) (by kernel_rfl) (by kernel_rfl) (fun _ _ _ h => h) rfl rfl ⟨hB, hz33⟩ (fun w' h' => exec_load_seg 71 _ rfl wr.heap.size (9) rfl _ (qs[i]) _ 9 h'.2 Try.underlying71 rfl (by kernel_rfl) (by rw [Hq27.out]; omega) (segm (qs[i]) 9 9) rfl) ?_
      go_frame
      refine y_yield 8 (some 35) (.agg (u8s (segm qs[i] 9 9 ++ List.replicate 27 0))) rfl (by kernel_rfl) (by kernel_rfl) (by kernel_rfl) (fun _ _ _ h => h) rfl rfl ⟨hB, hz33⟩ (fun w' h' => exec_parts1 _ rfl (segm qs[i] 9 9) rfl (segm_len (by rw [Hq27.out]; omega))) ?_
      go_frame
      refine y_yield 10 (some 37) (.pointer (some ⟨wr.heap.size, 18, none⟩)) rfl (by kernel_rfl) (by kernel_rfl) (by kernel_rfl) (fun _ _ _ h => h) rfl rfl ⟨hB, hz33⟩ (fun w' h' => exec_fieldAddr 73 _ 2 rfl _ (by kernel_rfl)) ?_
      go_frame
      refine y_yield 11 (some 38) (.agg (u8s (segm (qs[i]) 18 9))) rfl (by kernel_rfl) (by kernel_rfl) (by kernel_rfl) (fun _ _ _ h => h) rfl rfl ⟨hB, hz33⟩ (fun w' h' => exec_load_seg 71 _ rfl wr.heap.size (18) rfl _ (qs[i]) _ 9 h'.2 Try.underlying71 rfl (by kernel_rfl) (by rw [Hq27.out]; omega) (segm (qs[i]) 18 9) rfl) ?_
      go_frame
      refine y_yield 12 (some 39) (.agg (u8s (segm qs[i] 18 9 ++ List.replicate 27 0))) rfl (by kernel_rfl) (by kernel_rfl) (by kernel_rfl) (fun _ _ _ h => h) rfl rfl ⟨hB, hz33⟩ (fun w' h' => exec_parts1 _ rfl (segm qs[i] 18 9) rfl (segm_len (by rw [Hq27.out]; omega))) ?_
      go_frame
      refine y_oper 5 (by kernel_rfl) rfl rfl (fun K' hK' => ?_)
      have lz40 := hB.size
      have lz41 := h0.lt
      have lz42 := h1.lt
      have lz43 := h2.lt
      have lz44 := hz33.lt
      refine wp_call1 (some 32) rfl 43 _ _ rfl (fun args w => by kernel_rfl) _ rfl _ (seriesCon_c (segm qs[i] 0 9) (segm_bytes hq (by omega)) _) (fun e Wz38 h => ?_)
      obtain ⟨rfl, bz39⟩ := h
      replace hB := below_after hB bz39
      replace h0 := h0.after bz39
      replace h1 := h1.after bz39
      replace h2 := h2.after bz39
      replace ho := ho.below bz39
      replace hz33 := hz33.after bz39
      clear bz39
      refine ⟨_, rfl, ?_⟩
      refine hK' _ _ ⟨hB, hz33⟩ (fun _ => h2) ?_
      clear hK' K'
      go_frame
      refine y_oper 9 (by kernel_rfl) rfl rfl (fun K' hK' => ?_)
      have lz47 := hB.size
      have lz48 := h0.lt
      have lz49 := h1.lt
      have lz50 := h2.lt
      have lz51 := hz33.lt
      refine wp_call1 (some 36) rfl 43 _ _ rfl (fun args w => by kernel_rfl) _ rfl _ (seriesCon_c (segm qs[i] 9 9) (segm_bytes hq (by omega)) _) (fun e Wz45 h => ?_)
      obtain ⟨rfl, bz46⟩ := h
      replace hB := below_after hB bz46
      replace h0 := h0.after bz46
      replace h1 := h1.after bz46
      replace h2 := h2.after bz46
      replace ho := ho.below bz46
      replace hz33 := hz33.after bz46
      clear bz46
      refine ⟨_, rfl, ?_⟩
      refine hK' _ _ ⟨hB, hz33⟩ (fun _ => h2) ?_
      clear hK' K'
      go_frame
      refine y_oper 13 (by kernel_rfl) rfl rfl (fun K' hK' => ?_)
      have lz54 := hB.size
      have lz55 := h0.lt
      have lz56 := h1.lt
      have lz57 := h2.lt
      have lz58 := hz33.lt
      refine wp_call1 (some 40) rfl 43 _ _ rfl (fun args w => by kernel_rfl) _ rfl _ (seriesCon_c (segm qs[i] 18 9) (segm_bytes hq (by omega)) _) (fun e Wz52 h => ?_)
      obtain ⟨rfl, bz53⟩ := h
      replace hB := below_after hB bz53
      replace h0 := h0.after bz53
      replace h1 := h1.after bz53
      replace h2 := h2.after bz53
      replace ho := ho.below bz53
      replace hz33 := hz33.after bz53
      clear bz53
      refine ⟨_, rfl, ?_⟩
      refine hK' _ _ ⟨hB, hz33⟩ (fun _ => h2) ?_
      clear hK' K'
      go_frame
      refine y_yield 14 (some 41) (.agg (u8s (catT (conS (segm qs[i] 0 9)) (conS (segm qs[i] 9 9)) (conS (segm qs[i] 18 9))))) rfl (by kernel_rfl) (by kernel_rfl) (by kernel_rfl) (fun _ _ _ h => h) rfl rfl ⟨hB, hz33⟩ (fun w' h' => exec_twig _ _ _ rfl (conS (segm qs[i] 0 9)) (conS (segm qs[i] 9 9)) (conS (segm qs[i] 18 9)) rfl rfl rfl (conS_len _) (conS_len _) (conS_len _)) ?_
      go_frame
      refine y_oper 15 (by kernel_rfl) rfl rfl (fun K' hK' => ?_)
      have lz59 := hB.size
      have lz60 := h0.lt
      have lz61 := h1.lt
      have lz62 := h2.lt
      have lz63 := hz33.lt
      refine wp_slice1T (some 42) rfl 27 63 _ rfl (conT qs[i]) rfl Try.underlying27 infoTwig (conT_bytes hq).len (fun Wz64 nnz65 => ?_)
      have bz66 := nnz65.below (Below.refl _ _) (Nat.le_refl _)
      replace hB := below_after hB bz66
      replace h0 := h0.after bz66
      replace h1 := h1.after bz66
      replace h2 := h2.after bz66
      replace ho := ho.below bz66
      replace hz33 := hz33.after bz66
      have hqz67 : At Wz64 Wz52.heap.size (.cells (u8s (conT qs[i])) 63 (0, 0)) := nnz65.at_
      refine hK' _ _ ⟨hB, hz33⟩ (fun _ => h2) ?_
      clear hK' K' nnz65 bz66
      go_frame
      refine y_oper 16 (by kernel_rfl) rfl rfl (fun K' hK' => ?_)
      have lz71 := hB.size
      have lz72 := h0.lt
      have lz73 := h1.lt
      have lz74 := h2.lt
      have lz75 := hz33.lt
      have lz76 := hqz67.lt
      refine wp_appT (some 43) rfl _ _ rfl (.slice A9 i c9) ((qs.take i).map conT) (conT qs[i]) rfl ho Wz52.heap.size rfl hqz67 (conT_bytes hq).len (by rw [map_take_len hi]; omega) (by omega) (fun v8 Wz68 noz70 grz69 => ?_)
      rw [HT.out] at noz70
      obtain ⟨A8, c8, rfl⟩ := OwnT.rdN noz70 (n := i + 1) (map_take_len (by omega))
      replace hB := below_grownT hB grz69 ho (by omega)
      replace h0 := h0.grown grz69 (ho.off h0 (by decide))
      replace h1 := h1.grown grz69 (ho.off h1 (by decide))
      replace h2 := h2.grown grz69 (ho.off h2 (by decide))
      replace hz33 := hz33.grown grz69 (ho.off hz33 (by decide))
      replace ho := noz70
      refine hK' _ _ ⟨hB, hz33⟩ (fun _ => h2) ?_
      clear hK' K' grz69 hqz67
      go_frame
      refine y_yield 17 (some 44) (.pointer (some ⟨Wz12.heap.size, 4, none⟩)) rfl (by kernel_rfl) (by kernel_rfl) (by kernel_rfl) (fun _ _ _ h => h) rfl rfl ⟨hB, hz33⟩ (fun w' h' => exec_fieldAddr 29 _ 4 rfl _ (by kernel_rfl)) ?_
      go_frame
      refine y_oper 18 (by kernel_rfl) rfl rfl (fun K' hK' => ?_)
      refine wp_store_one 27 _ _ rfl rfl Wz12.heap.size 4 rfl (.slice A8 (i + 1) c8) rfl rfl rfl _ _ h2 (by kernel_rfl) (by simp) (fun Wz77 pz78 => ?_)
      replace hB := pz78.below hB (by omega)
      replace h0 := pz78.other h0 (by omega)
      replace h1 := pz78.other h1 (by omega)
      replace ho := ho.put pz78 (ho.off h2 (by decide))
      replace hz33 := pz78.other hz33 (by omega)
      replace h2 : At Wz77 Wz12.heap.size (.cells #[.int .i64 p, .int .i64 n, .int .i64 m, .int .i64 k, .slice A8 (i + 1) c8] 29 (0, 0)) := pz78.at_
      refine hK' _ _ ⟨hB, hz33⟩ (fun h => absurd (by decide) h) ?_
      clear hK' K' pz78
      refine y_done (by kernel_rfl) ?_ _
      go_upto_region 8 with (fail)
      refine wp_region_lit ?_
      refine ls_ex (some 45) (.int .i64 (i + 1)) rfl rfl (exec_add _ _ _ _ rfl i 1 (i + 1) rfl rfl (IntWalk.i64_in _ (by omega))) ?_
      go_frame
      refine ls_ex (some 23) (.int .i64 (i + 1)) rfl rfl (exec_move _ rfl (.int .i64 (i + 1)) rfl) ?_
      go_frame
      refine wpList_nil ?_
      go_wp2_with fail
      go_roundw
      case rel => exact ⟨i + 1, _, by omega, by go_num, hB, h0, h1, h2, ho⟩
      case measure => simp [intOf]; omega
    · obtain ⟨A9, c9, rfl⟩ := OwnT.rdN ho (n := i) (map_take_len hi)
      have HE : Hid ((qs.take i).map conT = qs.map conT) := Lib.hid (by rw [show i = qs.length by omega, List.take_length])
      rw [HE.out] at ho
      go_upto_region 5 with (fail)
      refine wp_region_lit ?_
      refine ls_ex (some 24) (.bool false) rfl rfl (exec_lss _ _ _ _ rfl i qs.length rfl rfl false (decide_eq_false (by omega))) ?_
      go_frame
      refine wpList_nil ?_
      go_upto_region 9 with (fail)
      refine wp_region_lit ?_
      refine ls_ex (some 46) (.agg #[.int .i64 p, .int .i64 n, .int .i64 m, .int .i64 k, .slice A9 i c9]) rfl rfl (exec_load_all 29 _ rfl Wz12.heap.size rfl _ _ _ h2 Try.underlying29 rfl 5 (by kernel_rfl) rfl) ?_
      go_frame
      refine ls_op rfl (fun K' hK' => ?_)
      refine wp_store_all 29 _ _ rfl rfl Wz2.heap.size rfl #[.int .i64 p, .int .i64 n, .int .i64 m, .int .i64 k, .slice A9 i c9] rfl _ _ h1 5 (by kernel_rfl) rfl rfl (one5 _ _ _ _ _ _ _) (fun Wz79 pz80 => ?_)
      replace hB := pz80.below hB (by omega)
      replace h0 := pz80.other h0 (by omega)
      replace h2 := pz80.other h2 (by omega)
      replace ho := ho.put pz80 (ho.off h1 (by decide))
      replace h1 : At Wz79 Wz2.heap.size (.cells #[.int .i64 p, .int .i64 n, .int .i64 m, .int .i64 k, .slice A9 i c9] 29 (0, 0)) := pz80.at_
      refine hK' _ _ ?_
      clear hK' K' pz80
      refine ls_ex (some 3) (.int .i64 0) rfl rfl (exec_assign _ rfl (.int .i64 0) rfl) ?_
      go_frame
      refine wpList_nil ?_
      go_wp2_with fail
      refine bodyPost_ret (results_at2 rfl _ _ Wz2.heap.size _ _ _ rfl _ rfl h1 Try.underlying29 rfl 5 (by kernel_rfl) rfl) rfl ?_
      unfold ResD outZ outL
      rw [HC.out]
      exact ⟨_, rfl, ho.mono (by omega), hB⟩
theorem specBorderOfScheme_c (p n m k : Int) (A : Option Addr) (c : Nat) (qs : List (List Nat)) (w : World) (hR : Rd w A qs) (hlen : qs.length ≤ 1048576) : Calls Try.prog 14 #[.agg #[.int .i64 p, .int .i64 n, .int .i64 m, .int .i64 k, .slice A qs.length c]] w (ResD w (outZ (bofCode p n m k qs) p) (outZ (bofCode p n m k qs) n) (outZ (bofCode p n m k qs) m) (outZ (bofCode p n m k qs) k) (outL (bofCode p n m k qs) (qs.map conT)) (bofCode p n m k qs)) := by
  cases hs : schemeB p n m k qs with
  | false => exact specBorderOfScheme_no p n m k A c qs w hR hlen hs
  | true => exact specBorderOfScheme_yes p n m k A c qs w hR hlen hs
theorem implBorderOfScheme_c (p n m k : Int) (A : Option Addr) (c : Nat) (qs : List (List Nat)) (w : World) (hR : Rd w A qs) (hlen : qs.length ≤ 1048576) : Calls Try.prog 16 #[.agg #[.int .i64 p, .int .i64 n, .int .i64 m, .int .i64 k, .slice A qs.length c]] w (ResD w (outZ (bofCode p n m k qs) p) (outZ (bofCode p n m k qs) n) (outZ (bofCode p n m k qs) m) (outZ (bofCode p n m k qs) k) (outL (bofCode p n m k qs) (qs.map conT)) (bofCode p n m k qs)) := by
  cases hs : schemeB p n m k qs with
  | false => exact implBorderOfScheme_no p n m k A c qs w hR hlen hs
  | true => exact implBorderOfScheme_yes p n m k A c qs w hR hlen hs
theorem bof_bytes {p n m k : Int} {qs : List (List Nat)} (h : ∀ q ∈ qs, Bytes 27 q) : ∀ r ∈ outL (bofCode p n m k qs) (qs.map conT), Bytes 108 r := outL_bytes fun _ r hr => by
  obtain ⟨q, hq, rfl⟩ := List.mem_map.1 hr
  exact conT_bytes (h q hq)
theorem bof_len {p n m k : Int} {qs : List (List Nat)} : (outL (bofCode p n m k qs) (qs.map conT)).length ≤ 1048576 := outL_len fun h => by
  unfold bofCode at h
  split at h
  · next h2 =>
    unfold schemeB at h2
    simp only [Bool.and_eq_true, decide_eq_true_eq] at h2
    rw [List.length_map]
    omega
  · omega
end Go.Proofs.Ytlpdglmjejfmhaa
