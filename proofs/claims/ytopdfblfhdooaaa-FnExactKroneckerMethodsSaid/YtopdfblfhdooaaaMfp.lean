/-
  impl.multipliedProduct. (Made by mkmfp.py.)
-/
import Derived.Test.YtopdfblfhdooaaaMfm
import Derived.Test.YtopdfblfhdooaaaPo
namespace Go.Proofs.Ytopdfblfhdooaaa
open Go.RowKit
set_option maxRecDepth 100000
attribute [local irreducible] wpList
/-- impl.places of three shapes. -/
def PlaK (R C : Nat → Nat) : Prop := ∀ i, i < 3 → Hid (∀ w : World, Calls Try.prog 86 #[.agg #[.int .i64 (R i), .int .i64 (C i)]] w fun e w' => e = .returned (.int .i64 ((R i * C i : Nat) : Int)) ∧ Below w.heap.size w w')
def mfI (p : Nat) (R1 C1 R2 C2 : Nat → Nat) (q r : List Nat) (i : Nat) : List Nat := mulF p (R1 i) (C1 i) (R2 i) (C2 i) (segm q (i * 9) 9) (segm r (i * 9) 9)
/-- The first i factors of the product of two products, zeros behind them. -/
def mpP (p : Nat) (R1 C1 R2 C2 : Nat → Nat) (q r : List Nat) (i : Nat) : List Nat :=
  cat3 (if 0 < i then mfI p R1 C1 R2 C2 q r 0 else List.replicate 9 0) (if 1 < i then mfI p R1 C1 R2 C2 q r 1 else List.replicate 9 0) (if 2 < i then mfI p R1 C1 R2 C2 q r 2 else List.replicate 9 0)
theorem mfI_len (p : Nat) (R1 C1 R2 C2 : Nat → Nat) (q r : List Nat) (i : Nat) : (mfI p R1 C1 R2 C2 q r i).length = 9 := mulF_len _ _ _ _ _ _ _
theorem mulF_bytes {p : Nat} (r1 c1 r2 c2 : Nat) (f g : List Nat) (hp : 2 ≤ p ∧ p ≤ 5) : Bytes 9 (mulF p r1 c1 r2 c2 f g) := by
  refine ⟨mulF_len _ _ _ _ _ _ _, fun n hn => ?_⟩
  obtain ⟨t, _, rfl⟩ := List.mem_map.1 hn
  split
  · have := Nat.mod_lt (f[plK c1 c2 r2 t]?.getD 0 * g[inK c1 c2 r2 t]?.getD 0) (show 0 < p by omega)
    unfold mulV
    omega
  · omega
theorem mp_len9 (p : Nat) (R1 C1 R2 C2 : Nat → Nat) (q r : List Nat) (i : Nat) (c : Prop) [Decidable c] : (if c then mfI p R1 C1 R2 C2 q r i else List.replicate 9 0).length = 9 := by
  split
  · exact mfI_len _ _ _ _ _ _ _ _
  · simp
theorem mpP_len (p : Nat) (R1 C1 R2 C2 : Nat → Nat) (q r : List Nat) (i : Nat) (_ : i ≤ 3) : (mpP p R1 C1 R2 C2 q r i).length = 27 := by
  simp only [mpP, cat3, List.length_append, mp_len9]
theorem mpP_zero (p : Nat) (R1 C1 R2 C2 : Nat → Nat) (q r : List Nat) : mpP p R1 C1 R2 C2 q r 0 = List.replicate 27 0 := by
  simp [mpP, cat3]
theorem mpP_step (p : Nat) (R1 C1 R2 C2 : Nat → Nat) (q r : List Nat) {i : Nat} (h : i < 3) : over (mpP p R1 C1 R2 C2 q r i) (0 + i * 9) (mulF p (R1 i) (C1 i) (R2 i) (C2 i) (segm q (i * 9) 9) (segm r (i * 9) 9)) = mpP p R1 C1 R2 C2 q r (i + 1) := by
  have l0 := mfI_len p R1 C1 R2 C2 q r 0
  have l1 := mfI_len p R1 C1 R2 C2 q r 1
  have l2 := mfI_len p R1 C1 R2 C2 q r 2
  have lz : (List.replicate 9 0 : List Nat).length = 9 := by simp
  rcases (show i = 0 ∨ i = 1 ∨ i = 2 by omega) with rfl | rfl | rfl
  · exact over_a lz l0
  · exact over_b l0 lz l1
  · exact over_c l0 l1 lz l2
theorem mpP_bytes (p : Nat) (R1 C1 R2 C2 : Nat → Nat) (q r : List Nat) (hp : 2 ≤ p ∧ p ≤ 5) : Bytes 27 (mpP p R1 C1 R2 C2 q r 3) := by
  refine ⟨mpP_len _ _ _ _ _ _ _ _ (by omega), fun n hn => ?_⟩
  have b := fun i => (mulF_bytes (R1 i) (C1 i) (R2 i) (C2 i) (segm q (i * 9) 9) (segm r (i * 9) 9) hp).2 n
  simp only [mpP, cat3] at hn
  rcases List.mem_append.1 hn with hn | hn
  · rcases List.mem_append.1 hn with hn | hn
    · exact b 0 hn
    · exact b 1 hn
  · exact b 2 hn
theorem wp_call5m {P : Program} {Q : Exit → Act → World → Prop} {o : Oper} {a : Act} {w : World} {K : Act → World → Prop} (d : Option Tmp) (hd : o.dst = d) (f : Nat) (x y z u t : Operand) (ts : Array TypeId) (ho : o.op = .call { callee := .value (.func f), args := #[x, y, z, u, t], argTypes := ts }) (hcall : ∀ args w, (callFunc f args).run P w = .ok (.enter f args) w)
    (v1 v2 v3 v4 v5 : Value) (hx : a.eval x = v1) (hy : a.eval y = v2) (hz : a.eval z = v3) (hu : a.eval u = v4) (ht : a.eval t = v5) (post : Ending → World → Prop) (hc : Calls P f #[v1, v2, v3, v4, v5] w post) (h : ∀ e w', post e w' → ∃ v, e = .returned v ∧ K (a.put d v) w') : Oper.wp P o a w K Q :=
  wp_call d hd f #[x, y, z, u, t] ts ho hcall #[v1, v2, v3, v4, v5] (by simp [hx, hy, hz, hu, ht]) post hc h
theorem alM__3_impl_Form {o : Oper} {a : Act} {w : World} (ho : o.op = .alloc 100) : (execOp a.eval o).run Try.prog w = .ok (.value (.pointer (some ⟨w.heap.size, 0, none⟩))) (w.alloc (.cells (u8s (List.replicate 27 0)) 100 (0, 0))) := by
  unfold execOp
  rw [ho]
  kernel_rfl
theorem alM_impl_Form {o : Oper} {a : Act} {w : World} (ho : o.op = .alloc 51) : (execOp a.eval o).run Try.prog w = .ok (.value (.pointer (some ⟨w.heap.size, 0, none⟩))) (w.alloc (.cells (u8s (List.replicate 9 0)) 51 (0, 0))) := by
  unfold execOp
  rw [ho]
  kernel_rfl
theorem alM_impl_Product {o : Oper} {a : Act} {w : World} (ho : o.op = .alloc 53) : (execOp a.eval o).run Try.prog w = .ok (.value (.pointer (some ⟨w.heap.size, 0, none⟩))) (w.alloc (.cells (u8s (List.replicate 27 0)) 53 (0, 0))) := by
  unfold execOp
  rw [ho]
  kernel_rfl
set_option maxHeartbeats 12800000 in
theorem multipliedProduct_c (p : Nat) (R1 C1 R2 C2 : Nat → Nat) (q r : List Nat) (hq : Bytes 27 q) (hr : Bytes 27 r) (w : World) (hp : 2 ≤ p ∧ p ≤ 5) (hK : ∀ i, i < 3 → okK (R1 i) (C1 i) (R2 i) (C2 i) = true) (HP1 : PlaK R1 C1) (HP2 : PlaK R2 C2) :
    Calls Try.prog 41 #[.int .i64 p, .agg (u8s (q)), .agg #[.int .i64 (R1 0), .int .i64 (C1 0), .int .i64 (R1 1), .int .i64 (C1 1), .int .i64 (R1 2), .int .i64 (C1 2)], .agg (u8s (r)), .agg #[.int .i64 (R2 0), .int .i64 (C2 0), .int .i64 (R2 1), .int .i64 (C2 1), .int .i64 (R2 2), .int .i64 (C2 2)]] w (fun e w' => e = .returned (.agg (u8s (mpP p R1 C1 R2 C2 q r 3))) ∧ Below w.heap.size w w') := by
  have hB := Below.refl w.heap.size w
  have HQ := Lib.hid hq
  have HR := Lib.hid hr
  have HK := Lib.hid hK
  have HM0 : Hid (mpP p R1 C1 R2 C2 q r 0 = List.replicate 27 0) := Lib.hid (mpP_zero _ _ _ _ _ _ _)
  have HM27 : Hid (Bytes 27 (mpP p R1 C1 R2 C2 q r 3)) := Lib.hid (mpP_bytes _ _ _ _ _ _ _ hp)
  clear hq hr hK
  go_enter Try.func41, Try.ntmps41
  go_upto_region 0 with (fail)
  refine wp_region_lit ?_
  refine ls_op rfl (fun K' hK' => ?_)
  have lz1 := hB.size
  refine wp_new (some 6) rfl (exec_box 53 _ rfl (u8s (q)) rfl) (fun Wz2 nnz3 => ?_)
  have bz4 := nnz3.below (Below.refl _ _) (Nat.le_refl _)
  replace hB := below_after hB bz4
  have hz5 : At Wz2 w.heap.size (.cells (u8s (q)) 53 (0, 0)) := nnz3.at_
  refine hK' _ _ ?_
  clear hK' K' nnz3 bz4
  go_frame
  refine ls_op rfl (fun K' hK' => ?_)
  have lz6 := hB.size
  have lz7 := hz5.lt
  refine wp_new (some 7) rfl (exec_box 75 _ rfl (#[.int .i64 (R1 0), .int .i64 (C1 0), .int .i64 (R1 1), .int .i64 (C1 1), .int .i64 (R1 2), .int .i64 (C1 2)]) rfl) (fun Wz8 nnz9 => ?_)
  have bz10 := nnz9.below (Below.refl _ _) (Nat.le_refl _)
  replace hB := below_after hB bz10
  replace hz5 := hz5.after bz10
  have hz11 : At Wz8 Wz2.heap.size (.cells #[.int .i64 (R1 0), .int .i64 (C1 0), .int .i64 (R1 1), .int .i64 (C1 1), .int .i64 (R1 2), .int .i64 (C1 2)] 75 (0, 0)) := nnz9.at_
  refine hK' _ _ ?_
  clear hK' K' nnz9 bz10
  go_frame
  refine ls_op rfl (fun K' hK' => ?_)
  have lz12 := hB.size
  have lz13 := hz5.lt
  have lz14 := hz11.lt
  refine wp_new (some 8) rfl (exec_box 53 _ rfl (u8s (r)) rfl) (fun Wz15 nnz16 => ?_)
  have bz17 := nnz16.below (Below.refl _ _) (Nat.le_refl _)
  replace hB := below_after hB bz17
  replace hz5 := hz5.after bz17
  replace hz11 := hz11.after bz17
  have hz18 : At Wz15 Wz8.heap.size (.cells (u8s (r)) 53 (0, 0)) := nnz16.at_
  refine hK' _ _ ?_
  clear hK' K' nnz16 bz17
  go_frame
  refine ls_op rfl (fun K' hK' => ?_)
  have lz19 := hB.size
  have lz20 := hz5.lt
  have lz21 := hz11.lt
  have lz22 := hz18.lt
  refine wp_new (some 9) rfl (exec_box 75 _ rfl (#[.int .i64 (R2 0), .int .i64 (C2 0), .int .i64 (R2 1), .int .i64 (C2 1), .int .i64 (R2 2), .int .i64 (C2 2)]) rfl) (fun Wz23 nnz24 => ?_)
  have bz25 := nnz24.below (Below.refl _ _) (Nat.le_refl _)
  replace hB := below_after hB bz25
  replace hz5 := hz5.after bz25
  replace hz11 := hz11.after bz25
  replace hz18 := hz18.after bz25
  have hz26 : At Wz23 Wz15.heap.size (.cells #[.int .i64 (R2 0), .int .i64 (C2 0), .int .i64 (R2 1), .int .i64 (C2 1), .int .i64 (R2 2), .int .i64 (C2 2)] 75 (0, 0)) := nnz24.at_
  refine hK' _ _ ?_
  clear hK' K' nnz24 bz25
  go_frame
  refine ls_op rfl (fun K' hK' => ?_)
  have lz27 := hB.size
  have lz28 := hz5.lt
  have lz29 := hz11.lt
  have lz30 := hz18.lt
  have lz31 := hz26.lt
  refine wp_new (some 10) rfl (alM_impl_Product rfl) (fun Wz32 nnz33 => ?_)
  have bz34 := nnz33.below (Below.refl _ _) (Nat.le_refl _)
  replace hB := below_after hB bz34
  replace hz5 := hz5.after bz34
  replace hz11 := hz11.after bz34
  replace hz18 := hz18.after bz34
  replace hz26 := hz26.after bz34
  have hz35 : At Wz32 Wz23.heap.size (.cells (u8s (List.replicate 27 0)) 53 (0, 0)) := nnz33.at_
  refine hK' _ _ ?_
  clear hK' K' nnz33 bz34
  go_frame
  refine wpList_nil ?_
  go_upto_region 1 with (fail)
  refine wp_region_lit ?_
  refine ls_ex (some 15) (.agg (u8s (r))) rfl rfl (exec_load_all 53 _ rfl Wz8.heap.size rfl _ _ _ hz18 Try.underlying53 rfl 27 (by kernel_rfl) ((u8s_size _).trans HR.out.len)) ?_
  go_frame
  refine ls_op rfl (fun K' hK' => ?_)
  have lz38 := hB.size
  have lz39 := hz5.lt
  have lz40 := hz11.lt
  have lz41 := hz18.lt
  have lz42 := hz26.lt
  have lz43 := hz35.lt
  refine wp_call1 (some 16) rfl 65 _ _ rfl (fun args w => by kernel_rfl) _ rfl _ (factorsOf_c r HR.out _) (fun e Wz36 h => ?_)
  obtain ⟨rfl, bz37⟩ := h
  replace hB := below_after hB bz37
  replace hz5 := hz5.after bz37
  replace hz11 := hz11.after bz37
  replace hz18 := hz18.after bz37
  replace hz26 := hz26.after bz37
  replace hz35 := hz35.after bz37
  clear bz37
  refine ⟨_, rfl, ?_⟩
  refine hK' _ _ ?_
  clear hK' K'
  go_frame
  refine ls_op rfl (fun K' hK' => ?_)
  have lz44 := hB.size
  have lz45 := hz5.lt
  have lz46 := hz11.lt
  have lz47 := hz18.lt
  have lz48 := hz26.lt
  have lz49 := hz35.lt
  refine wp_new (some 11) rfl (alM__3_impl_Form rfl) (fun Wz50 nnz51 => ?_)
  have bz52 := nnz51.below (Below.refl _ _) (Nat.le_refl _)
  replace hB := below_after hB bz52
  replace hz5 := hz5.after bz52
  replace hz11 := hz11.after bz52
  replace hz18 := hz18.after bz52
  replace hz26 := hz26.after bz52
  replace hz35 := hz35.after bz52
  have hz53 : At Wz50 Wz36.heap.size (.cells (u8s (List.replicate 27 0)) 100 (0, 0)) := nnz51.at_
  refine hK' _ _ ?_
  clear hK' K' nnz51 bz52
  go_frame
  refine ls_op rfl (fun K' hK' => ?_)
  refine wp_store_bytes 100 _ _ rfl rfl Wz36.heap.size rfl (r) rfl _ _ hz53 27 (by kernel_rfl) HR.out.len (by simp) (fun Wz54 pz55 => ?_)
  replace hB := pz55.below hB (by omega)
  replace hz5 := pz55.other hz5 (by omega)
  replace hz11 := pz55.other hz11 (by omega)
  replace hz18 := pz55.other hz18 (by omega)
  replace hz26 := pz55.other hz26 (by omega)
  replace hz35 := pz55.other hz35 (by omega)
  replace hz53 : At Wz54 Wz36.heap.size (.cells (u8s (r)) 100 (0, 0)) := pz55.at_
  refine hK' _ _ ?_
  clear hK' K' pz55
  refine wpList_nil ?_
  go_upto_region 2 with (fail)
  refine wp_region_lit ?_
  refine ls_op rfl (fun K' hK' => ?_)
  have lz56 := hB.size
  have lz57 := hz5.lt
  have lz58 := hz11.lt
  have lz59 := hz18.lt
  have lz60 := hz26.lt
  have lz61 := hz35.lt
  have lz62 := hz53.lt
  refine wp_new (some 12) rfl (alM__3_impl_Form rfl) (fun Wz63 nnz64 => ?_)
  have bz65 := nnz64.below (Below.refl _ _) (Nat.le_refl _)
  replace hB := below_after hB bz65
  replace hz5 := hz5.after bz65
  replace hz11 := hz11.after bz65
  replace hz18 := hz18.after bz65
  replace hz26 := hz26.after bz65
  replace hz35 := hz35.after bz65
  replace hz53 := hz53.after bz65
  have hz66 : At Wz63 Wz54.heap.size (.cells (u8s (List.replicate 27 0)) 100 (0, 0)) := nnz64.at_
  refine hK' _ _ ?_
  clear hK' K' nnz64 bz65
  go_frame
  refine wpList_nil ?_
  go_upto_region 3 with (fail)
  refine wp_region_lit ?_
  refine ls_ex (some 17) (.agg (u8s (q))) rfl rfl (exec_load_all 53 _ rfl w.heap.size rfl _ _ _ hz5 Try.underlying53 rfl 27 (by kernel_rfl) ((u8s_size _).trans HQ.out.len)) ?_
  go_frame
  refine ls_op rfl (fun K' hK' => ?_)
  have lz69 := hB.size
  have lz70 := hz5.lt
  have lz71 := hz11.lt
  have lz72 := hz18.lt
  have lz73 := hz26.lt
  have lz74 := hz35.lt
  have lz75 := hz53.lt
  have lz76 := hz66.lt
  refine wp_call1 (some 18) rfl 65 _ _ rfl (fun args w => by kernel_rfl) _ rfl _ (factorsOf_c q HQ.out _) (fun e Wz67 h => ?_)
  obtain ⟨rfl, bz68⟩ := h
  replace hB := below_after hB bz68
  replace hz5 := hz5.after bz68
  replace hz11 := hz11.after bz68
  replace hz18 := hz18.after bz68
  replace hz26 := hz26.after bz68
  replace hz35 := hz35.after bz68
  replace hz53 := hz53.after bz68
  replace hz66 := hz66.after bz68
  clear bz68
  refine ⟨_, rfl, ?_⟩
  refine hK' _ _ ?_
  clear hK' K'
  go_frame
  refine ls_ex (some 19) (.int .i64 0) rfl rfl (exec_move _ rfl (.int .i64 0) rfl) ?_
  go_frame
  refine wpList_nil ?_
  go_wp2_with fail
  go_loopw [19] (fun s19 wr => ∃ i : Nat, i ≤ 3 ∧ s19 = .int .i64 i ∧ Below w.heap.size w wr ∧ At wr Wz2.heap.size (.cells #[.int .i64 (R1 0), .int .i64 (C1 0), .int .i64 (R1 1), .int .i64 (C1 1), .int .i64 (R1 2), .int .i64 (C1 2)] 75 (0, 0)) ∧ At wr Wz15.heap.size (.cells #[.int .i64 (R2 0), .int .i64 (C2 0), .int .i64 (R2 1), .int .i64 (C2 1), .int .i64 (R2 2), .int .i64 (C2 2)] 75 (0, 0)) ∧ At wr Wz23.heap.size (.cells (u8s (List.replicate 27 0)) 53 (0, 0)) ∧ At wr Wz36.heap.size (.cells (u8s (r)) 100 (0, 0)) ∧ At wr Wz54.heap.size (.cells (u8s (mpP p R1 C1 R2 C2 q r i)) 100 (0, 0))) (fun s19 _ => 3 - (intOf s19).toNat)
  case atStart => exact ⟨0, by omega, rfl, hB, hz11, hz26, hz35, hz53, by rw [HM0.out]; exact hz66⟩
  case round =>
    clear hB hz5 hz11 hz18 hz26 hz35 hz53 hz66
    obtain ⟨i, hle, rfl, hB, h1, h3, h4, h5, h6⟩ := hrel
    by_cases hlt : i < 3
    · have bq : Bytes 9 (segm q (i * 9) 9) := segm_bytes HQ.out (by omega)
      have br : Bytes 9 (segm r (i * 9) 9) := segm_bytes HR.out (by omega)
      have HW := Lib.hid (mpP_step p R1 C1 R2 C2 q r hlt)
      have hmf : (mulF p (R1 i) (C1 i) (R2 i) (C2 i) (segm q (i * 9) 9) (segm r (i * 9) 9)).length = 9 := mulF_len _ _ _ _ _ _ _
      go_upto_region 4 with (fail)
      refine wp_region_lit ?_
      refine ls_ex (some 20) (.bool true) rfl rfl (exec_lss _ _ _ _ rfl i 3 rfl rfl true (decide_eq_true (by omega))) ?_
      go_frame
      refine wpList_nil ?_
      go_upto_region 5 with (fail)
      refine wp_region_lit ?_
      refine ls_ex (some 21) (.int .i64 i) rfl rfl (exec_move _ rfl (.int .i64 i) rfl) ?_
      go_frame
      refine ls_ex (some 22) (.agg (u8s (segm q (i * 9) 9))) rfl rfl (exec_index_seg 100 51 _ _ rfl 3 i 9 (q) _ rfl rfl Try.underlying100 Try.underlying51 rfl (by kernel_rfl) hlt) ?_
      go_frame
      refine ls_op rfl (fun K' hK' => ?_)
      have lz77 := hB.size
      have lz78 := h1.lt
      have lz79 := h3.lt
      have lz80 := h4.lt
      have lz81 := h5.lt
      have lz82 := h6.lt
      refine wp_new (some 14) rfl (alM_impl_Form rfl) (fun Wz83 nnz84 => ?_)
      have bz85 := nnz84.below (Below.refl _ _) (Nat.le_refl _)
      replace hB := below_after hB bz85
      replace h1 := h1.after bz85
      replace h3 := h3.after bz85
      replace h4 := h4.after bz85
      replace h5 := h5.after bz85
      replace h6 := h6.after bz85
      have hz86 : At Wz83 wr.heap.size (.cells (u8s (List.replicate 9 0)) 51 (0, 0)) := nnz84.at_
      refine hK' _ _ ?_
      clear hK' K' nnz84 bz85
      go_frame
      refine ls_ex (some 13) (.int .i64 i) rfl rfl (exec_assign _ rfl (.int .i64 i) rfl) ?_
      go_frame
      refine ls_op rfl (fun K' hK' => ?_)
      refine wp_store_bytes 51 _ _ rfl rfl wr.heap.size rfl (segm q (i * 9) 9) rfl _ _ hz86 9 (by kernel_rfl) bq.len (by simp) (fun Wz87 pz88 => ?_)
      replace hB := pz88.below hB (by omega)
      replace h1 := pz88.other h1 (by omega)
      replace h3 := pz88.other h3 (by omega)
      replace h4 := pz88.other h4 (by omega)
      replace h5 := pz88.other h5 (by omega)
      replace h6 := pz88.other h6 (by omega)
      replace hz86 : At Wz87 wr.heap.size (.cells (u8s (segm q (i * 9) 9)) 51 (0, 0)) := pz88.at_
      refine hK' _ _ ?_
      clear hK' K' pz88
      refine wpList_nil ?_
      go_upto_region 6 with (fail)
      refine wp_region_y (zs := [14]) (S := fun w' => Below w.heap.size w w' ∧ At w' wr.heap.size (.cells (u8s (segm q (i * 9) 9)) 51 (0, 0)) ∧ At w' Wz2.heap.size (.cells #[.int .i64 (R1 0), .int .i64 (C1 0), .int .i64 (R1 1), .int .i64 (C1 1), .int .i64 (R1 2), .int .i64 (C1 2)] 75 (0, 0)) ∧ At w' Wz36.heap.size (.cells (u8s (r)) 100 (0, 0)) ∧ At w' Wz15.heap.size (.cells #[.int .i64 (R2 0), .int .i64 (C2 0), .int .i64 (R2 1), .int .i64 (C2 1), .int .i64 (R2 2), .int .i64 (C2 2)] 75 (0, 0))) (S2 := fun w' => True) (by kernel_rfl) ?_
      change wpAnyY _ _ _ _ _ _ _ _ _ _ (World.drew _)
      generalize hwdz89 : World.drew _ = wdz89
      replace hB : Below w.heap.size w wdz89 := by rw [← hwdz89]; exact hB.drew
      replace h1 : At wdz89 Wz2.heap.size (.cells #[.int .i64 (R1 0), .int .i64 (C1 0), .int .i64 (R1 1), .int .i64 (C1 1), .int .i64 (R1 2), .int .i64 (C1 2)] 75 (0, 0)) := by rw [← hwdz89]; exact h1
      replace h3 : At wdz89 Wz15.heap.size (.cells #[.int .i64 (R2 0), .int .i64 (C2 0), .int .i64 (R2 1), .int .i64 (C2 1), .int .i64 (R2 2), .int .i64 (C2 2)] 75 (0, 0)) := by rw [← hwdz89]; exact h3
      replace h4 : At wdz89 Wz23.heap.size (.cells (u8s (List.replicate 27 0)) 53 (0, 0)) := by rw [← hwdz89]; exact h4
      replace h5 : At wdz89 Wz36.heap.size (.cells (u8s (r)) 100 (0, 0)) := by rw [← hwdz89]; exact h5
      replace h6 : At wdz89 Wz54.heap.size (.cells (u8s (mpP p R1 C1 R2 C2 q r i)) 100 (0, 0)) := by rw [← hwdz89]; exact h6
      replace hz86 : At wdz89 wr.heap.size (.cells (u8s (segm q (i * 9) 9)) 51 (0, 0)) := by rw [← hwdz89]; exact hz86
      clear hwdz89
      refine y_yield 0 (some 23) (.int .i64 i) rfl (by kernel_rfl) (by kernel_rfl) (by kernel_rfl) (fun _ _ _ h => h) rfl rfl ⟨hB, hz86, h1, h5, h3⟩ (fun w' h' => exec_move _ rfl (.int .i64 i) rfl) ?_
      go_frame
      refine y_yield 1 (some 24) (.int .i64 p) rfl (by kernel_rfl) (by kernel_rfl) (by kernel_rfl) (fun _ _ _ h => h) rfl rfl ⟨hB, hz86, h1, h5, h3⟩ (fun w' h' => exec_move _ rfl (.int .i64 p) rfl) ?_
      go_frame
      refine y_yield 2 (some 25) (.agg (u8s (segm q (i * 9) 9))) rfl (by kernel_rfl) (by kernel_rfl) (by kernel_rfl) (fun _ _ _ h => h) rfl rfl ⟨hB, hz86, h1, h5, h3⟩ (fun w' h' => exec_load_all 51 _ rfl wr.heap.size rfl _ _ _ h'.2.1 Try.underlying51 rfl 9 (by kernel_rfl) ((u8s_size _).trans bq.len)) ?_
      go_frame
      refine y_yield 3 (some 26) (.int .i64 i) rfl (by kernel_rfl) (by kernel_rfl) (by kernel_rfl) (fun _ _ _ h => h) rfl rfl ⟨hB, hz86, h1, h5, h3⟩ (fun w' h' => exec_move _ rfl (.int .i64 i) rfl) ?_
      go_frame
      refine y_yield 4 (some 27) (.pointer (some ⟨Wz2.heap.size, 0 + i * 2, none⟩)) rfl (by kernel_rfl) (by kernel_rfl) (by kernel_rfl) (fun _ _ _ h => h) rfl rfl ⟨hB, hz86, h1, h5, h3⟩ (fun w' h' => exec_index_arr 75 74 _ _ rfl Wz2.heap.size 0 3 i 2 rfl rfl Try.underlying75 (by kernel_rfl) hlt) ?_
      go_frame
      refine y_yield 5 (some 28) (.agg #[.int .i64 (R1 i), .int .i64 (C1 i)]) rfl (by kernel_rfl) (by kernel_rfl) (by kernel_rfl) (fun _ _ _ h => h) rfl rfl ⟨hB, hz86, h1, h5, h3⟩ (fun w' h' => exec_load_lit 74 _ rfl Wz2.heap.size (0 + i * 2) rfl _ _ _ 2 h'.2.2.1 Try.underlying74 rfl (by kernel_rfl) (by simp; omega) _ (shapes_atG (fun j => (R1 j : Int)) (fun j => (C1 j : Int)) hlt)) ?_
      go_frame
      refine y_yield 6 (some 29) (.int .i64 i) rfl (by kernel_rfl) (by kernel_rfl) (by kernel_rfl) (fun _ _ _ h => h) rfl rfl ⟨hB, hz86, h1, h5, h3⟩ (fun w' h' => exec_move _ rfl (.int .i64 i) rfl) ?_
      go_frame
      refine y_yield 7 (some 30) (.pointer (some ⟨Wz36.heap.size, 0 + i * 9, none⟩)) rfl (by kernel_rfl) (by kernel_rfl) (by kernel_rfl) (fun _ _ _ h => h) rfl rfl ⟨hB, hz86, h1, h5, h3⟩ (fun w' h' => exec_index_arr 100 51 _ _ rfl Wz36.heap.size 0 3 i 9 rfl rfl Try.underlying100 (by kernel_rfl) hlt) ?_
      go_frame
      refine y_yield 8 (some 31) (.agg (u8s (segm r (i * 9) 9))) rfl (by kernel_rfl) (by kernel_rfl) (by kernel_rfl) (fun _ _ _ h => h) rfl rfl ⟨hB, hz86, h1, h5, h3⟩ (fun w' h' => exec_load_seg 51 _ rfl Wz36.heap.size (0 + i * 9) rfl _ (r) _ 9 h'.2.2.2.1 Try.underlying51 rfl (by kernel_rfl) (by rw [HR.out.len]; omega) (segm r (i * 9) 9) ((by rw [Nat.zero_add]))) ?_
      go_frame
      refine y_yield 9 (some 32) (.int .i64 i) rfl (by kernel_rfl) (by kernel_rfl) (by kernel_rfl) (fun _ _ _ h => h) rfl rfl ⟨hB, hz86, h1, h5, h3⟩ (fun w' h' => exec_move _ rfl (.int .i64 i) rfl) ?_
      go_frame
      refine y_yield 10 (some 33) (.pointer (some ⟨Wz15.heap.size, 0 + i * 2, none⟩)) rfl (by kernel_rfl) (by kernel_rfl) (by kernel_rfl) (fun _ _ _ h => h) rfl rfl ⟨hB, hz86, h1, h5, h3⟩ (fun w' h' => exec_index_arr 75 74 _ _ rfl Wz15.heap.size 0 3 i 2 rfl rfl Try.underlying75 (by kernel_rfl) hlt) ?_
      go_frame
      refine y_yield 11 (some 34) (.agg #[.int .i64 (R2 i), .int .i64 (C2 i)]) rfl (by kernel_rfl) (by kernel_rfl) (by kernel_rfl) (fun _ _ _ h => h) rfl rfl ⟨hB, hz86, h1, h5, h3⟩ (fun w' h' => exec_load_lit 74 _ rfl Wz15.heap.size (0 + i * 2) rfl _ _ _ 2 h'.2.2.2.2 Try.underlying74 rfl (by kernel_rfl) (by simp; omega) _ (shapes_atG (fun j => (R2 j : Int)) (fun j => (C2 j : Int)) hlt)) ?_
      go_frame
      refine y_oper 12 (by kernel_rfl) rfl rfl (fun K' hK' => ?_)
      have lz92 := hB.size
      have lz93 := h1.lt
      have lz94 := h3.lt
      have lz95 := h4.lt
      have lz96 := h5.lt
      have lz97 := h6.lt
      have lz98 := hz86.lt
      refine wp_call5m (some 35) rfl 66 _ _ _ _ _ _ rfl (fun args w => by kernel_rfl) _ _ _ _ _ rfl rfl rfl rfl rfl _ (multipliedForm_c p (R1 i) (C1 i) (R2 i) (C2 i) (segm q (i * 9) 9) (segm r (i * 9) 9) bq br _ hp (HK.out i hlt) (HP1 i hlt) (HP2 i hlt)) (fun e Wz90 h => ?_)
      obtain ⟨rfl, bz91⟩ := h
      replace hB := below_after hB bz91
      replace h1 := h1.after bz91
      replace h3 := h3.after bz91
      replace h4 := h4.after bz91
      replace h5 := h5.after bz91
      replace h6 := h6.after bz91
      replace hz86 := hz86.after bz91
      clear bz91
      refine ⟨_, rfl, ?_⟩
      refine hK' _ _ ⟨hB, hz86, h1, h5, h3⟩ (fun _ => trivial) ?_
      clear hK' K'
      go_frame
      refine y_yield 13 (some 36) (.pointer (some ⟨Wz54.heap.size, 0 + i * 9, none⟩)) rfl (by kernel_rfl) (by kernel_rfl) (by kernel_rfl) (fun _ _ _ h => h) rfl rfl ⟨hB, hz86, h1, h5, h3⟩ (fun w' h' => exec_index_arr 100 51 _ _ rfl Wz54.heap.size 0 3 i 9 rfl rfl Try.underlying100 (by kernel_rfl) hlt) ?_
      go_frame
      refine y_oper 14 (by kernel_rfl) rfl rfl (fun K' hK' => ?_)
      refine wp_store_u8s 51 _ _ rfl rfl Wz54.heap.size (0 + i * 9) rfl (mulF p (R1 i) (C1 i) (R2 i) (C2 i) (segm q (i * 9) 9) (segm r (i * 9) 9)) rfl _ _ h6 9 (by kernel_rfl) hmf (by rw [(mpP_len _ _ _ _ _ _ _ _ hle)]; omega) (fun Wz99 pz100 => ?_)
      replace hB := pz100.below hB (by omega)
      replace h1 := pz100.other h1 (by omega)
      replace h3 := pz100.other h3 (by omega)
      replace h4 := pz100.other h4 (by omega)
      replace h5 := pz100.other h5 (by omega)
      replace hz86 := pz100.other hz86 (by omega)
      replace h6 : At Wz99 Wz54.heap.size (.cells (u8s (mpP p R1 C1 R2 C2 q r (i + 1))) 100 (0, 0)) := by have h9 := pz100.at_; rwa [HW.out] at h9
      refine hK' _ _ ⟨hB, hz86, h1, h5, h3⟩ (fun h => absurd (by decide) h) ?_
      clear hK' K' pz100
      refine y_done (by kernel_rfl) ?_ _
      go_upto_region 7 with (fail)
      refine wp_region_lit ?_
      refine ls_ex (some 37) (.int .i64 (i + 1)) rfl rfl (exec_add _ _ _ _ rfl i 1 (i + 1) rfl rfl (IntWalk.i64_in _ (by omega))) ?_
      go_frame
      refine ls_ex (some 19) (.int .i64 (i + 1)) rfl rfl (exec_move _ rfl (.int .i64 (i + 1)) rfl) ?_
      go_frame
      refine wpList_nil ?_
      go_wp2_with fail
      go_roundw
      case rel => exact ⟨i + 1, by omega, by go_num, hB, h1, h3, h4, h5, h6⟩
      case measure => simp [intOf]; omega
    · obtain rfl : i = 3 := by omega
      have hm27 : (mpP p R1 C1 R2 C2 q r 3).length = 27 := mpP_len _ _ _ _ _ _ _ _ (by omega)
      go_upto_region 4 with (fail)
      refine wp_region_lit ?_
      refine ls_ex (some 20) (.bool false) rfl rfl (exec_lss _ _ _ _ rfl 3 3 rfl rfl false (decide_eq_false (by omega))) ?_
      go_frame
      refine wpList_nil ?_
      go_upto_region 8 with (fail)
      refine wp_region_lit ?_
      refine ls_ex (some 38) (.agg (u8s (mpP p R1 C1 R2 C2 q r 3))) rfl rfl (exec_load_all 100 _ rfl Wz54.heap.size rfl _ _ _ h6 Try.underlying100 rfl 27 (by kernel_rfl) ((u8s_size _).trans hm27)) ?_
      go_frame
      refine ls_op rfl (fun K' hK' => ?_)
      have lz104 := hB.size
      have lz105 := h1.lt
      have lz106 := h3.lt
      have lz107 := h4.lt
      have lz108 := h5.lt
      have lz109 := h6.lt
      refine wp_call1 (some 39) rfl 67 _ _ rfl (fun args w => by kernel_rfl) _ rfl _ (productOf_c (mpP p R1 C1 R2 C2 q r 3) (HM27.out) _) (fun e Wz102 h => ?_)
      obtain ⟨rfl, bz103⟩ := h
      replace hB := below_after hB bz103
      replace h1 := h1.after bz103
      replace h3 := h3.after bz103
      replace h4 := h4.after bz103
      replace h5 := h5.after bz103
      replace h6 := h6.after bz103
      clear bz103
      refine ⟨_, rfl, ?_⟩
      refine hK' _ _ ?_
      clear hK' K'
      go_frame
      refine ls_op rfl (fun K' hK' => ?_)
      refine wp_store_bytes 53 _ _ rfl rfl Wz23.heap.size rfl (mpP p R1 C1 R2 C2 q r 3) rfl _ _ h4 27 (by kernel_rfl) hm27 (by simp) (fun Wz110 pz111 => ?_)
      replace hB := pz111.below hB (by omega)
      replace h1 := pz111.other h1 (by omega)
      replace h3 := pz111.other h3 (by omega)
      replace h5 := pz111.other h5 (by omega)
      replace h6 := pz111.other h6 (by omega)
      replace h4 : At Wz110 Wz23.heap.size (.cells (u8s (mpP p R1 C1 R2 C2 q r 3)) 53 (0, 0)) := pz111.at_
      refine hK' _ _ ?_
      clear hK' K' pz111
      refine wpList_nil ?_
      go_wp2_with fail
      refine bodyPost_ret (results_at rfl _ _ Wz23.heap.size _ _ _ rfl h4 Try.underlying53 rfl 27 (by kernel_rfl) ((u8s_size _).trans hm27)) rfl ?_
      exact ⟨rfl, hB⟩
end Go.Proofs.Ytopdfblfhdooaaa
