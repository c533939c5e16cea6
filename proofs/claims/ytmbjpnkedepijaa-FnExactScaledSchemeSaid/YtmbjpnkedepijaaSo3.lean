/-
  spec.l01Less. (Made by mkso3.py.)
-/
import Derived.Test.YtmbjpnkedepijaaSo0
import Derived.Test.YtmbjpnkedepijaaLK1
import Derived.Test.YtmbjpnkedepijaaSx
import Derived.Test.YtmbjpnkedepijaaHeldT
namespace Go.Proofs.Ytmbjpnkedepijaa
open Go.RowKit
set_option maxRecDepth 100000
attribute [local irreducible] wpList
theorem cut_worldL {n : Nat} {w wx : World} (_ : Below n w wx) : ∃ x : World, x = wx := ⟨_, rfl⟩
theorem exec_forms3 {o : Oper} {a : Act} {w : World} (x y z : Operand) (ho : o.op = .build 76 #[(0, x), (1, y), (2, z)]) (q : List Nat) (hq : q.length = 27) (hx : a.eval x = .agg (u8s (segm q 0 9))) (hy : a.eval y = .agg (u8s (segm q 9 9))) (hz : a.eval z = .agg (u8s (segm q 18 9))) :
    (execOp a.eval o).run Try.prog w = .ok (.value (.agg (u8s q))) w := by
  have h := exec_build3 (P := Try.prog) (w := w) 76 43 x y z ho 3 _ _ _ hx hy hz Try.underlying76 (by kernel_rfl) (by kernel_rfl) (segm_len (by omega)) (segm_len (by omega)) (segm_len (by omega))
  rwa [over3 q hq] at h
theorem cell_at27 {w : World} {g t x : Nat} {q : List Nat} {ty : TypeId} (h : At w g (.cells (u8s q) ty (0, 0))) (hx : q[t]? = some x) : w.cell? ⟨g, t, none⟩ = some (.int .u8 (x : Nat)) := by
  have h1 := h.cell (i := t) (List.getElem?_eq_some_iff.1 hx).1
  rwa [hx] at h1
theorem exec_neq8 {o : Oper} {a : Act} {w : World} {t t' : TypeId} (x y : Operand) (ho : o.op = .binOp .neq t x y t') (m n : Nat) (hx : a.eval x = .int .u8 (m : Int)) (hy : a.eval y = .int .u8 (n : Int)) (b : Bool) (hb : decide (m ≠ n) = b) : (execOp a.eval o).run Try.prog w = .ok (.value (.bool b)) w := by
  unfold execOp
  simp only [ho, hx, hy]
  subst hb
  have e : ((m : Int) != (n : Int)) = decide (m ≠ n) := by
    by_cases e : m = n
    · subst e
      simp
    · have e2 : (m : Int) ≠ n := by omega
      simp [e, e2]
  simp [go_sem]
  simpa using e
theorem exec_lss8 {o : Oper} {a : Act} {w : World} {t t' : TypeId} (x y : Operand) (ho : o.op = .binOp .lss t x y t') (m n : Nat) (hx : a.eval x = .int .u8 (m : Int)) (hy : a.eval y = .int .u8 (n : Int)) (b : Bool) (hb : decide (m < n) = b) : (execOp a.eval o).run Try.prog w = .ok (.value (.bool b)) w := by
  unfold execOp
  simp only [ho, hx, hy]
  subst hb
  simp [go_sem]
theorem lex_at : ∀ {q r : List Nat} {T x y : Nat}, q.take T = r.take T → q[T]? = some x → r[T]? = some y → x ≠ y → decide (lexC q r < 0) = decide (x < y)
  | [], _, _, _, _, _, hx, _, _ => by simp at hx
  | _ :: _, [], _, _, _, _, _, hy, _ => by simp at hy
  | a :: q, b :: r, 0, x, y, _, hx, hy, h => by
    simp only [List.getElem?_cons_zero, Option.some.injEq] at hx hy
    subst hx hy
    rw [lexC_cons]
    by_cases h1 : a < b
    · simp [h1]
    · simp [h1, show b < a by omega]
  | a :: q, b :: r, T + 1, x, y, ht, hx, hy, h => by
    simp only [List.take_succ_cons, List.cons.injEq] at ht
    simp only [List.getElem?_cons_succ] at hx hy
    rw [lexC_cons, ht.1, if_neg (Nat.lt_irrefl _), if_neg (Nat.lt_irrefl _)]
    exact lex_at ht.2 hx hy h
theorem alSt__3_impl_Form {o : Oper} {a : Act} {w : World} (ho : o.op = .alloc 76) : (execOp a.eval o).run Try.prog w = .ok (.value (.pointer (some ⟨w.heap.size, 0, none⟩))) (w.alloc (.cells (u8s (List.replicate 27 0)) 76 (0, 0))) := by
  unfold execOp
  rw [ho]
  kernel_rfl
set_option maxHeartbeats 4000000 in
theorem l01Less_c (q r : List Nat) (w : World) (hq : q.length = 27) (hr : r.length = 27) :
    Calls Try.prog 32 #[.agg (u8s q), .agg (u8s r)] w (fun e w' => e = .returned (.bool (decide (lexC q r < 0))) ∧ Below w.heap.size w w') := by
  have hB := Below.refl w.heap.size w
  have Hql := Lib.hid hq
  have Hrl := Lib.hid hr
  clear hq hr
  go_enter Try.func32, Try.ntmps32
  go_upto_region 0 with (fail)
  refine wp_region_lit ?_
  refine ls_op rfl (fun K' hK' => ?_)
  have lz1 := hB.size
  refine wp_new (some 2) rfl (exec_box 45 _ rfl (u8s (q)) rfl) (fun Wz2 nnz3 => ?_)
  have bz4 := nnz3.below (Below.refl _ _) (Nat.le_refl _)
  replace hB := below_after hB bz4
  have hz5 : At Wz2 w.heap.size (.cells (u8s (q)) 45 (0, 0)) := nnz3.at_
  refine hK' _ _ ?_
  clear hK' K' nnz3 bz4
  go_frame
  refine ls_op rfl (fun K' hK' => ?_)
  have lz6 := hB.size
  have lz7 := hz5.lt
  refine wp_new (some 3) rfl (exec_box 45 _ rfl (u8s (r)) rfl) (fun Wz8 nnz9 => ?_)
  have bz10 := nnz9.below (Below.refl _ _) (Nat.le_refl _)
  replace hB := below_after hB bz10
  replace hz5 := hz5.after bz10
  have hz11 : At Wz8 Wz2.heap.size (.cells (u8s (r)) 45 (0, 0)) := nnz9.at_
  refine hK' _ _ ?_
  clear hK' K' nnz9 bz10
  go_frame
  refine ls_ex (some 4) (.bool false) rfl rfl (exec_assign _ rfl (.bool false) rfl) ?_
  go_frame
  refine wpList_nil ?_
  go_upto_region 1 with (fail)
  go_cut [5, 6] from 9 to 23 (fun s5 s6 wx => ∃ B5 B6 : Nat, s5 = .pointer (some ⟨B5, 0, none⟩) ∧ s6 = .pointer (some ⟨B6, 0, none⟩) ∧ Below w.heap.size w wx ∧ At wx B5 (.cells (u8s (q)) 76 (0, 0)) ∧ At wx B6 (.cells (u8s (r)) 76 (0, 0)))
  case first =>
    refine wp_region_y (zs := []) (S := fun w' => Below w.heap.size w w' ∧ At w' w.heap.size (.cells (u8s (q)) 45 (0, 0)) ∧ At w' Wz2.heap.size (.cells (u8s (r)) 45 (0, 0))) (S2 := fun w' => True) (by kernel_rfl) ?_
    change wpAnyY _ _ _ _ _ _ _ _ _ _ (World.drew _)
    generalize hwdz12 : World.drew _ = wdz12
    replace hB : Below w.heap.size w wdz12 := by rw [← hwdz12]; exact hB.drew
    replace hz5 : At wdz12 w.heap.size (.cells (u8s (q)) 45 (0, 0)) := by rw [← hwdz12]; exact hz5
    replace hz11 : At wdz12 Wz2.heap.size (.cells (u8s (r)) 45 (0, 0)) := by rw [← hwdz12]; exact hz11
    clear hwdz12
    refine y_yield 0 (some 9) (.pointer (some ⟨w.heap.size, 0, none⟩)) rfl (by kernel_rfl) (by kernel_rfl) (by kernel_rfl) (fun _ _ _ h => h) rfl rfl ⟨hB, hz5, hz11⟩ (fun w' h' => exec_fieldAddr 45 _ 0 rfl _ (by kernel_rfl)) ?_
    go_frame
    refine y_yield 1 (some 10) (.agg (u8s (segm (q) 0 9))) rfl (by kernel_rfl) (by kernel_rfl) (by kernel_rfl) (fun _ _ _ h => h) rfl rfl ⟨hB, hz5, hz11⟩ (fun w' h' => exec_load_seg 43 _ rfl w.heap.size (0) rfl _ (q) _ 9 h'.2.1 Try.underlying43 rfl (by kernel_rfl) (by rw [Hql.out]; omega) (segm (q) 0 9) rfl) ?_
    go_frame
    refine y_yield 2 (some 11) (.pointer (some ⟨w.heap.size, 9, none⟩)) rfl (by kernel_rfl) (by kernel_rfl) (by kernel_rfl) (fun _ _ _ h => h) rfl rfl ⟨hB, hz5, hz11⟩ (fun w' h' => exec_fieldAddr 45 _ 1 rfl _ (by kernel_rfl)) ?_
    go_frame
    refine y_yield 3 (some 12) (.agg (u8s (segm (q) 9 9))) rfl (by kernel_rfl) (by kernel_rfl) (by kernel_rfl) (fun _ _ _ h => h) rfl rfl ⟨hB, hz5, hz11⟩ (fun w' h' => exec_load_seg 43 _ rfl w.heap.size (9) rfl _ (q) _ 9 h'.2.1 Try.underlying43 rfl (by kernel_rfl) (by rw [Hql.out]; omega) (segm (q) 9 9) rfl) ?_
    go_frame
    refine y_yield 4 (some 13) (.pointer (some ⟨w.heap.size, 18, none⟩)) rfl (by kernel_rfl) (by kernel_rfl) (by kernel_rfl) (fun _ _ _ h => h) rfl rfl ⟨hB, hz5, hz11⟩ (fun w' h' => exec_fieldAddr 45 _ 2 rfl _ (by kernel_rfl)) ?_
    go_frame
    refine y_yield 5 (some 14) (.agg (u8s (segm (q) 18 9))) rfl (by kernel_rfl) (by kernel_rfl) (by kernel_rfl) (fun _ _ _ h => h) rfl rfl ⟨hB, hz5, hz11⟩ (fun w' h' => exec_load_seg 43 _ rfl w.heap.size (18) rfl _ (q) _ 9 h'.2.1 Try.underlying43 rfl (by kernel_rfl) (by rw [Hql.out]; omega) (segm (q) 18 9) rfl) ?_
    go_frame
    refine y_yield 6 (some 15) (.agg (u8s (q))) rfl (by kernel_rfl) (by kernel_rfl) (by kernel_rfl) (fun _ _ _ h => h) rfl rfl ⟨hB, hz5, hz11⟩ (fun w' h' => exec_forms3 _ _ _ rfl q Hql.out rfl rfl rfl) ?_
    go_frame
    refine y_yield 7 (some 16) (.pointer (some ⟨Wz2.heap.size, 0, none⟩)) rfl (by kernel_rfl) (by kernel_rfl) (by kernel_rfl) (fun _ _ _ h => h) rfl rfl ⟨hB, hz5, hz11⟩ (fun w' h' => exec_fieldAddr 45 _ 0 rfl _ (by kernel_rfl)) ?_
    go_frame
    refine y_yield 8 (some 17) (.agg (u8s (segm (r) 0 9))) rfl (by kernel_rfl) (by kernel_rfl) (by kernel_rfl) (fun _ _ _ h => h) rfl rfl ⟨hB, hz5, hz11⟩ (fun w' h' => exec_load_seg 43 _ rfl Wz2.heap.size (0) rfl _ (r) _ 9 h'.2.2 Try.underlying43 rfl (by kernel_rfl) (by rw [Hrl.out]; omega) (segm (r) 0 9) rfl) ?_
    go_frame
    refine y_yield 9 (some 18) (.pointer (some ⟨Wz2.heap.size, 9, none⟩)) rfl (by kernel_rfl) (by kernel_rfl) (by kernel_rfl) (fun _ _ _ h => h) rfl rfl ⟨hB, hz5, hz11⟩ (fun w' h' => exec_fieldAddr 45 _ 1 rfl _ (by kernel_rfl)) ?_
    go_frame
    refine y_yield 10 (some 19) (.agg (u8s (segm (r) 9 9))) rfl (by kernel_rfl) (by kernel_rfl) (by kernel_rfl) (fun _ _ _ h => h) rfl rfl ⟨hB, hz5, hz11⟩ (fun w' h' => exec_load_seg 43 _ rfl Wz2.heap.size (9) rfl _ (r) _ 9 h'.2.2 Try.underlying43 rfl (by kernel_rfl) (by rw [Hrl.out]; omega) (segm (r) 9 9) rfl) ?_
    go_frame
    refine y_yield 11 (some 20) (.pointer (some ⟨Wz2.heap.size, 18, none⟩)) rfl (by kernel_rfl) (by kernel_rfl) (by kernel_rfl) (fun _ _ _ h => h) rfl rfl ⟨hB, hz5, hz11⟩ (fun w' h' => exec_fieldAddr 45 _ 2 rfl _ (by kernel_rfl)) ?_
    go_frame
    refine y_yield 12 (some 21) (.agg (u8s (segm (r) 18 9))) rfl (by kernel_rfl) (by kernel_rfl) (by kernel_rfl) (fun _ _ _ h => h) rfl rfl ⟨hB, hz5, hz11⟩ (fun w' h' => exec_load_seg 43 _ rfl Wz2.heap.size (18) rfl _ (r) _ 9 h'.2.2 Try.underlying43 rfl (by kernel_rfl) (by rw [Hrl.out]; omega) (segm (r) 18 9) rfl) ?_
    go_frame
    refine y_yield 13 (some 22) (.agg (u8s (r))) rfl (by kernel_rfl) (by kernel_rfl) (by kernel_rfl) (fun _ _ _ h => h) rfl rfl ⟨hB, hz5, hz11⟩ (fun w' h' => exec_forms3 _ _ _ rfl r Hrl.out rfl rfl rfl) ?_
    go_frame
    refine y_two 14 15 (by kernel_rfl) rfl rfl rfl rfl (fun K' hK' => ?_) (fun K' hK' => ?_)
    · have lz13 := hB.size
      have lz14 := hz5.lt
      have lz15 := hz11.lt
      refine wp_new (some 5) rfl (alSt__3_impl_Form rfl) (fun Wz16 nnz17 => ?_)
      have bz18 := nnz17.below (Below.refl _ _) (Nat.le_refl _)
      replace hB := below_after hB bz18
      replace hz5 := hz5.after bz18
      replace hz11 := hz11.after bz18
      have hz19 : At Wz16 wdz12.heap.size (.cells (u8s (List.replicate 27 0)) 76 (0, 0)) := nnz17.at_
      refine hK' _ _ ⟨hB, hz5, hz11⟩ (fun _ => trivial) ?_
      clear hK' K' nnz17 bz18
      go_frame
      refine y_oper 15 (by kernel_rfl) rfl rfl (fun K' hK' => ?_)
      have lz20 := hB.size
      have lz21 := hz5.lt
      have lz22 := hz11.lt
      have lz23 := hz19.lt
      refine wp_new (some 6) rfl (alSt__3_impl_Form rfl) (fun Wz24 nnz25 => ?_)
      have bz26 := nnz25.below (Below.refl _ _) (Nat.le_refl _)
      replace hB := below_after hB bz26
      replace hz5 := hz5.after bz26
      replace hz11 := hz11.after bz26
      replace hz19 := hz19.after bz26
      have hz27 : At Wz24 Wz16.heap.size (.cells (u8s (List.replicate 27 0)) 76 (0, 0)) := nnz25.at_
      refine hK' _ _ ⟨hB, hz5, hz11⟩ (fun _ => trivial) ?_
      clear hK' K' nnz25 bz26
      go_frame
      refine y_oper 16 (by kernel_rfl) rfl rfl (fun K' hK' => ?_)
      refine wp_store_bytes 76 _ _ rfl rfl wdz12.heap.size rfl (q) rfl _ _ hz19 27 (by kernel_rfl) Hql.out (by simp) (fun Wz28 pz29 => ?_)
      replace hB := pz29.below hB (by omega)
      replace hz5 := pz29.other hz5 (by omega)
      replace hz11 := pz29.other hz11 (by omega)
      replace hz27 := pz29.other hz27 (by omega)
      replace hz19 : At Wz28 wdz12.heap.size (.cells (u8s (q)) 76 (0, 0)) := pz29.at_
      refine hK' _ _ ⟨hB, hz5, hz11⟩ (fun _ => trivial) ?_
      clear hK' K' pz29
      refine y_oper 17 (by kernel_rfl) rfl rfl (fun K' hK' => ?_)
      refine wp_store_bytes 76 _ _ rfl rfl Wz16.heap.size rfl (r) rfl _ _ hz27 27 (by kernel_rfl) Hrl.out (by simp) (fun Wz30 pz31 => ?_)
      replace hB := pz31.below hB (by omega)
      replace hz5 := pz31.other hz5 (by omega)
      replace hz11 := pz31.other hz11 (by omega)
      replace hz19 := pz31.other hz19 (by omega)
      replace hz27 : At Wz30 Wz16.heap.size (.cells (u8s (r)) 76 (0, 0)) := pz31.at_
      refine hK' _ _ ⟨hB, hz5, hz11⟩ (fun _ => trivial) ?_
      clear hK' K' pz31
      refine y_done (by kernel_rfl) ?_ _
      go_wp2_with fail
      go_meet
      exact ⟨_, _, rfl, rfl, hB, hz19, hz27⟩
    · have lz32 := hB.size
      have lz33 := hz5.lt
      have lz34 := hz11.lt
      refine wp_new (some 6) rfl (alSt__3_impl_Form rfl) (fun Wz35 nnz36 => ?_)
      have bz37 := nnz36.below (Below.refl _ _) (Nat.le_refl _)
      replace hB := below_after hB bz37
      replace hz5 := hz5.after bz37
      replace hz11 := hz11.after bz37
      have hz38 : At Wz35 wdz12.heap.size (.cells (u8s (List.replicate 27 0)) 76 (0, 0)) := nnz36.at_
      refine hK' _ _ ⟨hB, hz5, hz11⟩ (fun _ => trivial) ?_
      clear hK' K' nnz36 bz37
      go_frame
      refine y_oper 14 (by kernel_rfl) rfl rfl (fun K' hK' => ?_)
      have lz39 := hB.size
      have lz40 := hz5.lt
      have lz41 := hz11.lt
      have lz42 := hz38.lt
      refine wp_new (some 5) rfl (alSt__3_impl_Form rfl) (fun Wz43 nnz44 => ?_)
      have bz45 := nnz44.below (Below.refl _ _) (Nat.le_refl _)
      replace hB := below_after hB bz45
      replace hz5 := hz5.after bz45
      replace hz11 := hz11.after bz45
      replace hz38 := hz38.after bz45
      have hz46 : At Wz43 Wz35.heap.size (.cells (u8s (List.replicate 27 0)) 76 (0, 0)) := nnz44.at_
      refine hK' _ _ ⟨hB, hz5, hz11⟩ (fun _ => trivial) ?_
      clear hK' K' nnz44 bz45
      go_frame
      refine y_oper 16 (by kernel_rfl) rfl rfl (fun K' hK' => ?_)
      refine wp_store_bytes 76 _ _ rfl rfl Wz35.heap.size rfl (q) rfl _ _ hz46 27 (by kernel_rfl) Hql.out (by simp) (fun Wz47 pz48 => ?_)
      replace hB := pz48.below hB (by omega)
      replace hz5 := pz48.other hz5 (by omega)
      replace hz11 := pz48.other hz11 (by omega)
      replace hz38 := pz48.other hz38 (by omega)
      replace hz46 : At Wz47 Wz35.heap.size (.cells (u8s (q)) 76 (0, 0)) := pz48.at_
      refine hK' _ _ ⟨hB, hz5, hz11⟩ (fun _ => trivial) ?_
      clear hK' K' pz48
      refine y_oper 17 (by kernel_rfl) rfl rfl (fun K' hK' => ?_)
      refine wp_store_bytes 76 _ _ rfl rfl wdz12.heap.size rfl (r) rfl _ _ hz38 27 (by kernel_rfl) Hrl.out (by simp) (fun Wz49 pz50 => ?_)
      replace hB := pz50.below hB (by omega)
      replace hz5 := pz50.other hz5 (by omega)
      replace hz11 := pz50.other hz11 (by omega)
      replace hz46 := pz50.other hz46 (by omega)
      replace hz38 : At Wz49 wdz12.heap.size (.cells (u8s (r)) 76 (0, 0)) := pz50.at_
      refine hK' _ _ ⟨hB, hz5, hz11⟩ (fun _ => trivial) ?_
      clear hK' K' pz50
      refine y_done (by kernel_rfl) ?_ _
      go_wp2_with fail
      go_meet
      exact ⟨_, _, rfl, rfl, hB, hz46, hz38⟩
  case rest =>
  clear hB hz5 hz11
  obtain ⟨B5, B6, rfl, rfl, hB, h5, h6⟩ := hcut
  obtain ⟨wc, rfl⟩ := cut_worldL hB
  go_upto_region 2 with (fail)
  refine wp_region_lit ?_
  refine ls_ex (some 7) (.int .i64 0) rfl rfl (exec_assign _ rfl (.int .i64 0) rfl) ?_
  go_frame
  refine wpList_nil ?_
  go_wp2_with fail
  go_loopw [7] (fun s7 wr => ∃ i : Nat, i ≤ 3 ∧ s7 = .int .i64 i ∧ Hid (q.take (i * 9) = r.take (i * 9)) ∧ Below w.heap.size w wr ∧ At wr B5 (.cells (u8s (q)) 76 (0, 0)) ∧ At wr B6 (.cells (u8s (r)) 76 (0, 0))) (fun s7 _ => 3 - (intOf s7).toNat)
  case atStart => exact ⟨0, by omega, rfl, Lib.hid (by simp), hB, h5, h6⟩
  case round =>
    clear hB h5 h6
    obtain ⟨i, hle, rfl, HE, hB, h5, h6⟩ := hrel
    by_cases hlt : i < 3
    · go_upto_region 3 with (fail)
      refine wp_region_lit ?_
      refine ls_ex (some 23) (.int .i64 i) rfl rfl (exec_move _ rfl (.int .i64 i) rfl) ?_
      go_frame
      refine ls_ex (some 24) (.bool true) rfl rfl (exec_lss _ _ _ _ rfl i 3 rfl rfl true (decide_eq_true (by omega))) ?_
      go_frame
      refine wpList_nil ?_
      go_upto_region 5 with (fail)
      refine wp_region_lit ?_
      refine ls_ex (some 8) (.int .i64 0) rfl rfl (exec_assign _ rfl (.int .i64 0) rfl) ?_
      go_frame
      refine wpList_nil ?_
      go_wp2_with fail
      go_loopw [8] (fun s8 wr => ∃ k : Nat, k ≤ 9 ∧ s8 = .int .i64 k ∧ Hid (q.take (i * 9 + k) = r.take (i * 9 + k)) ∧ Below w.heap.size w wr ∧ At wr B5 (.cells (u8s (q)) 76 (0, 0)) ∧ At wr B6 (.cells (u8s (r)) 76 (0, 0))) (fun s8 _ => 9 - (intOf s8).toNat)
      case atStart => exact ⟨0, by omega, rfl, by rw [Nat.add_zero]; exact HE, hB, h5, h6⟩
      case round =>
        clear hB h5 h6
        obtain ⟨k, hle2, rfl, HE, hB, h5, h6⟩ := hrel
        by_cases hlt2 : k < 9
        · by_cases heq : q[i * 9 + k]? = r[i * 9 + k]?
          · obtain ⟨T, hT⟩ : ∃ z9, i * 9 + k = z9 := ⟨_, rfl⟩
            have hT27 : T < 27 := by omega
            rw [hT] at HE
            obtain ⟨x, hx⟩ : ∃ z9, q[T]? = some z9 := ⟨_, List.getElem?_eq_getElem (by rw [Hql.out]; exact hT27)⟩
            obtain ⟨y, hy⟩ : ∃ z9, r[T]? = some z9 := ⟨_, List.getElem?_eq_getElem (by rw [Hrl.out]; exact hT27)⟩
            have HX : Hid (q[0 + i * 9 + k * 1]? = some x) := Lib.hid (by rw [show 0 + i * 9 + k * 1 = T by omega]; exact hx)
            have HY : Hid (r[0 + i * 9 + k * 1]? = some y) := Lib.hid (by rw [show 0 + i * 9 + k * 1 = T by omega]; exact hy)
            have hxy : x = y := by have h9 := heq; rw [show i * 9 + k = T from hT, hx, hy] at h9; exact Option.some.inj h9
            have HNE : Hid (decide (x ≠ y) = false) := Lib.hid (by simp [hxy])
            have HE2 : Hid (q.take (i * 9 + (k + 1)) = r.take (i * 9 + (k + 1))) := Lib.hid (by rw [show i * 9 + (k + 1) = T + 1 by omega, List.take_add_one, List.take_add_one, HE.out, hx, hy, hxy])
            clear hx hy heq
            go_upto_region 6 with (fail)
            refine wp_region_lit ?_
            refine ls_ex (some 27) (.int .i64 k) rfl rfl (exec_move _ rfl (.int .i64 k) rfl) ?_
            go_frame
            refine ls_ex (some 28) (.bool true) rfl rfl (exec_lss _ _ _ _ rfl k 9 rfl rfl true (decide_eq_true (by omega))) ?_
            go_frame
            refine wpList_nil ?_
            go_upto_region 8 with (fail)
            refine wp_region_y (zs := []) (S := fun w' => Below w.heap.size w w' ∧ At w' B5 (.cells (u8s (q)) 76 (0, 0)) ∧ At w' B6 (.cells (u8s (r)) 76 (0, 0))) (S2 := fun w' => True) (by kernel_rfl) ?_
            change wpAnyY _ _ _ _ _ _ _ _ _ _ (World.drew _)
            generalize hwdz51 : World.drew _ = wdz51
            replace hB : Below w.heap.size w wdz51 := by rw [← hwdz51]; exact hB.drew
            replace h5 : At wdz51 B5 (.cells (u8s (q)) 76 (0, 0)) := by rw [← hwdz51]; exact h5
            replace h6 : At wdz51 B6 (.cells (u8s (r)) 76 (0, 0)) := by rw [← hwdz51]; exact h6
            clear hwdz51
            refine y_yield 0 (some 31) (.int .i64 i) rfl (by kernel_rfl) (by kernel_rfl) (by kernel_rfl) (fun _ _ _ h => h) rfl rfl ⟨hB, h5, h6⟩ (fun w' h' => exec_move _ rfl (.int .i64 i) rfl) ?_
            go_frame
            refine y_yield 1 (some 32) (.int .i64 k) rfl (by kernel_rfl) (by kernel_rfl) (by kernel_rfl) (fun _ _ _ h => h) rfl rfl ⟨hB, h5, h6⟩ (fun w' h' => exec_move _ rfl (.int .i64 k) rfl) ?_
            go_frame
            refine y_yield 2 (some 33) (.pointer (some ⟨B5, 0 + i * 9, none⟩)) rfl (by kernel_rfl) (by kernel_rfl) (by kernel_rfl) (fun _ _ _ h => h) rfl rfl ⟨hB, h5, h6⟩ (fun w' h' => exec_index_arr 76 43 _ _ rfl B5 0 3 i 9 rfl rfl Try.underlying76 (by kernel_rfl) hlt) ?_
            go_frame
            refine y_yield 3 (some 34) (.pointer (some ⟨B5, 0 + i * 9 + k * 1, none⟩)) rfl (by kernel_rfl) (by kernel_rfl) (by kernel_rfl) (fun _ _ _ h => h) rfl rfl ⟨hB, h5, h6⟩ (fun w' h' => exec_index_arr 43 5 _ _ rfl B5 (0 + i * 9) 9 k 1 rfl rfl Try.underlying43 (by kernel_rfl) hlt2) ?_
            go_frame
            refine y_yield 4 (some 35) (.int .u8 (x : Nat)) rfl (by kernel_rfl) (by kernel_rfl) (by kernel_rfl) (fun _ _ _ h => h) rfl rfl ⟨hB, h5, h6⟩ (fun w' h' => exec_load_one 5 _ rfl B5 (0 + i * 9 + k * 1) rfl (.int .u8 (x : Nat)) _ Try.underlying5 rfl (cell_at27 h'.2.1 HX.out)) ?_
            go_frame
            refine y_yield 5 (some 36) (.int .i64 i) rfl (by kernel_rfl) (by kernel_rfl) (by kernel_rfl) (fun _ _ _ h => h) rfl rfl ⟨hB, h5, h6⟩ (fun w' h' => exec_move _ rfl (.int .i64 i) rfl) ?_
            go_frame
            refine y_yield 6 (some 37) (.int .i64 k) rfl (by kernel_rfl) (by kernel_rfl) (by kernel_rfl) (fun _ _ _ h => h) rfl rfl ⟨hB, h5, h6⟩ (fun w' h' => exec_move _ rfl (.int .i64 k) rfl) ?_
            go_frame
            refine y_yield 7 (some 38) (.pointer (some ⟨B6, 0 + i * 9, none⟩)) rfl (by kernel_rfl) (by kernel_rfl) (by kernel_rfl) (fun _ _ _ h => h) rfl rfl ⟨hB, h5, h6⟩ (fun w' h' => exec_index_arr 76 43 _ _ rfl B6 0 3 i 9 rfl rfl Try.underlying76 (by kernel_rfl) hlt) ?_
            go_frame
            refine y_yield 8 (some 39) (.pointer (some ⟨B6, 0 + i * 9 + k * 1, none⟩)) rfl (by kernel_rfl) (by kernel_rfl) (by kernel_rfl) (fun _ _ _ h => h) rfl rfl ⟨hB, h5, h6⟩ (fun w' h' => exec_index_arr 43 5 _ _ rfl B6 (0 + i * 9) 9 k 1 rfl rfl Try.underlying43 (by kernel_rfl) hlt2) ?_
            go_frame
            refine y_yield 9 (some 40) (.int .u8 (y : Nat)) rfl (by kernel_rfl) (by kernel_rfl) (by kernel_rfl) (fun _ _ _ h => h) rfl rfl ⟨hB, h5, h6⟩ (fun w' h' => exec_load_one 5 _ rfl B6 (0 + i * 9 + k * 1) rfl (.int .u8 (y : Nat)) _ Try.underlying5 rfl (cell_at27 h'.2.2 HY.out)) ?_
            go_frame
            refine y_yield 10 (some 41) (.bool false) rfl (by kernel_rfl) (by kernel_rfl) (by kernel_rfl) (fun _ _ _ h => h) rfl rfl ⟨hB, h5, h6⟩ (fun w' h' => exec_neq8 _ _ rfl x y rfl rfl false HNE.out) ?_
            go_frame
            refine y_done (by kernel_rfl) ?_ _
            go_upto_region 7 with (fail)
            refine wp_region_lit ?_
            refine ls_ex (some 29) (.int .i64 k) rfl rfl (exec_move _ rfl (.int .i64 k) rfl) ?_
            go_frame
            refine ls_ex (some 30) (.int .i64 (k + 1)) rfl rfl (exec_add _ _ _ _ rfl k 1 (k + 1) rfl rfl (IntWalk.i64_in _ (by omega))) ?_
            go_frame
            refine ls_ex (some 8) (.int .i64 (k + 1)) rfl rfl (exec_assign _ rfl (.int .i64 (k + 1)) rfl) ?_
            go_frame
            refine wpList_nil ?_
            go_wp2_with fail
            go_roundw
            case rel => exact ⟨k + 1, by omega, by go_num, HE2, hB, h5, h6⟩
            case measure => simp [intOf] <;> omega
          · obtain ⟨T, hT⟩ : ∃ z9, i * 9 + k = z9 := ⟨_, rfl⟩
            have hT27 : T < 27 := by omega
            rw [hT] at HE
            obtain ⟨x, hx⟩ : ∃ z9, q[T]? = some z9 := ⟨_, List.getElem?_eq_getElem (by rw [Hql.out]; exact hT27)⟩
            obtain ⟨y, hy⟩ : ∃ z9, r[T]? = some z9 := ⟨_, List.getElem?_eq_getElem (by rw [Hrl.out]; exact hT27)⟩
            have HX : Hid (q[0 + i * 9 + k * 1]? = some x) := Lib.hid (by rw [show 0 + i * 9 + k * 1 = T by omega]; exact hx)
            have HY : Hid (r[0 + i * 9 + k * 1]? = some y) := Lib.hid (by rw [show 0 + i * 9 + k * 1 = T by omega]; exact hy)
            have hxy : x ≠ y := by have h9 := heq; rw [show i * 9 + k = T from hT, hx, hy] at h9; exact fun h8 => h9 (by rw [h8])
            have HNE : Hid (decide (x ≠ y) = true) := Lib.hid (decide_eq_true hxy)
            obtain ⟨BL, hBL⟩ : ∃ z9, decide (x < y) = z9 := ⟨_, rfl⟩
            have HBL := Lib.hid hBL
            have HRs : Hid (decide (lexC q r < 0) = BL) := Lib.hid (by rw [← hBL]; exact lex_at HE.out hx hy hxy)
            clear hx hy heq hBL
            go_upto_region 6 with (fail)
            refine wp_region_lit ?_
            refine ls_ex (some 27) (.int .i64 k) rfl rfl (exec_move _ rfl (.int .i64 k) rfl) ?_
            go_frame
            refine ls_ex (some 28) (.bool true) rfl rfl (exec_lss _ _ _ _ rfl k 9 rfl rfl true (decide_eq_true (by omega))) ?_
            go_frame
            refine wpList_nil ?_
            go_upto_region 8 with (fail)
            refine wp_region_y (zs := []) (S := fun w' => Below w.heap.size w w' ∧ At w' B5 (.cells (u8s (q)) 76 (0, 0)) ∧ At w' B6 (.cells (u8s (r)) 76 (0, 0))) (S2 := fun w' => True) (by kernel_rfl) ?_
            change wpAnyY _ _ _ _ _ _ _ _ _ _ (World.drew _)
            generalize hwdz52 : World.drew _ = wdz52
            replace hB : Below w.heap.size w wdz52 := by rw [← hwdz52]; exact hB.drew
            replace h5 : At wdz52 B5 (.cells (u8s (q)) 76 (0, 0)) := by rw [← hwdz52]; exact h5
            replace h6 : At wdz52 B6 (.cells (u8s (r)) 76 (0, 0)) := by rw [← hwdz52]; exact h6
            clear hwdz52
            refine y_yield 0 (some 31) (.int .i64 i) rfl (by kernel_rfl) (by kernel_rfl) (by kernel_rfl) (fun _ _ _ h => h) rfl rfl ⟨hB, h5, h6⟩ (fun w' h' => exec_move _ rfl (.int .i64 i) rfl) ?_
            go_frame
            refine y_yield 1 (some 32) (.int .i64 k) rfl (by kernel_rfl) (by kernel_rfl) (by kernel_rfl) (fun _ _ _ h => h) rfl rfl ⟨hB, h5, h6⟩ (fun w' h' => exec_move _ rfl (.int .i64 k) rfl) ?_
            go_frame
            refine y_yield 2 (some 33) (.pointer (some ⟨B5, 0 + i * 9, none⟩)) rfl (by kernel_rfl) (by kernel_rfl) (by kernel_rfl) (fun _ _ _ h => h) rfl rfl ⟨hB, h5, h6⟩ (fun w' h' => exec_index_arr 76 43 _ _ rfl B5 0 3 i 9 rfl rfl Try.underlying76 (by kernel_rfl) hlt) ?_
            go_frame
            refine y_yield 3 (some 34) (.pointer (some ⟨B5, 0 + i * 9 + k * 1, none⟩)) rfl (by kernel_rfl) (by kernel_rfl) (by kernel_rfl) (fun _ _ _ h => h) rfl rfl ⟨hB, h5, h6⟩ (fun w' h' => exec_index_arr 43 5 _ _ rfl B5 (0 + i * 9) 9 k 1 rfl rfl Try.underlying43 (by kernel_rfl) hlt2) ?_
            go_frame
            refine y_yield 4 (some 35) (.int .u8 (x : Nat)) rfl (by kernel_rfl) (by kernel_rfl) (by kernel_rfl) (fun _ _ _ h => h) rfl rfl ⟨hB, h5, h6⟩ (fun w' h' => exec_load_one 5 _ rfl B5 (0 + i * 9 + k * 1) rfl (.int .u8 (x : Nat)) _ Try.underlying5 rfl (cell_at27 h'.2.1 HX.out)) ?_
            go_frame
            refine y_yield 5 (some 36) (.int .i64 i) rfl (by kernel_rfl) (by kernel_rfl) (by kernel_rfl) (fun _ _ _ h => h) rfl rfl ⟨hB, h5, h6⟩ (fun w' h' => exec_move _ rfl (.int .i64 i) rfl) ?_
            go_frame
            refine y_yield 6 (some 37) (.int .i64 k) rfl (by kernel_rfl) (by kernel_rfl) (by kernel_rfl) (fun _ _ _ h => h) rfl rfl ⟨hB, h5, h6⟩ (fun w' h' => exec_move _ rfl (.int .i64 k) rfl) ?_
            go_frame
            refine y_yield 7 (some 38) (.pointer (some ⟨B6, 0 + i * 9, none⟩)) rfl (by kernel_rfl) (by kernel_rfl) (by kernel_rfl) (fun _ _ _ h => h) rfl rfl ⟨hB, h5, h6⟩ (fun w' h' => exec_index_arr 76 43 _ _ rfl B6 0 3 i 9 rfl rfl Try.underlying76 (by kernel_rfl) hlt) ?_
            go_frame
            refine y_yield 8 (some 39) (.pointer (some ⟨B6, 0 + i * 9 + k * 1, none⟩)) rfl (by kernel_rfl) (by kernel_rfl) (by kernel_rfl) (fun _ _ _ h => h) rfl rfl ⟨hB, h5, h6⟩ (fun w' h' => exec_index_arr 43 5 _ _ rfl B6 (0 + i * 9) 9 k 1 rfl rfl Try.underlying43 (by kernel_rfl) hlt2) ?_
            go_frame
            refine y_yield 9 (some 40) (.int .u8 (y : Nat)) rfl (by kernel_rfl) (by kernel_rfl) (by kernel_rfl) (fun _ _ _ h => h) rfl rfl ⟨hB, h5, h6⟩ (fun w' h' => exec_load_one 5 _ rfl B6 (0 + i * 9 + k * 1) rfl (.int .u8 (y : Nat)) _ Try.underlying5 rfl (cell_at27 h'.2.2 HY.out)) ?_
            go_frame
            refine y_yield 10 (some 41) (.bool true) rfl (by kernel_rfl) (by kernel_rfl) (by kernel_rfl) (fun _ _ _ h => h) rfl rfl ⟨hB, h5, h6⟩ (fun w' h' => exec_neq8 _ _ rfl x y rfl rfl true HNE.out) ?_
            go_frame
            refine y_done (by kernel_rfl) ?_ _
            go_upto_region 9 with (fail)
            refine wp_region_y (zs := []) (S := fun w' => Below w.heap.size w w' ∧ At w' B5 (.cells (u8s (q)) 76 (0, 0)) ∧ At w' B6 (.cells (u8s (r)) 76 (0, 0))) (S2 := fun w' => True) (by kernel_rfl) ?_
            change wpAnyY _ _ _ _ _ _ _ _ _ _ (World.drew _)
            generalize hwdz53 : World.drew _ = wdz53
            replace hB : Below w.heap.size w wdz53 := by rw [← hwdz53]; exact hB.drew
            replace h5 : At wdz53 B5 (.cells (u8s (q)) 76 (0, 0)) := by rw [← hwdz53]; exact h5
            replace h6 : At wdz53 B6 (.cells (u8s (r)) 76 (0, 0)) := by rw [← hwdz53]; exact h6
            clear hwdz53
            refine y_yield 0 (some 42) (.int .i64 i) rfl (by kernel_rfl) (by kernel_rfl) (by kernel_rfl) (fun _ _ _ h => h) rfl rfl ⟨hB, h5, h6⟩ (fun w' h' => exec_move _ rfl (.int .i64 i) rfl) ?_
            go_frame
            refine y_yield 1 (some 43) (.int .i64 k) rfl (by kernel_rfl) (by kernel_rfl) (by kernel_rfl) (fun _ _ _ h => h) rfl rfl ⟨hB, h5, h6⟩ (fun w' h' => exec_move _ rfl (.int .i64 k) rfl) ?_
            go_frame
            refine y_yield 2 (some 44) (.pointer (some ⟨B5, 0 + i * 9, none⟩)) rfl (by kernel_rfl) (by kernel_rfl) (by kernel_rfl) (fun _ _ _ h => h) rfl rfl ⟨hB, h5, h6⟩ (fun w' h' => exec_index_arr 76 43 _ _ rfl B5 0 3 i 9 rfl rfl Try.underlying76 (by kernel_rfl) hlt) ?_
            go_frame
            refine y_yield 3 (some 45) (.pointer (some ⟨B5, 0 + i * 9 + k * 1, none⟩)) rfl (by kernel_rfl) (by kernel_rfl) (by kernel_rfl) (fun _ _ _ h => h) rfl rfl ⟨hB, h5, h6⟩ (fun w' h' => exec_index_arr 43 5 _ _ rfl B5 (0 + i * 9) 9 k 1 rfl rfl Try.underlying43 (by kernel_rfl) hlt2) ?_
            go_frame
            refine y_yield 4 (some 46) (.int .u8 (x : Nat)) rfl (by kernel_rfl) (by kernel_rfl) (by kernel_rfl) (fun _ _ _ h => h) rfl rfl ⟨hB, h5, h6⟩ (fun w' h' => exec_load_one 5 _ rfl B5 (0 + i * 9 + k * 1) rfl (.int .u8 (x : Nat)) _ Try.underlying5 rfl (cell_at27 h'.2.1 HX.out)) ?_
            go_frame
            refine y_yield 5 (some 47) (.int .i64 i) rfl (by kernel_rfl) (by kernel_rfl) (by kernel_rfl) (fun _ _ _ h => h) rfl rfl ⟨hB, h5, h6⟩ (fun w' h' => exec_move _ rfl (.int .i64 i) rfl) ?_
            go_frame
            refine y_yield 6 (some 48) (.int .i64 k) rfl (by kernel_rfl) (by kernel_rfl) (by kernel_rfl) (fun _ _ _ h => h) rfl rfl ⟨hB, h5, h6⟩ (fun w' h' => exec_move _ rfl (.int .i64 k) rfl) ?_
            go_frame
            refine y_yield 7 (some 49) (.pointer (some ⟨B6, 0 + i * 9, none⟩)) rfl (by kernel_rfl) (by kernel_rfl) (by kernel_rfl) (fun _ _ _ h => h) rfl rfl ⟨hB, h5, h6⟩ (fun w' h' => exec_index_arr 76 43 _ _ rfl B6 0 3 i 9 rfl rfl Try.underlying76 (by kernel_rfl) hlt) ?_
            go_frame
            refine y_yield 8 (some 50) (.pointer (some ⟨B6, 0 + i * 9 + k * 1, none⟩)) rfl (by kernel_rfl) (by kernel_rfl) (by kernel_rfl) (fun _ _ _ h => h) rfl rfl ⟨hB, h5, h6⟩ (fun w' h' => exec_index_arr 43 5 _ _ rfl B6 (0 + i * 9) 9 k 1 rfl rfl Try.underlying43 (by kernel_rfl) hlt2) ?_
            go_frame
            refine y_yield 9 (some 51) (.int .u8 (y : Nat)) rfl (by kernel_rfl) (by kernel_rfl) (by kernel_rfl) (fun _ _ _ h => h) rfl rfl ⟨hB, h5, h6⟩ (fun w' h' => exec_load_one 5 _ rfl B6 (0 + i * 9 + k * 1) rfl (.int .u8 (y : Nat)) _ Try.underlying5 rfl (cell_at27 h'.2.2 HY.out)) ?_
            go_frame
            refine y_yield 10 (some 52) (.bool BL) rfl (by kernel_rfl) (by kernel_rfl) (by kernel_rfl) (fun _ _ _ h => h) rfl rfl ⟨hB, h5, h6⟩ (fun w' h' => exec_lss8 _ _ rfl x y rfl rfl BL HBL.out) ?_
            go_frame
            refine y_oper 11 (by kernel_rfl) rfl rfl (fun K' hK' => ?_)
            refine wp_exec (some 4) rfl (.bool BL) (exec_assign _ rfl (.bool BL) rfl) ?_
            refine hK' _ _ ⟨hB, h5, h6⟩ (fun _ => trivial) ?_
            clear hK' K'
            go_frame
            refine y_done (by kernel_rfl) ?_ _
            go_wp2_with fail
            go_ret
            exact ⟨by rw [HRs.out]; rfl, hB⟩
        · have HE2 : Hid (q.take (i * 9 + 9) = r.take (i * 9 + 9)) := Lib.hid (by have h9 := HE.out; rw [show k = 9 by omega] at h9; exact h9)
          go_upto_region 6 with (fail)
          refine wp_region_lit ?_
          refine ls_ex (some 27) (.int .i64 k) rfl rfl (exec_move _ rfl (.int .i64 k) rfl) ?_
          go_frame
          refine ls_ex (some 28) (.bool false) rfl rfl (exec_lss _ _ _ _ rfl k 9 rfl rfl false (decide_eq_false (by omega))) ?_
          go_frame
          refine wpList_nil ?_
          go_upto_region 4 with (fail)
          refine wp_region_lit ?_
          refine ls_ex (some 25) (.int .i64 i) rfl rfl (exec_move _ rfl (.int .i64 i) rfl) ?_
          go_frame
          refine ls_ex (some 26) (.int .i64 (i + 1)) rfl rfl (exec_add _ _ _ _ rfl i 1 (i + 1) rfl rfl (IntWalk.i64_in _ (by omega))) ?_
          go_frame
          refine ls_ex (some 7) (.int .i64 (i + 1)) rfl rfl (exec_assign _ rfl (.int .i64 (i + 1)) rfl) ?_
          go_frame
          refine wpList_nil ?_
          go_wp2_with fail
          go_roundw
          case rel => exact ⟨i + 1, by omega, by go_num, by rw [Nat.add_mul, Nat.one_mul]; exact HE2, hB, h5, h6⟩
          case measure => simp [intOf] <;> omega
    · have HRs : Hid (decide (lexC q r < 0) = false) := Lib.hid (by have h9 := HE.out; rw [show i = 3 by omega, List.take_of_length_le (by rw [Hql.out]; omega), List.take_of_length_le (by rw [Hrl.out]; omega)] at h9; rw [h9, lexC_self]; rfl)
      go_upto_region 3 with (fail)
      refine wp_region_lit ?_
      refine ls_ex (some 23) (.int .i64 i) rfl rfl (exec_move _ rfl (.int .i64 i) rfl) ?_
      go_frame
      refine ls_ex (some 24) (.bool false) rfl rfl (exec_lss _ _ _ _ rfl i 3 rfl rfl false (decide_eq_false (by omega))) ?_
      go_frame
      refine wpList_nil ?_
      go_upto_region 10 with (fail)
      refine wp_region_lit ?_
      refine ls_ex (some 4) (.bool false) rfl rfl (exec_assign _ rfl (.bool false) rfl) ?_
      go_frame
      refine wpList_nil ?_
      go_wp2_with fail
      go_ret
      exact ⟨by rw [HRs.out]; rfl, hB⟩
end Go.Proofs.Ytmbjpnkedepijaa
