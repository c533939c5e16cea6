/-
  impl.KroneckerMethods. (Made by mkkm2.py no.)
-/
import Derived.Test.YtopdfblfhdooaaaKm2a
namespace Go.Proofs.Ytopdfblfhdooaaa
open Go.RowKit
set_option maxRecDepth 100000
attribute [local irreducible] wpList
theorem alYb__3_impl_shape {o : Oper} {a : Act} {w : World} (ho : o.op = .alloc 75) : (execOp a.eval o).run Try.prog w = .ok (.value (.pointer (some ⟨w.heap.size, 0, none⟩))) (w.alloc (.cells #[.int .i64 0, .int .i64 0, .int .i64 0, .int .i64 0, .int .i64 0, .int .i64 0] 75 (0, 0))) := by
  unfold execOp
  rw [ho]
  kernel_rfl
theorem alYb_impl_Method {o : Oper} {a : Act} {w : World} (ho : o.op = .alloc 28) : (execOp a.eval o).run Try.prog w = .ok (.value (.pointer (some ⟨w.heap.size, 0, none⟩))) (w.alloc (.cells #[.int .i64 0, .int .i64 0, .int .i64 0, .int .i64 0, .slice none 0 0] 28 (0, 0))) := by
  unfold execOp
  rw [ho]
  kernel_rfl
theorem alYb_impl_Product {o : Oper} {a : Act} {w : World} (ho : o.op = .alloc 53) : (execOp a.eval o).run Try.prog w = .ok (.value (.pointer (some ⟨w.heap.size, 0, none⟩))) (w.alloc (.cells (u8s (List.replicate 27 0)) 53 (0, 0))) := by
  unfold execOp
  rw [ho]
  kernel_rfl
set_option maxHeartbeats 25600000 in
theorem kroneckerMethod_no (P n m k : Nat) (A : Option Addr) (c : Nat) (qs : List (List Nat)) (u v t : Nat) (B : Option Addr) (d : Nat) (rs : List (List Nat)) (N1 N2 N3 : Nat) (w : World) (hR : Rd w A qs) (hS : Rd w B rs) (hx : methB P n m k qs = true) (hy : methB P u v t rs = true) (hN1 : n * u = N1) (hN2 : m * v = N2) (hN3 : k * t = N3) (h1 : N1 ≤ 9) (h2 : N2 ≤ 9) (h3 : N3 ≤ 9) (hc : 30 < qs.length * rs.length) :
    Calls Try.prog 32 #[.agg #[.int .i64 (P : Nat), .int .i64 (n : Nat), .int .i64 (m : Nat), .int .i64 (k : Nat), .slice A qs.length c], .agg #[.int .i64 (P : Nat), .int .i64 (u : Nat), .int .i64 (v : Nat), .int .i64 (t : Nat), .slice B rs.length d]] w (fun e w' => FailsM e ∧ Below w.heap.size w w') := by
  have hB := Below.refl w.heap.size w
  obtain ⟨s0, s1, s2, s3, hl30, _⟩ := methB_parts hx
  obtain ⟨_, t1, t2, t3, hs30, _⟩ := methB_parts hy
  have hP : 2 ≤ P ∧ P ≤ 5 := by have := prime_le5 s0; omega
  have b1 : 1 ≤ n ∧ n ≤ 9 := by simp only [sideB, Bool.and_eq_true, decide_eq_true_eq] at s1; omega
  have b2 : 1 ≤ m ∧ m ≤ 9 := by simp only [sideB, Bool.and_eq_true, decide_eq_true_eq] at s2; omega
  have b3 : 1 ≤ k ∧ k ≤ 9 := by simp only [sideB, Bool.and_eq_true, decide_eq_true_eq] at s3; omega
  have b4 : 1 ≤ u ∧ u ≤ 9 := by simp only [sideB, Bool.and_eq_true, decide_eq_true_eq] at t1; omega
  have b5 : 1 ≤ v ∧ v ≤ 9 := by simp only [sideB, Bool.and_eq_true, decide_eq_true_eq] at t2; omega
  have b6 : 1 ≤ t ∧ t ≤ 9 := by simp only [sideB, Bool.and_eq_true, decide_eq_true_eq] at t3; omega
  obtain ⟨LL, hLL⟩ : ∃ N, qs.length * rs.length = N := ⟨_, rfl⟩
  have c1 : N1 ≤ 9 * 9 := by rw [← hN1]; exact Nat.mul_le_mul b1.2 b4.2
  have c2 : N2 ≤ 9 * 9 := by rw [← hN2]; exact Nat.mul_le_mul b2.2 b5.2
  have c3 : N3 ≤ 9 * 9 := by rw [← hN3]; exact Nat.mul_le_mul b3.2 b6.2
  have c4 : LL ≤ 30 * 30 := by rw [← hLL]; exact Nat.mul_le_mul hl30 hs30
  have e1 : (n : Int) * (u : Int) = (N1 : Int) := by rw [← hN1]; simp
  have e2 : (m : Int) * (v : Int) = (N2 : Int) := by rw [← hN2]; simp
  have e3 : (k : Int) * (t : Int) = (N3 : Int) := by rw [← hN3]; simp
  have e4 : (qs.length : Int) * (rs.length : Int) = (LL : Int) := by rw [← hLL]; simp
  have HN1 : Hid (IntKind.i64.wrap ((n : Int) * (u : Int)) = (N1 : Int)) := Lib.hid (by rw [e1]; exact IntWalk.i64_in _ (by omega))
  have HN2 : Hid (IntKind.i64.wrap ((m : Int) * (v : Int)) = (N2 : Int)) := Lib.hid (by rw [e2]; exact IntWalk.i64_in _ (by omega))
  have HN3 : Hid (IntKind.i64.wrap ((k : Int) * (t : Int)) = (N3 : Int)) := Lib.hid (by rw [e3]; exact IntWalk.i64_in _ (by omega))
  have HLL : Hid (IntKind.i64.wrap ((qs.length : Int) * (rs.length : Int)) = (LL : Int)) := Lib.hid (by rw [e4]; exact IntWalk.i64_in _ (by omega))
  have HX := Lib.hid hx
  have HY := Lib.hid hy
  rw [hLL] at hc
  have HLLe := Lib.hid hLL
  have Hc1 : Hid (n * u ≤ 9) := Lib.hid (by rw [hN1]; exact h1)
  have Hc2 : Hid (m * v ≤ 9) := Lib.hid (by rw [hN2]; exact h2)
  have Hc3 : Hid (k * t ≤ 9) := Lib.hid (by rw [hN3]; exact h3)
  have HKB := Lib.hid (⟨b1, b2, b3, b4, b5, b6⟩ : (1 ≤ n ∧ n ≤ 9) ∧ (1 ≤ m ∧ m ≤ 9) ∧ (1 ≤ k ∧ k ≤ 9) ∧ (1 ≤ u ∧ u ≤ 9) ∧ (1 ≤ v ∧ v ≤ 9) ∧ (1 ≤ t ∧ t ≤ 9))
  clear hx hy s0 s1 s2 s3 t1 t2 t3 hN1 hN2 hN3 hLL e1 e2 e3 e4 b1 b2 b3 b4 b5 b6 h1 h2 h3
  go_enter Try.func32, Try.ntmps32
  go_upto_region 0 with (fail)
  refine wp_region_lit ?_
  refine ls_op rfl (fun K' hK' => ?_)
  have lz1 := hB.size
  refine wp_new (some 2) rfl (exec_box 28 _ rfl (#[.int .i64 (P : Nat), .int .i64 (n : Nat), .int .i64 (m : Nat), .int .i64 (k : Nat), .slice A qs.length c]) rfl) (fun Wz2 nnz3 => ?_)
  have bz4 := nnz3.below (Below.refl _ _) (Nat.le_refl _)
  replace hB := below_after hB bz4
  have hz5 : At Wz2 w.heap.size (.cells #[.int .i64 (P : Nat), .int .i64 (n : Nat), .int .i64 (m : Nat), .int .i64 (k : Nat), .slice A qs.length c] 28 (0, 0)) := nnz3.at_
  refine hK' _ _ ?_
  clear hK' K' nnz3 bz4
  go_frame
  refine ls_op rfl (fun K' hK' => ?_)
  have lz6 := hB.size
  have lz7 := hz5.lt
  refine wp_new (some 3) rfl (exec_box 28 _ rfl (#[.int .i64 (P : Nat), .int .i64 (u : Nat), .int .i64 (v : Nat), .int .i64 (t : Nat), .slice B rs.length d]) rfl) (fun Wz8 nnz9 => ?_)
  have bz10 := nnz9.below (Below.refl _ _) (Nat.le_refl _)
  replace hB := below_after hB bz10
  replace hz5 := hz5.after bz10
  have hz11 : At Wz8 Wz2.heap.size (.cells #[.int .i64 (P : Nat), .int .i64 (u : Nat), .int .i64 (v : Nat), .int .i64 (t : Nat), .slice B rs.length d] 28 (0, 0)) := nnz9.at_
  refine hK' _ _ ?_
  clear hK' K' nnz9 bz10
  go_frame
  refine ls_op rfl (fun K' hK' => ?_)
  have lz12 := hB.size
  have lz13 := hz5.lt
  have lz14 := hz11.lt
  refine wp_new (some 4) rfl (alYb_impl_Method rfl) (fun Wz15 nnz16 => ?_)
  have bz17 := nnz16.below (Below.refl _ _) (Nat.le_refl _)
  replace hB := below_after hB bz17
  replace hz5 := hz5.after bz17
  replace hz11 := hz11.after bz17
  have hz18 : At Wz15 Wz8.heap.size (.cells #[.int .i64 0, .int .i64 0, .int .i64 0, .int .i64 0, .slice none 0 0] 28 (0, 0)) := nnz16.at_
  refine hK' _ _ ?_
  clear hK' K' nnz16 bz17
  go_frame
  refine wpList_nil ?_
  go_upto_region 1 with (fail)
  go_cut [5, 6] from 12 to 18 (fun s5 s6 wx => ∃ B5 B6 : Nat, s5 = .pointer (some ⟨B5, 0, none⟩) ∧ s6 = .pointer (some ⟨B6, 0, none⟩) ∧ w.heap.size < B5 ∧ w.heap.size < B6 ∧ Wz2.heap.size < B5 ∧ Wz2.heap.size < B6 ∧ Wz8.heap.size < B5 ∧ Wz8.heap.size < B6 ∧ B5 ≠ B6 ∧ At wx B5 (.cells #[.int .i64 1, .int .i64 (n : Nat), .int .i64 1, .int .i64 (m : Nat), .int .i64 1, .int .i64 (k : Nat)] 75 (0, 0)) ∧ At wx B6 (.cells #[.int .i64 1, .int .i64 (u : Nat), .int .i64 1, .int .i64 (v : Nat), .int .i64 1, .int .i64 (t : Nat)] 75 (0, 0)) ∧ Below w.heap.size w wx ∧ At wx w.heap.size (.cells #[.int .i64 (P : Nat), .int .i64 (n : Nat), .int .i64 (m : Nat), .int .i64 (k : Nat), .slice A qs.length c] 28 (0, 0)) ∧ At wx Wz2.heap.size (.cells #[.int .i64 (P : Nat), .int .i64 (u : Nat), .int .i64 (v : Nat), .int .i64 (t : Nat), .slice B rs.length d] 28 (0, 0)) ∧ At wx Wz8.heap.size (.cells #[.int .i64 0, .int .i64 0, .int .i64 0, .int .i64 0, .slice none 0 0] 28 (0, 0)))
  case first =>
    refine wp_region_y (zs := []) (S := fun w' => Below w.heap.size w w' ∧ At w' w.heap.size (.cells #[.int .i64 (P : Nat), .int .i64 (n : Nat), .int .i64 (m : Nat), .int .i64 (k : Nat), .slice A qs.length c] 28 (0, 0)) ∧ At w' Wz2.heap.size (.cells #[.int .i64 (P : Nat), .int .i64 (u : Nat), .int .i64 (v : Nat), .int .i64 (t : Nat), .slice B rs.length d] 28 (0, 0))) (S2 := fun w' => True) (by kernel_rfl) ?_
    change wpAnyY _ _ _ _ _ _ _ _ _ _ (World.drew _)
    generalize hwdz19 : World.drew _ = wdz19
    replace hB : Below w.heap.size w wdz19 := by rw [← hwdz19]; exact hB.drew
    replace hz5 : At wdz19 w.heap.size (.cells #[.int .i64 (P : Nat), .int .i64 (n : Nat), .int .i64 (m : Nat), .int .i64 (k : Nat), .slice A qs.length c] 28 (0, 0)) := by rw [← hwdz19]; exact hz5
    replace hz11 : At wdz19 Wz2.heap.size (.cells #[.int .i64 (P : Nat), .int .i64 (u : Nat), .int .i64 (v : Nat), .int .i64 (t : Nat), .slice B rs.length d] 28 (0, 0)) := by rw [← hwdz19]; exact hz11
    replace hz18 : At wdz19 Wz8.heap.size (.cells #[.int .i64 0, .int .i64 0, .int .i64 0, .int .i64 0, .slice none 0 0] 28 (0, 0)) := by rw [← hwdz19]; exact hz18
    clear hwdz19
    refine y_yield 0 (some 12) (.agg #[.int .i64 (P : Nat), .int .i64 (n : Nat), .int .i64 (m : Nat), .int .i64 (k : Nat), .slice A qs.length c]) rfl (by kernel_rfl) (by kernel_rfl) (by kernel_rfl) (fun _ _ _ h => h) rfl rfl ⟨hB, hz5, hz11⟩ (fun w' h' => exec_load_all 28 _ rfl w.heap.size rfl _ _ _ h'.2.1 Try.underlying28 rfl 5 (by kernel_rfl) rfl) ?_
    go_frame
    refine y_yield 3 (some 15) (.agg #[.int .i64 (P : Nat), .int .i64 (u : Nat), .int .i64 (v : Nat), .int .i64 (t : Nat), .slice B rs.length d]) rfl (by kernel_rfl) (by kernel_rfl) (by kernel_rfl) (fun _ _ _ h => h) rfl rfl ⟨hB, hz5, hz11⟩ (fun w' h' => exec_load_all 28 _ rfl Wz2.heap.size rfl _ _ _ h'.2.2 Try.underlying28 rfl 5 (by kernel_rfl) rfl) ?_
    go_frame
    refine y_three 1 6 7 (by kernel_rfl) rfl rfl rfl rfl rfl rfl (fun K' hK' => ?_) (fun K' hK' => ?_) (fun K' hK' => ?_)
    · have lz22 := hB.size
      have lz23 := hz5.lt
      have lz24 := hz11.lt
      have lz25 := hz18.lt
      refine wp_call1 (some 13) rfl 27 _ _ rfl (fun args w => by kernel_rfl) _ rfl _ (mSides_c _ _ _ _ _ _) (fun e Wz20 h => ?_)
      obtain ⟨rfl, bz21⟩ := h
      replace hB := below_after hB bz21
      replace hz5 := hz5.after bz21
      replace hz11 := hz11.after bz21
      replace hz18 := hz18.after bz21
      clear bz21
      refine ⟨_, rfl, ?_⟩
      refine hK' _ _ ⟨hB, hz5, hz11⟩ (fun _ => trivial) ?_
      clear hK' K'
      go_frame
      refine y_three 2 6 7 (by kernel_rfl) rfl rfl rfl rfl rfl rfl (fun K' hK' => ?_) (fun K' hK' => ?_) (fun K' hK' => ?_)
      · have lz28 := hB.size
        have lz29 := hz5.lt
        have lz30 := hz11.lt
        have lz31 := hz18.lt
        refine wp_call1 (some 14) rfl 56 _ _ rfl (fun args w => by kernel_rfl) _ rfl _ (formShapes_c _ _ _ _) (fun e Wz26 h => ?_)
        obtain ⟨rfl, bz27⟩ := h
        replace hB := below_after hB bz27
        replace hz5 := hz5.after bz27
        replace hz11 := hz11.after bz27
        replace hz18 := hz18.after bz27
        clear bz27
        refine ⟨_, rfl, ?_⟩
        refine hK' _ _ ⟨hB, hz5, hz11⟩ (fun _ => trivial) ?_
        clear hK' K'
        go_frame
        refine y_three 4 6 7 (by kernel_rfl) rfl rfl rfl rfl rfl rfl (fun K' hK' => ?_) (fun K' hK' => ?_) (fun K' hK' => ?_)
        · have lz34 := hB.size
          have lz35 := hz5.lt
          have lz36 := hz11.lt
          have lz37 := hz18.lt
          refine wp_call1 (some 16) rfl 27 _ _ rfl (fun args w => by kernel_rfl) _ rfl _ (mSides_c _ _ _ _ _ _) (fun e Wz32 h => ?_)
          obtain ⟨rfl, bz33⟩ := h
          replace hB := below_after hB bz33
          replace hz5 := hz5.after bz33
          replace hz11 := hz11.after bz33
          replace hz18 := hz18.after bz33
          clear bz33
          refine ⟨_, rfl, ?_⟩
          refine hK' _ _ ⟨hB, hz5, hz11⟩ (fun _ => trivial) ?_
          clear hK' K'
          go_frame
          refine y_three 5 6 7 (by kernel_rfl) rfl rfl rfl rfl rfl rfl (fun K' hK' => ?_) (fun K' hK' => ?_) (fun K' hK' => ?_)
          · have lz40 := hB.size
            have lz41 := hz5.lt
            have lz42 := hz11.lt
            have lz43 := hz18.lt
            refine wp_call1 (some 17) rfl 56 _ _ rfl (fun args w => by kernel_rfl) _ rfl _ (formShapes_c _ _ _ _) (fun e Wz38 h => ?_)
            obtain ⟨rfl, bz39⟩ := h
            replace hB := below_after hB bz39
            replace hz5 := hz5.after bz39
            replace hz11 := hz11.after bz39
            replace hz18 := hz18.after bz39
            clear bz39
            refine ⟨_, rfl, ?_⟩
            refine hK' _ _ ⟨hB, hz5, hz11⟩ (fun _ => trivial) ?_
            clear hK' K'
            go_frame
            refine y_two 6 7 (by kernel_rfl) rfl rfl rfl rfl (fun K' hK' => ?_) (fun K' hK' => ?_)
            · have lz44 := hB.size
              have lz45 := hz5.lt
              have lz46 := hz11.lt
              have lz47 := hz18.lt
              refine wp_new (some 5) rfl (alYb__3_impl_shape rfl) (fun Wz48 nnz49 => ?_)
              have bz50 := nnz49.below (Below.refl _ _) (Nat.le_refl _)
              replace hB := below_after hB bz50
              replace hz5 := hz5.after bz50
              replace hz11 := hz11.after bz50
              replace hz18 := hz18.after bz50
              have hz51 : At Wz48 Wz38.heap.size (.cells #[.int .i64 0, .int .i64 0, .int .i64 0, .int .i64 0, .int .i64 0, .int .i64 0] 75 (0, 0)) := nnz49.at_
              refine hK' _ _ ⟨hB, hz5, hz11⟩ (fun _ => trivial) ?_
              clear hK' K' nnz49 bz50
              go_frame
              refine y_oper 7 (by kernel_rfl) rfl rfl (fun K' hK' => ?_)
              have lz52 := hB.size
              have lz53 := hz5.lt
              have lz54 := hz11.lt
              have lz55 := hz18.lt
              have lz56 := hz51.lt
              refine wp_new (some 6) rfl (alYb__3_impl_shape rfl) (fun Wz57 nnz58 => ?_)
              have bz59 := nnz58.below (Below.refl _ _) (Nat.le_refl _)
              replace hB := below_after hB bz59
              replace hz5 := hz5.after bz59
              replace hz11 := hz11.after bz59
              replace hz18 := hz18.after bz59
              replace hz51 := hz51.after bz59
              have hz60 : At Wz57 Wz48.heap.size (.cells #[.int .i64 0, .int .i64 0, .int .i64 0, .int .i64 0, .int .i64 0, .int .i64 0] 75 (0, 0)) := nnz58.at_
              refine hK' _ _ ⟨hB, hz5, hz11⟩ (fun _ => trivial) ?_
              clear hK' K' nnz58 bz59
              go_frame
              refine y_oper 8 (by kernel_rfl) rfl rfl (fun K' hK' => ?_)
              refine wp_store_all 75 _ _ rfl rfl Wz38.heap.size rfl #[.int .i64 1, .int .i64 (n : Nat), .int .i64 1, .int .i64 (m : Nat), .int .i64 1, .int .i64 (k : Nat)] rfl _ _ hz51 6 (by kernel_rfl) rfl rfl (by intro x hx; simp at hx; repeat (first | (subst hx; rfl) | (rcases hx with hx | hx; (subst hx; rfl)))) (fun Wz61 pz62 => ?_)
              replace hB := pz62.below hB (by omega)
              replace hz5 := pz62.other hz5 (by omega)
              replace hz11 := pz62.other hz11 (by omega)
              replace hz18 := pz62.other hz18 (by omega)
              replace hz60 := pz62.other hz60 (by omega)
              replace hz51 : At Wz61 Wz38.heap.size (.cells #[.int .i64 1, .int .i64 (n : Nat), .int .i64 1, .int .i64 (m : Nat), .int .i64 1, .int .i64 (k : Nat)] 75 (0, 0)) := pz62.at_
              refine hK' _ _ ⟨hB, hz5, hz11⟩ (fun _ => trivial) ?_
              clear hK' K' pz62
              refine y_oper 9 (by kernel_rfl) rfl rfl (fun K' hK' => ?_)
              refine wp_store_all 75 _ _ rfl rfl Wz48.heap.size rfl #[.int .i64 1, .int .i64 (u : Nat), .int .i64 1, .int .i64 (v : Nat), .int .i64 1, .int .i64 (t : Nat)] rfl _ _ hz60 6 (by kernel_rfl) rfl rfl (by intro x hx; simp at hx; repeat (first | (subst hx; rfl) | (rcases hx with hx | hx; (subst hx; rfl)))) (fun Wz63 pz64 => ?_)
              replace hB := pz64.below hB (by omega)
              replace hz5 := pz64.other hz5 (by omega)
              replace hz11 := pz64.other hz11 (by omega)
              replace hz18 := pz64.other hz18 (by omega)
              replace hz51 := pz64.other hz51 (by omega)
              replace hz60 : At Wz63 Wz48.heap.size (.cells #[.int .i64 1, .int .i64 (u : Nat), .int .i64 1, .int .i64 (v : Nat), .int .i64 1, .int .i64 (t : Nat)] 75 (0, 0)) := pz64.at_
              refine hK' _ _ ⟨hB, hz5, hz11⟩ (fun _ => trivial) ?_
              clear hK' K' pz64
              refine y_done (by kernel_rfl) ?_ _
              go_wp2_with fail
              go_meet
              exact ⟨_, _, rfl, rfl, by omega, by omega, by omega, by omega, by omega, by omega, by omega, hz51, hz60, hB, hz5, hz11, hz18⟩
            · have lz65 := hB.size
              have lz66 := hz5.lt
              have lz67 := hz11.lt
              have lz68 := hz18.lt
              refine wp_new (some 6) rfl (alYb__3_impl_shape rfl) (fun Wz69 nnz70 => ?_)
              have bz71 := nnz70.below (Below.refl _ _) (Nat.le_refl _)
              replace hB := below_after hB bz71
              replace hz5 := hz5.after bz71
              replace hz11 := hz11.after bz71
              replace hz18 := hz18.after bz71
              have hz72 : At Wz69 Wz38.heap.size (.cells #[.int .i64 0, .int .i64 0, .int .i64 0, .int .i64 0, .int .i64 0, .int .i64 0] 75 (0, 0)) := nnz70.at_
              refine hK' _ _ ⟨hB, hz5, hz11⟩ (fun _ => trivial) ?_
              clear hK' K' nnz70 bz71
              go_frame
              refine y_oper 6 (by kernel_rfl) rfl rfl (fun K' hK' => ?_)
              have lz73 := hB.size
              have lz74 := hz5.lt
              have lz75 := hz11.lt
              have lz76 := hz18.lt
              have lz77 := hz72.lt
              refine wp_new (some 5) rfl (alYb__3_impl_shape rfl) (fun Wz78 nnz79 => ?_)
              have bz80 := nnz79.below (Below.refl _ _) (Nat.le_refl _)
              replace hB := below_after hB bz80
              replace hz5 := hz5.after bz80
              replace hz11 := hz11.after bz80
              replace hz18 := hz18.after bz80
              replace hz72 := hz72.after bz80
              have hz81 : At Wz78 Wz69.heap.size (.cells #[.int .i64 0, .int .i64 0, .int .i64 0, .int .i64 0, .int .i64 0, .int .i64 0] 75 (0, 0)) := nnz79.at_
              refine hK' _ _ ⟨hB, hz5, hz11⟩ (fun _ => trivial) ?_
              clear hK' K' nnz79 bz80
              go_frame
              refine y_oper 8 (by kernel_rfl) rfl rfl (fun K' hK' => ?_)
              refine wp_store_all 75 _ _ rfl rfl Wz69.heap.size rfl #[.int .i64 1, .int .i64 (n : Nat), .int .i64 1, .int .i64 (m : Nat), .int .i64 1, .int .i64 (k : Nat)] rfl _ _ hz81 6 (by kernel_rfl) rfl rfl (by intro x hx; simp at hx; repeat (first | (subst hx; rfl) | (rcases hx with hx | hx; (subst hx; rfl)))) (fun Wz82 pz83 => ?_)
              replace hB := pz83.below hB (by omega)
              replace hz5 := pz83.other hz5 (by omega)
              replace hz11 := pz83.other hz11 (by omega)
              replace hz18 := pz83.other hz18 (by omega)
              replace hz72 := pz83.other hz72 (by omega)
              replace hz81 : At Wz82 Wz69.heap.size (.cells #[.int .i64 1, .int .i64 (n : Nat), .int .i64 1, .int .i64 (m : Nat), .int .i64 1, .int .i64 (k : Nat)] 75 (0, 0)) := pz83.at_
              refine hK' _ _ ⟨hB, hz5, hz11⟩ (fun _ => trivial) ?_
              clear hK' K' pz83
              refine y_oper 9 (by kernel_rfl) rfl rfl (fun K' hK' => ?_)
              refine wp_store_all 75 _ _ rfl rfl Wz38.heap.size rfl #[.int .i64 1, .int .i64 (u : Nat), .int .i64 1, .int .i64 (v : Nat), .int .i64 1, .int .i64 (t : Nat)] rfl _ _ hz72 6 (by kernel_rfl) rfl rfl (by intro x hx; simp at hx; repeat (first | (subst hx; rfl) | (rcases hx with hx | hx; (subst hx; rfl)))) (fun Wz84 pz85 => ?_)
              replace hB := pz85.below hB (by omega)
              replace hz5 := pz85.other hz5 (by omega)
              replace hz11 := pz85.other hz11 (by omega)
              replace hz18 := pz85.other hz18 (by omega)
              replace hz81 := pz85.other hz81 (by omega)
              replace hz72 : At Wz84 Wz38.heap.size (.cells #[.int .i64 1, .int .i64 (u : Nat), .int .i64 1, .int .i64 (v : Nat), .int .i64 1, .int .i64 (t : Nat)] 75 (0, 0)) := pz85.at_
              refine hK' _ _ ⟨hB, hz5, hz11⟩ (fun _ => trivial) ?_
              clear hK' K' pz85
              refine y_done (by kernel_rfl) ?_ _
              go_wp2_with fail
              go_meet
              exact ⟨_, _, rfl, rfl, by omega, by omega, by omega, by omega, by omega, by omega, by omega, hz81, hz72, hB, hz5, hz11, hz18⟩
          · have lz86 := hB.size
            have lz87 := hz5.lt
            have lz88 := hz11.lt
            have lz89 := hz18.lt
            refine wp_new (some 5) rfl (alYb__3_impl_shape rfl) (fun Wz90 nnz91 => ?_)
            have bz92 := nnz91.below (Below.refl _ _) (Nat.le_refl _)
            replace hB := below_after hB bz92
            replace hz5 := hz5.after bz92
            replace hz11 := hz11.after bz92
            replace hz18 := hz18.after bz92
            have hz93 : At Wz90 Wz32.heap.size (.cells #[.int .i64 0, .int .i64 0, .int .i64 0, .int .i64 0, .int .i64 0, .int .i64 0] 75 (0, 0)) := nnz91.at_
            refine hK' _ _ ⟨hB, hz5, hz11⟩ (fun _ => trivial) ?_
            clear hK' K' nnz91 bz92
            go_frame
            refine y_two 5 7 (by kernel_rfl) rfl rfl rfl rfl (fun K' hK' => ?_) (fun K' hK' => ?_)
            · have lz96 := hB.size
              have lz97 := hz5.lt
              have lz98 := hz11.lt
              have lz99 := hz18.lt
              have lz100 := hz93.lt
              refine wp_call1 (some 17) rfl 56 _ _ rfl (fun args w => by kernel_rfl) _ rfl _ (formShapes_c _ _ _ _) (fun e Wz94 h => ?_)
              obtain ⟨rfl, bz95⟩ := h
              replace hB := below_after hB bz95
              replace hz5 := hz5.after bz95
              replace hz11 := hz11.after bz95
              replace hz18 := hz18.after bz95
              replace hz93 := hz93.after bz95
              clear bz95
              refine ⟨_, rfl, ?_⟩
              refine hK' _ _ ⟨hB, hz5, hz11⟩ (fun _ => trivial) ?_
              clear hK' K'
              go_frame
              refine y_oper 7 (by kernel_rfl) rfl rfl (fun K' hK' => ?_)
              have lz101 := hB.size
              have lz102 := hz5.lt
              have lz103 := hz11.lt
              have lz104 := hz18.lt
              have lz105 := hz93.lt
              refine wp_new (some 6) rfl (alYb__3_impl_shape rfl) (fun Wz106 nnz107 => ?_)
              have bz108 := nnz107.below (Below.refl _ _) (Nat.le_refl _)
              replace hB := below_after hB bz108
              replace hz5 := hz5.after bz108
              replace hz11 := hz11.after bz108
              replace hz18 := hz18.after bz108
              replace hz93 := hz93.after bz108
              have hz109 : At Wz106 Wz94.heap.size (.cells #[.int .i64 0, .int .i64 0, .int .i64 0, .int .i64 0, .int .i64 0, .int .i64 0] 75 (0, 0)) := nnz107.at_
              refine hK' _ _ ⟨hB, hz5, hz11⟩ (fun _ => trivial) ?_
              clear hK' K' nnz107 bz108
              go_frame
              refine y_oper 8 (by kernel_rfl) rfl rfl (fun K' hK' => ?_)
              refine wp_store_all 75 _ _ rfl rfl Wz32.heap.size rfl #[.int .i64 1, .int .i64 (n : Nat), .int .i64 1, .int .i64 (m : Nat), .int .i64 1, .int .i64 (k : Nat)] rfl _ _ hz93 6 (by kernel_rfl) rfl rfl (by intro x hx; simp at hx; repeat (first | (subst hx; rfl) | (rcases hx with hx | hx; (subst hx; rfl)))) (fun Wz110 pz111 => ?_)
              replace hB := pz111.below hB (by omega)
              replace hz5 := pz111.other hz5 (by omega)
              replace hz11 := pz111.other hz11 (by omega)
              replace hz18 := pz111.other hz18 (by omega)
              replace hz109 := pz111.other hz109 (by omega)
              replace hz93 : At Wz110 Wz32.heap.size (.cells #[.int .i64 1, .int .i64 (n : Nat), .int .i64 1, .int .i64 (m : Nat), .int .i64 1, .int .i64 (k : Nat)] 75 (0, 0)) := pz111.at_
              refine hK' _ _ ⟨hB, hz5, hz11⟩ (fun _ => trivial) ?_
              clear hK' K' pz111
              refine y_oper 9 (by kernel_rfl) rfl rfl (fun K' hK' => ?_)
              refine wp_store_all 75 _ _ rfl rfl Wz94.heap.size rfl #[.int .i64 1, .int .i64 (u : Nat), .int .i64 1, .int .i64 (v : Nat), .int .i64 1, .int .i64 (t : Nat)] rfl _ _ hz109 6 (by kernel_rfl) rfl rfl (by intro x hx; simp at hx; repeat (first | (subst hx; rfl) | (rcases hx with hx | hx; (subst hx; rfl)))) (fun Wz112 pz113 => ?_)
              replace hB := pz113.below hB (by omega)
              replace hz5 := pz113.other hz5 (by omega)
              replace hz11 := pz113.other hz11 (by omega)
              replace hz18 := pz113.other hz18 (by omega)
              replace hz93 := pz113.other hz93 (by omega)
              replace hz109 : At Wz112 Wz94.heap.size (.cells #[.int .i64 1, .int .i64 (u : Nat), .int .i64 1, .int .i64 (v : Nat), .int .i64 1, .int .i64 (t : Nat)] 75 (0, 0)) := pz113.at_
              refine hK' _ _ ⟨hB, hz5, hz11⟩ (fun _ => trivial) ?_
              clear hK' K' pz113
              refine y_done (by kernel_rfl) ?_ _
              go_wp2_with fail
              go_meet
              exact ⟨_, _, rfl, rfl, by omega, by omega, by omega, by omega, by omega, by omega, by omega, hz93, hz109, hB, hz5, hz11, hz18⟩
            · have lz114 := hB.size
              have lz115 := hz5.lt
              have lz116 := hz11.lt
              have lz117 := hz18.lt
              have lz118 := hz93.lt
              refine wp_new (some 6) rfl (alYb__3_impl_shape rfl) (fun Wz119 nnz120 => ?_)
              have bz121 := nnz120.below (Below.refl _ _) (Nat.le_refl _)
              replace hB := below_after hB bz121
              replace hz5 := hz5.after bz121
              replace hz11 := hz11.after bz121
              replace hz18 := hz18.after bz121
              replace hz93 := hz93.after bz121
              have hz122 : At Wz119 Wz90.heap.size (.cells #[.int .i64 0, .int .i64 0, .int .i64 0, .int .i64 0, .int .i64 0, .int .i64 0] 75 (0, 0)) := nnz120.at_
              refine hK' _ _ ⟨hB, hz5, hz11⟩ (fun _ => trivial) ?_
              clear hK' K' nnz120 bz121
              go_frame
              refine y_oper 5 (by kernel_rfl) rfl rfl (fun K' hK' => ?_)
              have lz125 := hB.size
              have lz126 := hz5.lt
              have lz127 := hz11.lt
              have lz128 := hz18.lt
              have lz129 := hz93.lt
              have lz130 := hz122.lt
              refine wp_call1 (some 17) rfl 56 _ _ rfl (fun args w => by kernel_rfl) _ rfl _ (formShapes_c _ _ _ _) (fun e Wz123 h => ?_)
              obtain ⟨rfl, bz124⟩ := h
              replace hB := below_after hB bz124
              replace hz5 := hz5.after bz124
              replace hz11 := hz11.after bz124
              replace hz18 := hz18.after bz124
              replace hz93 := hz93.after bz124
              replace hz122 := hz122.after bz124
              clear bz124
              refine ⟨_, rfl, ?_⟩
              refine hK' _ _ ⟨hB, hz5, hz11⟩ (fun _ => trivial) ?_
              clear hK' K'
              go_frame
              refine y_oper 8 (by kernel_rfl) rfl rfl (fun K' hK' => ?_)
              refine wp_store_all 75 _ _ rfl rfl Wz32.heap.size rfl #[.int .i64 1, .int .i64 (n : Nat), .int .i64 1, .int .i64 (m : Nat), .int .i64 1, .int .i64 (k : Nat)] rfl _ _ hz93 6 (by kernel_rfl) rfl rfl (by intro x hx; simp at hx; repeat (first | (subst hx; rfl) | (rcases hx with hx | hx; (subst hx; rfl)))) (fun Wz131 pz132 => ?_)
              replace hB := pz132.below hB (by omega)
              replace hz5 := pz132.other hz5 (by omega)
              replace hz11 := pz132.other hz11 (by omega)
              replace hz18 := pz132.other hz18 (by omega)
              replace hz122 := pz132.other hz122 (by omega)
              replace hz93 : At Wz131 Wz32.heap.size (.cells #[.int .i64 1, .int .i64 (n : Nat), .int .i64 1, .int .i64 (m : Nat), .int .i64 1, .int .i64 (k : Nat)] 75 (0, 0)) := pz132.at_
              refine hK' _ _ ⟨hB, hz5, hz11⟩ (fun _ => trivial) ?_
              clear hK' K' pz132
              refine y_oper 9 (by kernel_rfl) rfl rfl (fun K' hK' => ?_)
              refine wp_store_all 75 _ _ rfl rfl Wz90.heap.size rfl #[.int .i64 1, .int .i64 (u : Nat), .int .i64 1, .int .i64 (v : Nat), .int .i64 1, .int .i64 (t : Nat)] rfl _ _ hz122 6 (by kernel_rfl) rfl rfl (by intro x hx; simp at hx; repeat (first | (subst hx; rfl) | (rcases hx with hx | hx; (subst hx; rfl)))) (fun Wz133 pz134 => ?_)
              replace hB := pz134.below hB (by omega)
              replace hz5 := pz134.other hz5 (by omega)
              replace hz11 := pz134.other hz11 (by omega)
              replace hz18 := pz134.other hz18 (by omega)
              replace hz93 := pz134.other hz93 (by omega)
              replace hz122 : At Wz133 Wz90.heap.size (.cells #[.int .i64 1, .int .i64 (u : Nat), .int .i64 1, .int .i64 (v : Nat), .int .i64 1, .int .i64 (t : Nat)] 75 (0, 0)) := pz134.at_
              refine hK' _ _ ⟨hB, hz5, hz11⟩ (fun _ => trivial) ?_
              clear hK' K' pz134
              refine y_done (by kernel_rfl) ?_ _
              go_wp2_with fail
              go_meet
              exact ⟨_, _, rfl, rfl, by omega, by omega, by omega, by omega, by omega, by omega, by omega, hz93, hz122, hB, hz5, hz11, hz18⟩
          · have lz135 := hB.size
            have lz136 := hz5.lt
            have lz137 := hz11.lt
            have lz138 := hz18.lt
            refine wp_new (some 6) rfl (alYb__3_impl_shape rfl) (fun Wz139 nnz140 => ?_)
            have bz141 := nnz140.below (Below.refl _ _) (Nat.le_refl _)
            replace hB := below_after hB bz141
            replace hz5 := hz5.after bz141
            replace hz11 := hz11.after bz141
            replace hz18 := hz18.after bz141
            have hz142 : At Wz139 Wz32.heap.size (.cells #[.int .i64 0, .int .i64 0, .int .i64 0, .int .i64 0, .int .i64 0, .int .i64 0] 75 (0, 0)) := nnz140.at_
            refine hK' _ _ ⟨hB, hz5, hz11⟩ (fun _ => trivial) ?_
            clear hK' K' nnz140 bz141
            go_frame
            refine y_two 5 6 (by kernel_rfl) rfl rfl rfl rfl (fun K' hK' => ?_) (fun K' hK' => ?_)
            · have lz145 := hB.size
              have lz146 := hz5.lt
              have lz147 := hz11.lt
              have lz148 := hz18.lt
              have lz149 := hz142.lt
              refine wp_call1 (some 17) rfl 56 _ _ rfl (fun args w => by kernel_rfl) _ rfl _ (formShapes_c _ _ _ _) (fun e Wz143 h => ?_)
              obtain ⟨rfl, bz144⟩ := h
              replace hB := below_after hB bz144
              replace hz5 := hz5.after bz144
              replace hz11 := hz11.after bz144
              replace hz18 := hz18.after bz144
              replace hz142 := hz142.after bz144
              clear bz144
              refine ⟨_, rfl, ?_⟩
              refine hK' _ _ ⟨hB, hz5, hz11⟩ (fun _ => trivial) ?_
              clear hK' K'
              go_frame
              refine y_oper 6 (by kernel_rfl) rfl rfl (fun K' hK' => ?_)
              have lz150 := hB.size
              have lz151 := hz5.lt
              have lz152 := hz11.lt
              have lz153 := hz18.lt
              have lz154 := hz142.lt
              refine wp_new (some 5) rfl (alYb__3_impl_shape rfl) (fun Wz155 nnz156 => ?_)
              have bz157 := nnz156.below (Below.refl _ _) (Nat.le_refl _)
              replace hB := below_after hB bz157
              replace hz5 := hz5.after bz157
              replace hz11 := hz11.after bz157
              replace hz18 := hz18.after bz157
              replace hz142 := hz142.after bz157
              have hz158 : At Wz155 Wz143.heap.size (.cells #[.int .i64 0, .int .i64 0, .int .i64 0, .int .i64 0, .int .i64 0, .int .i64 0] 75 (0, 0)) := nnz156.at_
              refine hK' _ _ ⟨hB, hz5, hz11⟩ (fun _ => trivial) ?_
              clear hK' K' nnz156 bz157
              go_frame
              refine y_oper 8 (by kernel_rfl) rfl rfl (fun K' hK' => ?_)
              refine wp_store_all 75 _ _ rfl rfl Wz143.heap.size rfl #[.int .i64 1, .int .i64 (n : Nat), .int .i64 1, .int .i64 (m : Nat), .int .i64 1, .int .i64 (k : Nat)] rfl _ _ hz158 6 (by kernel_rfl) rfl rfl (by intro x hx; simp at hx; repeat (first | (subst hx; rfl) | (rcases hx with hx | hx; (subst hx; rfl)))) (fun Wz159 pz160 => ?_)
              replace hB := pz160.below hB (by omega)
              replace hz5 := pz160.other hz5 (by omega)
              replace hz11 := pz160.other hz11 (by omega)
              replace hz18 := pz160.other hz18 (by omega)
              replace hz142 := pz160.other hz142 (by omega)
              replace hz158 : At Wz159 Wz143.heap.size (.cells #[.int .i64 1, .int .i64 (n : Nat), .int .i64 1, .int .i64 (m : Nat), .int .i64 1, .int .i64 (k : Nat)] 75 (0, 0)) := pz160.at_
              refine hK' _ _ ⟨hB, hz5, hz11⟩ (fun _ => trivial) ?_
              clear hK' K' pz160
              refine y_oper 9 (by kernel_rfl) rfl rfl (fun K' hK' => ?_)
              refine wp_store_all 75 _ _ rfl rfl Wz32.heap.size rfl #[.int .i64 1, .int .i64 (u : Nat), .int .i64 1, .int .i64 (v : Nat), .int .i64 1, .int .i64 (t : Nat)] rfl _ _ hz142 6 (by kernel_rfl) rfl rfl (by intro x hx; simp at hx; repeat (first | (subst hx; rfl) | (rcases hx with hx | hx; (subst hx; rfl)))) (fun Wz161 pz162 => ?_)
              replace hB := pz162.below hB (by omega)
              replace hz5 := pz162.other hz5 (by omega)
              replace hz11 := pz162.other hz11 (by omega)
              replace hz18 := pz162.other hz18 (by omega)
              replace hz158 := pz162.other hz158 (by omega)
              replace hz142 : At Wz161 Wz32.heap.size (.cells #[.int .i64 1, .int .i64 (u : Nat), .int .i64 1, .int .i64 (v : Nat), .int .i64 1, .int .i64 (t : Nat)] 75 (0, 0)) := pz162.at_
              refine hK' _ _ ⟨hB, hz5, hz11⟩ (fun _ => trivial) ?_
              clear hK' K' pz162
              refine y_done (by kernel_rfl) ?_ _
              go_wp2_with fail
              go_meet
              exact ⟨_, _, rfl, rfl, by omega, by omega, by omega, by omega, by omega, by omega, by omega, hz158, hz142, hB, hz5, hz11, hz18⟩
            · have lz163 := hB.size
              have lz164 := hz5.lt
              have lz165 := hz11.lt
              have lz166 := hz18.lt
              have lz167 := hz142.lt
              refine wp_new (some 5) rfl (alYb__3_impl_shape rfl) (fun Wz168 nnz169 => ?_)
              have bz170 := nnz169.below (Below.refl _ _) (Nat.le_refl _)
              replace hB := below_after hB bz170
              replace hz5 := hz5.after bz170
              replace hz11 := hz11.after bz170
              replace hz18 := hz18.after bz170
              replace hz142 := hz142.after bz170
              have hz171 : At Wz168 Wz139.heap.size (.cells #[.int .i64 0, .int .i64 0, .int .i64 0, .int .i64 0, .int .i64 0, .int .i64 0] 75 (0, 0)) := nnz169.at_
              refine hK' _ _ ⟨hB, hz5, hz11⟩ (fun _ => trivial) ?_
              clear hK' K' nnz169 bz170
              go_frame
              refine y_oper 5 (by kernel_rfl) rfl rfl (fun K' hK' => ?_)
              have lz174 := hB.size
              have lz175 := hz5.lt
              have lz176 := hz11.lt
              have lz177 := hz18.lt
              have lz178 := hz142.lt
              have lz179 := hz171.lt
              refine wp_call1 (some 17) rfl 56 _ _ rfl (fun args w => by kernel_rfl) _ rfl _ (formShapes_c _ _ _ _) (fun e Wz172 h => ?_)
              obtain ⟨rfl, bz173⟩ := h
              replace hB := below_after hB bz173
              replace hz5 := hz5.after bz173
              replace hz11 := hz11.after bz173
              replace hz18 := hz18.after bz173
              replace hz142 := hz142.after bz173
              replace hz171 := hz171.after bz173
              clear bz173
              refine ⟨_, rfl, ?_⟩
              refine hK' _ _ ⟨hB, hz5, hz11⟩ (fun _ => trivial) ?_
              clear hK' K'
              go_frame
              refine y_oper 8 (by kernel_rfl) rfl rfl (fun K' hK' => ?_)
              refine wp_store_all 75 _ _ rfl rfl Wz139.heap.size rfl #[.int .i64 1, .int .i64 (n : Nat), .int .i64 1, .int .i64 (m : Nat), .int .i64 1, .int .i64 (k : Nat)] rfl _ _ hz171 6 (by kernel_rfl) rfl rfl (by intro x hx; simp at hx; repeat (first | (subst hx; rfl) | (rcases hx with hx | hx; (subst hx; rfl)))) (fun Wz180 pz181 => ?_)
              replace hB := pz181.below hB (by omega)
              replace hz5 := pz181.other hz5 (by omega)
              replace hz11 := pz181.other hz11 (by omega)
              replace hz18 := pz181.other hz18 (by omega)
              replace hz142 := pz181.other hz142 (by omega)
              replace hz171 : At Wz180 Wz139.heap.size (.cells #[.int .i64 1, .int .i64 (n : Nat), .int .i64 1, .int .i64 (m : Nat), .int .i64 1, .int .i64 (k : Nat)] 75 (0, 0)) := pz181.at_
              refine hK' _ _ ⟨hB, hz5, hz11⟩ (fun _ => trivial) ?_
              clear hK' K' pz181
              refine y_oper 9 (by kernel_rfl) rfl rfl (fun K' hK' => ?_)
              refine wp_store_all 75 _ _ rfl rfl Wz32.heap.size rfl #[.int .i64 1, .int .i64 (u : Nat), .int .i64 1, .int .i64 (v : Nat), .int .i64 1, .int .i64 (t : Nat)] rfl _ _ hz142 6 (by kernel_rfl) rfl rfl (by intro x hx; simp at hx; repeat (first | (subst hx; rfl) | (rcases hx with hx | hx; (subst hx; rfl)))) (fun Wz182 pz183 => ?_)
              replace hB := pz183.below hB (by omega)
              replace hz5 := pz183.other hz5 (by omega)
              replace hz11 := pz183.other hz11 (by omega)
              replace hz18 := pz183.other hz18 (by omega)
              replace hz171 := pz183.other hz171 (by omega)
              replace hz142 : At Wz182 Wz32.heap.size (.cells #[.int .i64 1, .int .i64 (u : Nat), .int .i64 1, .int .i64 (v : Nat), .int .i64 1, .int .i64 (t : Nat)] 75 (0, 0)) := pz183.at_
              refine hK' _ _ ⟨hB, hz5, hz11⟩ (fun _ => trivial) ?_
              clear hK' K' pz183
              refine y_done (by kernel_rfl) ?_ _
              go_wp2_with fail
              go_meet
              exact ⟨_, _, rfl, rfl, by omega, by omega, by omega, by omega, by omega, by omega, by omega, hz171, hz142, hB, hz5, hz11, hz18⟩
        · have lz184 := hB.size
          have lz185 := hz5.lt
          have lz186 := hz11.lt
          have lz187 := hz18.lt
          refine wp_new (some 5) rfl (alYb__3_impl_shape rfl) (fun Wz188 nnz189 => ?_)
          have bz190 := nnz189.below (Below.refl _ _) (Nat.le_refl _)
          replace hB := below_after hB bz190
          replace hz5 := hz5.after bz190
          replace hz11 := hz11.after bz190
          replace hz18 := hz18.after bz190
          have hz191 : At Wz188 Wz26.heap.size (.cells #[.int .i64 0, .int .i64 0, .int .i64 0, .int .i64 0, .int .i64 0, .int .i64 0] 75 (0, 0)) := nnz189.at_
          refine hK' _ _ ⟨hB, hz5, hz11⟩ (fun _ => trivial) ?_
          clear hK' K' nnz189 bz190
          go_frame
          refine y_two 4 7 (by kernel_rfl) rfl rfl rfl rfl (fun K' hK' => ?_) (fun K' hK' => ?_)
          · have lz194 := hB.size
            have lz195 := hz5.lt
            have lz196 := hz11.lt
            have lz197 := hz18.lt
            have lz198 := hz191.lt
            refine wp_call1 (some 16) rfl 27 _ _ rfl (fun args w => by kernel_rfl) _ rfl _ (mSides_c _ _ _ _ _ _) (fun e Wz192 h => ?_)
            obtain ⟨rfl, bz193⟩ := h
            replace hB := below_after hB bz193
            replace hz5 := hz5.after bz193
            replace hz11 := hz11.after bz193
            replace hz18 := hz18.after bz193
            replace hz191 := hz191.after bz193
            clear bz193
            refine ⟨_, rfl, ?_⟩
            refine hK' _ _ ⟨hB, hz5, hz11⟩ (fun _ => trivial) ?_
            clear hK' K'
            go_frame
            refine y_two 5 7 (by kernel_rfl) rfl rfl rfl rfl (fun K' hK' => ?_) (fun K' hK' => ?_)
            · have lz201 := hB.size
              have lz202 := hz5.lt
              have lz203 := hz11.lt
              have lz204 := hz18.lt
              have lz205 := hz191.lt
              refine wp_call1 (some 17) rfl 56 _ _ rfl (fun args w => by kernel_rfl) _ rfl _ (formShapes_c _ _ _ _) (fun e Wz199 h => ?_)
              obtain ⟨rfl, bz200⟩ := h
              replace hB := below_after hB bz200
              replace hz5 := hz5.after bz200
              replace hz11 := hz11.after bz200
              replace hz18 := hz18.after bz200
              replace hz191 := hz191.after bz200
              clear bz200
              refine ⟨_, rfl, ?_⟩
              refine hK' _ _ ⟨hB, hz5, hz11⟩ (fun _ => trivial) ?_
              clear hK' K'
              go_frame
              refine y_oper 7 (by kernel_rfl) rfl rfl (fun K' hK' => ?_)
              have lz206 := hB.size
              have lz207 := hz5.lt
              have lz208 := hz11.lt
              have lz209 := hz18.lt
              have lz210 := hz191.lt
              refine wp_new (some 6) rfl (alYb__3_impl_shape rfl) (fun Wz211 nnz212 => ?_)
              have bz213 := nnz212.below (Below.refl _ _) (Nat.le_refl _)
              replace hB := below_after hB bz213
              replace hz5 := hz5.after bz213
              replace hz11 := hz11.after bz213
              replace hz18 := hz18.after bz213
              replace hz191 := hz191.after bz213
              have hz214 : At Wz211 Wz199.heap.size (.cells #[.int .i64 0, .int .i64 0, .int .i64 0, .int .i64 0, .int .i64 0, .int .i64 0] 75 (0, 0)) := nnz212.at_
              refine hK' _ _ ⟨hB, hz5, hz11⟩ (fun _ => trivial) ?_
              clear hK' K' nnz212 bz213
              go_frame
              refine y_oper 8 (by kernel_rfl) rfl rfl (fun K' hK' => ?_)
              refine wp_store_all 75 _ _ rfl rfl Wz26.heap.size rfl #[.int .i64 1, .int .i64 (n : Nat), .int .i64 1, .int .i64 (m : Nat), .int .i64 1, .int .i64 (k : Nat)] rfl _ _ hz191 6 (by kernel_rfl) rfl rfl (by intro x hx; simp at hx; repeat (first | (subst hx; rfl) | (rcases hx with hx | hx; (subst hx; rfl)))) (fun Wz215 pz216 => ?_)
              replace hB := pz216.below hB (by omega)
              replace hz5 := pz216.other hz5 (by omega)
              replace hz11 := pz216.other hz11 (by omega)
              replace hz18 := pz216.other hz18 (by omega)
              replace hz214 := pz216.other hz214 (by omega)
              replace hz191 : At Wz215 Wz26.heap.size (.cells #[.int .i64 1, .int .i64 (n : Nat), .int .i64 1, .int .i64 (m : Nat), .int .i64 1, .int .i64 (k : Nat)] 75 (0, 0)) := pz216.at_
              refine hK' _ _ ⟨hB, hz5, hz11⟩ (fun _ => trivial) ?_
              clear hK' K' pz216
              refine y_oper 9 (by kernel_rfl) rfl rfl (fun K' hK' => ?_)
              refine wp_store_all 75 _ _ rfl rfl Wz199.heap.size rfl #[.int .i64 1, .int .i64 (u : Nat), .int .i64 1, .int .i64 (v : Nat), .int .i64 1, .int .i64 (t : Nat)] rfl _ _ hz214 6 (by kernel_rfl) rfl rfl (by intro x hx; simp at hx; repeat (first | (subst hx; rfl) | (rcases hx with hx | hx; (subst hx; rfl)))) (fun Wz217 pz218 => ?_)
              replace hB := pz218.below hB (by omega)
              replace hz5 := pz218.other hz5 (by omega)
              replace hz11 := pz218.other hz11 (by omega)
              replace hz18 := pz218.other hz18 (by omega)
              replace hz191 := pz218.other hz191 (by omega)
              replace hz214 : At Wz217 Wz199.heap.size (.cells #[.int .i64 1, .int .i64 (u : Nat), .int .i64 1, .int .i64 (v : Nat), .int .i64 1, .int .i64 (t : Nat)] 75 (0, 0)) := pz218.at_
              refine hK' _ _ ⟨hB, hz5, hz11⟩ (fun _ => trivial) ?_
              clear hK' K' pz218
              refine y_done (by kernel_rfl) ?_ _
              go_wp2_with fail
              go_meet
              exact ⟨_, _, rfl, rfl, by omega, by omega, by omega, by omega, by omega, by omega, by omega, hz191, hz214, hB, hz5, hz11, hz18⟩
            · have lz219 := hB.size
              have lz220 := hz5.lt
              have lz221 := hz11.lt
              have lz222 := hz18.lt
              have lz223 := hz191.lt
              refine wp_new (some 6) rfl (alYb__3_impl_shape rfl) (fun Wz224 nnz225 => ?_)
              have bz226 := nnz225.below (Below.refl _ _) (Nat.le_refl _)
              replace hB := below_after hB bz226
              replace hz5 := hz5.after bz226
              replace hz11 := hz11.after bz226
              replace hz18 := hz18.after bz226
              replace hz191 := hz191.after bz226
              have hz227 : At Wz224 Wz192.heap.size (.cells #[.int .i64 0, .int .i64 0, .int .i64 0, .int .i64 0, .int .i64 0, .int .i64 0] 75 (0, 0)) := nnz225.at_
              refine hK' _ _ ⟨hB, hz5, hz11⟩ (fun _ => trivial) ?_
              clear hK' K' nnz225 bz226
              go_frame
              refine y_oper 5 (by kernel_rfl) rfl rfl (fun K' hK' => ?_)
              have lz230 := hB.size
              have lz231 := hz5.lt
              have lz232 := hz11.lt
              have lz233 := hz18.lt
              have lz234 := hz191.lt
              have lz235 := hz227.lt
              refine wp_call1 (some 17) rfl 56 _ _ rfl (fun args w => by kernel_rfl) _ rfl _ (formShapes_c _ _ _ _) (fun e Wz228 h => ?_)
              obtain ⟨rfl, bz229⟩ := h
              replace hB := below_after hB bz229
              replace hz5 := hz5.after bz229
              replace hz11 := hz11.after bz229
              replace hz18 := hz18.after bz229
              replace hz191 := hz191.after bz229
              replace hz227 := hz227.after bz229
              clear bz229
              refine ⟨_, rfl, ?_⟩
              refine hK' _ _ ⟨hB, hz5, hz11⟩ (fun _ => trivial) ?_
              clear hK' K'
              go_frame
              refine y_oper 8 (by kernel_rfl) rfl rfl (fun K' hK' => ?_)
              refine wp_store_all 75 _ _ rfl rfl Wz26.heap.size rfl #[.int .i64 1, .int .i64 (n : Nat), .int .i64 1, .int .i64 (m : Nat), .int .i64 1, .int .i64 (k : Nat)] rfl _ _ hz191 6 (by kernel_rfl) rfl rfl (by intro x hx; simp at hx; repeat (first | (subst hx; rfl) | (rcases hx with hx | hx; (subst hx; rfl)))) (fun Wz236 pz237 => ?_)
              replace hB := pz237.below hB (by omega)
              replace hz5 := pz237.other hz5 (by omega)
              replace hz11 := pz237.other hz11 (by omega)
              replace hz18 := pz237.other hz18 (by omega)
              replace hz227 := pz237.other hz227 (by omega)
              replace hz191 : At Wz236 Wz26.heap.size (.cells #[.int .i64 1, .int .i64 (n : Nat), .int .i64 1, .int .i64 (m : Nat), .int .i64 1, .int .i64 (k : Nat)] 75 (0, 0)) := pz237.at_
              refine hK' _ _ ⟨hB, hz5, hz11⟩ (fun _ => trivial) ?_
              clear hK' K' pz237
              refine y_oper 9 (by kernel_rfl) rfl rfl (fun K' hK' => ?_)
              refine wp_store_all 75 _ _ rfl rfl Wz192.heap.size rfl #[.int .i64 1, .int .i64 (u : Nat), .int .i64 1, .int .i64 (v : Nat), .int .i64 1, .int .i64 (t : Nat)] rfl _ _ hz227 6 (by kernel_rfl) rfl rfl (by intro x hx; simp at hx; repeat (first | (subst hx; rfl) | (rcases hx with hx | hx; (subst hx; rfl)))) (fun Wz238 pz239 => ?_)
              replace hB := pz239.below hB (by omega)
              replace hz5 := pz239.other hz5 (by omega)
              replace hz11 := pz239.other hz11 (by omega)
              replace hz18 := pz239.other hz18 (by omega)
              replace hz191 := pz239.other hz191 (by omega)
              replace hz227 : At Wz238 Wz192.heap.size (.cells #[.int .i64 1, .int .i64 (u : Nat), .int .i64 1, .int .i64 (v : Nat), .int .i64 1, .int .i64 (t : Nat)] 75 (0, 0)) := pz239.at_
              refine hK' _ _ ⟨hB, hz5, hz11⟩ (fun _ => trivial) ?_
              clear hK' K' pz239
              refine y_done (by kernel_rfl) ?_ _
              go_wp2_with fail
              go_meet
              exact ⟨_, _, rfl, rfl, by omega, by omega, by omega, by omega, by omega, by omega, by omega, hz191, hz227, hB, hz5, hz11, hz18⟩
          · have lz240 := hB.size
            have lz241 := hz5.lt
            have lz242 := hz11.lt
            have lz243 := hz18.lt
            have lz244 := hz191.lt
            refine wp_new (some 6) rfl (alYb__3_impl_shape rfl) (fun Wz245 nnz246 => ?_)
            have bz247 := nnz246.below (Below.refl _ _) (Nat.le_refl _)
            replace hB := below_after hB bz247
            replace hz5 := hz5.after bz247
            replace hz11 := hz11.after bz247
            replace hz18 := hz18.after bz247
            replace hz191 := hz191.after bz247
            have hz248 : At Wz245 Wz188.heap.size (.cells #[.int .i64 0, .int .i64 0, .int .i64 0, .int .i64 0, .int .i64 0, .int .i64 0] 75 (0, 0)) := nnz246.at_
            refine hK' _ _ ⟨hB, hz5, hz11⟩ (fun _ => trivial) ?_
            clear hK' K' nnz246 bz247
            go_frame
            refine y_oper 4 (by kernel_rfl) rfl rfl (fun K' hK' => ?_)
            have lz251 := hB.size
            have lz252 := hz5.lt
            have lz253 := hz11.lt
            have lz254 := hz18.lt
            have lz255 := hz191.lt
            have lz256 := hz248.lt
            refine wp_call1 (some 16) rfl 27 _ _ rfl (fun args w => by kernel_rfl) _ rfl _ (mSides_c _ _ _ _ _ _) (fun e Wz249 h => ?_)
            obtain ⟨rfl, bz250⟩ := h
            replace hB := below_after hB bz250
            replace hz5 := hz5.after bz250
            replace hz11 := hz11.after bz250
            replace hz18 := hz18.after bz250
            replace hz191 := hz191.after bz250
            replace hz248 := hz248.after bz250
            clear bz250
            refine ⟨_, rfl, ?_⟩
            refine hK' _ _ ⟨hB, hz5, hz11⟩ (fun _ => trivial) ?_
            clear hK' K'
            go_frame
            refine y_oper 5 (by kernel_rfl) rfl rfl (fun K' hK' => ?_)
            have lz259 := hB.size
            have lz260 := hz5.lt
            have lz261 := hz11.lt
            have lz262 := hz18.lt
            have lz263 := hz191.lt
            have lz264 := hz248.lt
            refine wp_call1 (some 17) rfl 56 _ _ rfl (fun args w => by kernel_rfl) _ rfl _ (formShapes_c _ _ _ _) (fun e Wz257 h => ?_)
            obtain ⟨rfl, bz258⟩ := h
            replace hB := below_after hB bz258
            replace hz5 := hz5.after bz258
            replace hz11 := hz11.after bz258
            replace hz18 := hz18.after bz258
            replace hz191 := hz191.after bz258
            replace hz248 := hz248.after bz258
            clear bz258
            refine ⟨_, rfl, ?_⟩
            refine hK' _ _ ⟨hB, hz5, hz11⟩ (fun _ => trivial) ?_
            clear hK' K'
            go_frame
            refine y_oper 8 (by kernel_rfl) rfl rfl (fun K' hK' => ?_)
            refine wp_store_all 75 _ _ rfl rfl Wz26.heap.size rfl #[.int .i64 1, .int .i64 (n : Nat), .int .i64 1, .int .i64 (m : Nat), .int .i64 1, .int .i64 (k : Nat)] rfl _ _ hz191 6 (by kernel_rfl) rfl rfl (by intro x hx; simp at hx; repeat (first | (subst hx; rfl) | (rcases hx with hx | hx; (subst hx; rfl)))) (fun Wz265 pz266 => ?_)
            replace hB := pz266.below hB (by omega)
            replace hz5 := pz266.other hz5 (by omega)
            replace hz11 := pz266.other hz11 (by omega)
            replace hz18 := pz266.other hz18 (by omega)
            replace hz248 := pz266.other hz248 (by omega)
            replace hz191 : At Wz265 Wz26.heap.size (.cells #[.int .i64 1, .int .i64 (n : Nat), .int .i64 1, .int .i64 (m : Nat), .int .i64 1, .int .i64 (k : Nat)] 75 (0, 0)) := pz266.at_
            refine hK' _ _ ⟨hB, hz5, hz11⟩ (fun _ => trivial) ?_
            clear hK' K' pz266
            refine y_oper 9 (by kernel_rfl) rfl rfl (fun K' hK' => ?_)
            refine wp_store_all 75 _ _ rfl rfl Wz188.heap.size rfl #[.int .i64 1, .int .i64 (u : Nat), .int .i64 1, .int .i64 (v : Nat), .int .i64 1, .int .i64 (t : Nat)] rfl _ _ hz248 6 (by kernel_rfl) rfl rfl (by intro x hx; simp at hx; repeat (first | (subst hx; rfl) | (rcases hx with hx | hx; (subst hx; rfl)))) (fun Wz267 pz268 => ?_)
            replace hB := pz268.below hB (by omega)
            replace hz5 := pz268.other hz5 (by omega)
            replace hz11 := pz268.other hz11 (by omega)
            replace hz18 := pz268.other hz18 (by omega)
            replace hz191 := pz268.other hz191 (by omega)
            replace hz248 : At Wz267 Wz188.heap.size (.cells #[.int .i64 1, .int .i64 (u : Nat), .int .i64 1, .int .i64 (v : Nat), .int .i64 1, .int .i64 (t : Nat)] 75 (0, 0)) := pz268.at_
            refine hK' _ _ ⟨hB, hz5, hz11⟩ (fun _ => trivial) ?_
            clear hK' K' pz268
            refine y_done (by kernel_rfl) ?_ _
            go_wp2_with fail
            go_meet
            exact ⟨_, _, rfl, rfl, by omega, by omega, by omega, by omega, by omega, by omega, by omega, hz191, hz248, hB, hz5, hz11, hz18⟩
        · have lz269 := hB.size
          have lz270 := hz5.lt
          have lz271 := hz11.lt
          have lz272 := hz18.lt
          refine wp_new (some 6) rfl (alYb__3_impl_shape rfl) (fun Wz273 nnz274 => ?_)
          have bz275 := nnz274.below (Below.refl _ _) (Nat.le_refl _)
          replace hB := below_after hB bz275
          replace hz5 := hz5.after bz275
          replace hz11 := hz11.after bz275
          replace hz18 := hz18.after bz275
          have hz276 : At Wz273 Wz26.heap.size (.cells #[.int .i64 0, .int .i64 0, .int .i64 0, .int .i64 0, .int .i64 0, .int .i64 0] 75 (0, 0)) := nnz274.at_
          refine hK' _ _ ⟨hB, hz5, hz11⟩ (fun _ => trivial) ?_
          clear hK' K' nnz274 bz275
          go_frame
          refine y_two 4 6 (by kernel_rfl) rfl rfl rfl rfl (fun K' hK' => ?_) (fun K' hK' => ?_)
          · have lz279 := hB.size
            have lz280 := hz5.lt
            have lz281 := hz11.lt
            have lz282 := hz18.lt
            have lz283 := hz276.lt
            refine wp_call1 (some 16) rfl 27 _ _ rfl (fun args w => by kernel_rfl) _ rfl _ (mSides_c _ _ _ _ _ _) (fun e Wz277 h => ?_)
            obtain ⟨rfl, bz278⟩ := h
            replace hB := below_after hB bz278
            replace hz5 := hz5.after bz278
            replace hz11 := hz11.after bz278
            replace hz18 := hz18.after bz278
            replace hz276 := hz276.after bz278
            clear bz278
            refine ⟨_, rfl, ?_⟩
            refine hK' _ _ ⟨hB, hz5, hz11⟩ (fun _ => trivial) ?_
            clear hK' K'
            go_frame
            refine y_two 5 6 (by kernel_rfl) rfl rfl rfl rfl (fun K' hK' => ?_) (fun K' hK' => ?_)
            · have lz286 := hB.size
              have lz287 := hz5.lt
              have lz288 := hz11.lt
              have lz289 := hz18.lt
              have lz290 := hz276.lt
              refine wp_call1 (some 17) rfl 56 _ _ rfl (fun args w => by kernel_rfl) _ rfl _ (formShapes_c _ _ _ _) (fun e Wz284 h => ?_)
              obtain ⟨rfl, bz285⟩ := h
              replace hB := below_after hB bz285
              replace hz5 := hz5.after bz285
              replace hz11 := hz11.after bz285
              replace hz18 := hz18.after bz285
              replace hz276 := hz276.after bz285
              clear bz285
              refine ⟨_, rfl, ?_⟩
              refine hK' _ _ ⟨hB, hz5, hz11⟩ (fun _ => trivial) ?_
              clear hK' K'
              go_frame
              refine y_oper 6 (by kernel_rfl) rfl rfl (fun K' hK' => ?_)
              have lz291 := hB.size
              have lz292 := hz5.lt
              have lz293 := hz11.lt
              have lz294 := hz18.lt
              have lz295 := hz276.lt
              refine wp_new (some 5) rfl (alYb__3_impl_shape rfl) (fun Wz296 nnz297 => ?_)
              have bz298 := nnz297.below (Below.refl _ _) (Nat.le_refl _)
              replace hB := below_after hB bz298
              replace hz5 := hz5.after bz298
              replace hz11 := hz11.after bz298
              replace hz18 := hz18.after bz298
              replace hz276 := hz276.after bz298
              have hz299 : At Wz296 Wz284.heap.size (.cells #[.int .i64 0, .int .i64 0, .int .i64 0, .int .i64 0, .int .i64 0, .int .i64 0] 75 (0, 0)) := nnz297.at_
              refine hK' _ _ ⟨hB, hz5, hz11⟩ (fun _ => trivial) ?_
              clear hK' K' nnz297 bz298
              go_frame
              refine y_oper 8 (by kernel_rfl) rfl rfl (fun K' hK' => ?_)
              refine wp_store_all 75 _ _ rfl rfl Wz284.heap.size rfl #[.int .i64 1, .int .i64 (n : Nat), .int .i64 1, .int .i64 (m : Nat), .int .i64 1, .int .i64 (k : Nat)] rfl _ _ hz299 6 (by kernel_rfl) rfl rfl (by intro x hx; simp at hx; repeat (first | (subst hx; rfl) | (rcases hx with hx | hx; (subst hx; rfl)))) (fun Wz300 pz301 => ?_)
              replace hB := pz301.below hB (by omega)
              replace hz5 := pz301.other hz5 (by omega)
              replace hz11 := pz301.other hz11 (by omega)
              replace hz18 := pz301.other hz18 (by omega)
              replace hz276 := pz301.other hz276 (by omega)
              replace hz299 : At Wz300 Wz284.heap.size (.cells #[.int .i64 1, .int .i64 (n : Nat), .int .i64 1, .int .i64 (m : Nat), .int .i64 1, .int .i64 (k : Nat)] 75 (0, 0)) := pz301.at_
              refine hK' _ _ ⟨hB, hz5, hz11⟩ (fun _ => trivial) ?_
              clear hK' K' pz301
              refine y_oper 9 (by kernel_rfl) rfl rfl (fun K' hK' => ?_)
              refine wp_store_all 75 _ _ rfl rfl Wz26.heap.size rfl #[.int .i64 1, .int .i64 (u : Nat), .int .i64 1, .int .i64 (v : Nat), .int .i64 1, .int .i64 (t : Nat)] rfl _ _ hz276 6 (by kernel_rfl) rfl rfl (by intro x hx; simp at hx; repeat (first | (subst hx; rfl) | (rcases hx with hx | hx; (subst hx; rfl)))) (fun Wz302 pz303 => ?_)
              replace hB := pz303.below hB (by omega)
              replace hz5 := pz303.other hz5 (by omega)
              replace hz11 := pz303.other hz11 (by omega)
              replace hz18 := pz303.other hz18 (by omega)
              replace hz299 := pz303.other hz299 (by omega)
              replace hz276 : At Wz302 Wz26.heap.size (.cells #[.int .i64 1, .int .i64 (u : Nat), .int .i64 1, .int .i64 (v : Nat), .int .i64 1, .int .i64 (t : Nat)] 75 (0, 0)) := pz303.at_
              refine hK' _ _ ⟨hB, hz5, hz11⟩ (fun _ => trivial) ?_
              clear hK' K' pz303
              refine y_done (by kernel_rfl) ?_ _
              go_wp2_with fail
              go_meet
              exact ⟨_, _, rfl, rfl, by omega, by omega, by omega, by omega, by omega, by omega, by omega, hz299, hz276, hB, hz5, hz11, hz18⟩
            · have lz304 := hB.size
              have lz305 := hz5.lt
              have lz306 := hz11.lt
              have lz307 := hz18.lt
              have lz308 := hz276.lt
              refine wp_new (some 5) rfl (alYb__3_impl_shape rfl) (fun Wz309 nnz310 => ?_)
              have bz311 := nnz310.below (Below.refl _ _) (Nat.le_refl _)
              replace hB := below_after hB bz311
              replace hz5 := hz5.after bz311
              replace hz11 := hz11.after bz311
              replace hz18 := hz18.after bz311
              replace hz276 := hz276.after bz311
              have hz312 : At Wz309 Wz277.heap.size (.cells #[.int .i64 0, .int .i64 0, .int .i64 0, .int .i64 0, .int .i64 0, .int .i64 0] 75 (0, 0)) := nnz310.at_
              refine hK' _ _ ⟨hB, hz5, hz11⟩ (fun _ => trivial) ?_
              clear hK' K' nnz310 bz311
              go_frame
              refine y_oper 5 (by kernel_rfl) rfl rfl (fun K' hK' => ?_)
              have lz315 := hB.size
              have lz316 := hz5.lt
              have lz317 := hz11.lt
              have lz318 := hz18.lt
              have lz319 := hz276.lt
              have lz320 := hz312.lt
              refine wp_call1 (some 17) rfl 56 _ _ rfl (fun args w => by kernel_rfl) _ rfl _ (formShapes_c _ _ _ _) (fun e Wz313 h => ?_)
              obtain ⟨rfl, bz314⟩ := h
              replace hB := below_after hB bz314
              replace hz5 := hz5.after bz314
              replace hz11 := hz11.after bz314
              replace hz18 := hz18.after bz314
              replace hz276 := hz276.after bz314
              replace hz312 := hz312.after bz314
              clear bz314
              refine ⟨_, rfl, ?_⟩
              refine hK' _ _ ⟨hB, hz5, hz11⟩ (fun _ => trivial) ?_
              clear hK' K'
              go_frame
              refine y_oper 8 (by kernel_rfl) rfl rfl (fun K' hK' => ?_)
              refine wp_store_all 75 _ _ rfl rfl Wz277.heap.size rfl #[.int .i64 1, .int .i64 (n : Nat), .int .i64 1, .int .i64 (m : Nat), .int .i64 1, .int .i64 (k : Nat)] rfl _ _ hz312 6 (by kernel_rfl) rfl rfl (by intro x hx; simp at hx; repeat (first | (subst hx; rfl) | (rcases hx with hx | hx; (subst hx; rfl)))) (fun Wz321 pz322 => ?_)
              replace hB := pz322.below hB (by omega)
              replace hz5 := pz322.other hz5 (by omega)
              replace hz11 := pz322.other hz11 (by omega)
              replace hz18 := pz322.other hz18 (by omega)
              replace hz276 := pz322.other hz276 (by omega)
              replace hz312 : At Wz321 Wz277.heap.size (.cells #[.int .i64 1, .int .i64 (n : Nat), .int .i64 1, .int .i64 (m : Nat), .int .i64 1, .int .i64 (k : Nat)] 75 (0, 0)) := pz322.at_
              refine hK' _ _ ⟨hB, hz5, hz11⟩ (fun _ => trivial) ?_
              clear hK' K' pz322
              refine y_oper 9 (by kernel_rfl) rfl rfl (fun K' hK' => ?_)
              refine wp_store_all 75 _ _ rfl rfl Wz26.heap.size rfl #[.int .i64 1, .int .i64 (u : Nat), .int .i64 1, .int .i64 (v : Nat), .int .i64 1, .int .i64 (t : Nat)] rfl _ _ hz276 6 (by kernel_rfl) rfl rfl (by intro x hx; simp at hx; repeat (first | (subst hx; rfl) | (rcases hx with hx | hx; (subst hx; rfl)))) (fun Wz323 pz324 => ?_)
              replace hB := pz324.below hB (by omega)
              replace hz5 := pz324.other hz5 (by omega)
              replace hz11 := pz324.other hz11 (by omega)
              replace hz18 := pz324.other hz18 (by omega)
              replace hz312 := pz324.other hz312 (by omega)
              replace hz276 : At Wz323 Wz26.heap.size (.cells #[.int .i64 1, .int .i64 (u : Nat), .int .i64 1, .int .i64 (v : Nat), .int .i64 1, .int .i64 (t : Nat)] 75 (0, 0)) := pz324.at_
              refine hK' _ _ ⟨hB, hz5, hz11⟩ (fun _ => trivial) ?_
              clear hK' K' pz324
              refine y_done (by kernel_rfl) ?_ _
              go_wp2_with fail
              go_meet
              exact ⟨_, _, rfl, rfl, by omega, by omega, by omega, by omega, by omega, by omega, by omega, hz312, hz276, hB, hz5, hz11, hz18⟩
          · have lz325 := hB.size
            have lz326 := hz5.lt
            have lz327 := hz11.lt
            have lz328 := hz18.lt
            have lz329 := hz276.lt
            refine wp_new (some 5) rfl (alYb__3_impl_shape rfl) (fun Wz330 nnz331 => ?_)
            have bz332 := nnz331.below (Below.refl _ _) (Nat.le_refl _)
            replace hB := below_after hB bz332
            replace hz5 := hz5.after bz332
            replace hz11 := hz11.after bz332
            replace hz18 := hz18.after bz332
            replace hz276 := hz276.after bz332
            have hz333 : At Wz330 Wz273.heap.size (.cells #[.int .i64 0, .int .i64 0, .int .i64 0, .int .i64 0, .int .i64 0, .int .i64 0] 75 (0, 0)) := nnz331.at_
            refine hK' _ _ ⟨hB, hz5, hz11⟩ (fun _ => trivial) ?_
            clear hK' K' nnz331 bz332
            go_frame
            refine y_oper 4 (by kernel_rfl) rfl rfl (fun K' hK' => ?_)
            have lz336 := hB.size
            have lz337 := hz5.lt
            have lz338 := hz11.lt
            have lz339 := hz18.lt
            have lz340 := hz276.lt
            have lz341 := hz333.lt
            refine wp_call1 (some 16) rfl 27 _ _ rfl (fun args w => by kernel_rfl) _ rfl _ (mSides_c _ _ _ _ _ _) (fun e Wz334 h => ?_)
            obtain ⟨rfl, bz335⟩ := h
            replace hB := below_after hB bz335
            replace hz5 := hz5.after bz335
            replace hz11 := hz11.after bz335
            replace hz18 := hz18.after bz335
            replace hz276 := hz276.after bz335
            replace hz333 := hz333.after bz335
            clear bz335
            refine ⟨_, rfl, ?_⟩
            refine hK' _ _ ⟨hB, hz5, hz11⟩ (fun _ => trivial) ?_
            clear hK' K'
            go_frame
            refine y_oper 5 (by kernel_rfl) rfl rfl (fun K' hK' => ?_)
            have lz344 := hB.size
            have lz345 := hz5.lt
            have lz346 := hz11.lt
            have lz347 := hz18.lt
            have lz348 := hz276.lt
            have lz349 := hz333.lt
            refine wp_call1 (some 17) rfl 56 _ _ rfl (fun args w => by kernel_rfl) _ rfl _ (formShapes_c _ _ _ _) (fun e Wz342 h => ?_)
            obtain ⟨rfl, bz343⟩ := h
            replace hB := below_after hB bz343
            replace hz5 := hz5.after bz343
            replace hz11 := hz11.after bz343
            replace hz18 := hz18.after bz343
            replace hz276 := hz276.after bz343
            replace hz333 := hz333.after bz343
            clear bz343
            refine ⟨_, rfl, ?_⟩
            refine hK' _ _ ⟨hB, hz5, hz11⟩ (fun _ => trivial) ?_
            clear hK' K'
            go_frame
            refine y_oper 8 (by kernel_rfl) rfl rfl (fun K' hK' => ?_)
            refine wp_store_all 75 _ _ rfl rfl Wz273.heap.size rfl #[.int .i64 1, .int .i64 (n : Nat), .int .i64 1, .int .i64 (m : Nat), .int .i64 1, .int .i64 (k : Nat)] rfl _ _ hz333 6 (by kernel_rfl) rfl rfl (by intro x hx; simp at hx; repeat (first | (subst hx; rfl) | (rcases hx with hx | hx; (subst hx; rfl)))) (fun Wz350 pz351 => ?_)
            replace hB := pz351.below hB (by omega)
            replace hz5 := pz351.other hz5 (by omega)
            replace hz11 := pz351.other hz11 (by omega)
            replace hz18 := pz351.other hz18 (by omega)
            replace hz276 := pz351.other hz276 (by omega)
            replace hz333 : At Wz350 Wz273.heap.size (.cells #[.int .i64 1, .int .i64 (n : Nat), .int .i64 1, .int .i64 (m : Nat), .int .i64 1, .int .i64 (k : Nat)] 75 (0, 0)) := pz351.at_
            refine hK' _ _ ⟨hB, hz5, hz11⟩ (fun _ => trivial) ?_
            clear hK' K' pz351
            refine y_oper 9 (by kernel_rfl) rfl rfl (fun K' hK' => ?_)
            refine wp_store_all 75 _ _ rfl rfl Wz26.heap.size rfl #[.int .i64 1, .int .i64 (u : Nat), .int .i64 1, .int .i64 (v : Nat), .int .i64 1, .int .i64 (t : Nat)] rfl _ _ hz276 6 (by kernel_rfl) rfl rfl (by intro x hx; simp at hx; repeat (first | (subst hx; rfl) | (rcases hx with hx | hx; (subst hx; rfl)))) (fun Wz352 pz353 => ?_)
            replace hB := pz353.below hB (by omega)
            replace hz5 := pz353.other hz5 (by omega)
            replace hz11 := pz353.other hz11 (by omega)
            replace hz18 := pz353.other hz18 (by omega)
            replace hz333 := pz353.other hz333 (by omega)
            replace hz276 : At Wz352 Wz26.heap.size (.cells #[.int .i64 1, .int .i64 (u : Nat), .int .i64 1, .int .i64 (v : Nat), .int .i64 1, .int .i64 (t : Nat)] 75 (0, 0)) := pz353.at_
            refine hK' _ _ ⟨hB, hz5, hz11⟩ (fun _ => trivial) ?_
            clear hK' K' pz353
            refine y_done (by kernel_rfl) ?_ _
            go_wp2_with fail
            go_meet
            exact ⟨_, _, rfl, rfl, by omega, by omega, by omega, by omega, by omega, by omega, by omega, hz333, hz276, hB, hz5, hz11, hz18⟩
      · have lz354 := hB.size
        have lz355 := hz5.lt
        have lz356 := hz11.lt
        have lz357 := hz18.lt
        refine wp_new (some 5) rfl (alYb__3_impl_shape rfl) (fun Wz358 nnz359 => ?_)
        have bz360 := nnz359.below (Below.refl _ _) (Nat.le_refl _)
        replace hB := below_after hB bz360
        replace hz5 := hz5.after bz360
        replace hz11 := hz11.after bz360
        replace hz18 := hz18.after bz360
        have hz361 : At Wz358 Wz20.heap.size (.cells #[.int .i64 0, .int .i64 0, .int .i64 0, .int .i64 0, .int .i64 0, .int .i64 0] 75 (0, 0)) := nnz359.at_
        refine hK' _ _ ⟨hB, hz5, hz11⟩ (fun _ => trivial) ?_
        clear hK' K' nnz359 bz360
        go_frame
        refine y_two 2 7 (by kernel_rfl) rfl rfl rfl rfl (fun K' hK' => ?_) (fun K' hK' => ?_)
        · have lz364 := hB.size
          have lz365 := hz5.lt
          have lz366 := hz11.lt
          have lz367 := hz18.lt
          have lz368 := hz361.lt
          refine wp_call1 (some 14) rfl 56 _ _ rfl (fun args w => by kernel_rfl) _ rfl _ (formShapes_c _ _ _ _) (fun e Wz362 h => ?_)
          obtain ⟨rfl, bz363⟩ := h
          replace hB := below_after hB bz363
          replace hz5 := hz5.after bz363
          replace hz11 := hz11.after bz363
          replace hz18 := hz18.after bz363
          replace hz361 := hz361.after bz363
          clear bz363
          refine ⟨_, rfl, ?_⟩
          refine hK' _ _ ⟨hB, hz5, hz11⟩ (fun _ => trivial) ?_
          clear hK' K'
          go_frame
          refine y_two 4 7 (by kernel_rfl) rfl rfl rfl rfl (fun K' hK' => ?_) (fun K' hK' => ?_)
          · have lz371 := hB.size
            have lz372 := hz5.lt
            have lz373 := hz11.lt
            have lz374 := hz18.lt
            have lz375 := hz361.lt
            refine wp_call1 (some 16) rfl 27 _ _ rfl (fun args w => by kernel_rfl) _ rfl _ (mSides_c _ _ _ _ _ _) (fun e Wz369 h => ?_)
            obtain ⟨rfl, bz370⟩ := h
            replace hB := below_after hB bz370
            replace hz5 := hz5.after bz370
            replace hz11 := hz11.after bz370
            replace hz18 := hz18.after bz370
            replace hz361 := hz361.after bz370
            clear bz370
            refine ⟨_, rfl, ?_⟩
            refine hK' _ _ ⟨hB, hz5, hz11⟩ (fun _ => trivial) ?_
            clear hK' K'
            go_frame
            refine y_two 5 7 (by kernel_rfl) rfl rfl rfl rfl (fun K' hK' => ?_) (fun K' hK' => ?_)
            · have lz378 := hB.size
              have lz379 := hz5.lt
              have lz380 := hz11.lt
              have lz381 := hz18.lt
              have lz382 := hz361.lt
              refine wp_call1 (some 17) rfl 56 _ _ rfl (fun args w => by kernel_rfl) _ rfl _ (formShapes_c _ _ _ _) (fun e Wz376 h => ?_)
              obtain ⟨rfl, bz377⟩ := h
              replace hB := below_after hB bz377
              replace hz5 := hz5.after bz377
              replace hz11 := hz11.after bz377
              replace hz18 := hz18.after bz377
              replace hz361 := hz361.after bz377
              clear bz377
              refine ⟨_, rfl, ?_⟩
              refine hK' _ _ ⟨hB, hz5, hz11⟩ (fun _ => trivial) ?_
              clear hK' K'
              go_frame
              refine y_oper 7 (by kernel_rfl) rfl rfl (fun K' hK' => ?_)
              have lz383 := hB.size
              have lz384 := hz5.lt
              have lz385 := hz11.lt
              have lz386 := hz18.lt
              have lz387 := hz361.lt
              refine wp_new (some 6) rfl (alYb__3_impl_shape rfl) (fun Wz388 nnz389 => ?_)
              have bz390 := nnz389.below (Below.refl _ _) (Nat.le_refl _)
              replace hB := below_after hB bz390
              replace hz5 := hz5.after bz390
              replace hz11 := hz11.after bz390
              replace hz18 := hz18.after bz390
              replace hz361 := hz361.after bz390
              have hz391 : At Wz388 Wz376.heap.size (.cells #[.int .i64 0, .int .i64 0, .int .i64 0, .int .i64 0, .int .i64 0, .int .i64 0] 75 (0, 0)) := nnz389.at_
              refine hK' _ _ ⟨hB, hz5, hz11⟩ (fun _ => trivial) ?_
              clear hK' K' nnz389 bz390
              go_frame
              refine y_oper 8 (by kernel_rfl) rfl rfl (fun K' hK' => ?_)
              refine wp_store_all 75 _ _ rfl rfl Wz20.heap.size rfl #[.int .i64 1, .int .i64 (n : Nat), .int .i64 1, .int .i64 (m : Nat), .int .i64 1, .int .i64 (k : Nat)] rfl _ _ hz361 6 (by kernel_rfl) rfl rfl (by intro x hx; simp at hx; repeat (first | (subst hx; rfl) | (rcases hx with hx | hx; (subst hx; rfl)))) (fun Wz392 pz393 => ?_)
              replace hB := pz393.below hB (by omega)
              replace hz5 := pz393.other hz5 (by omega)
              replace hz11 := pz393.other hz11 (by omega)
              replace hz18 := pz393.other hz18 (by omega)
              replace hz391 := pz393.other hz391 (by omega)
              replace hz361 : At Wz392 Wz20.heap.size (.cells #[.int .i64 1, .int .i64 (n : Nat), .int .i64 1, .int .i64 (m : Nat), .int .i64 1, .int .i64 (k : Nat)] 75 (0, 0)) := pz393.at_
              refine hK' _ _ ⟨hB, hz5, hz11⟩ (fun _ => trivial) ?_
              clear hK' K' pz393
              refine y_oper 9 (by kernel_rfl) rfl rfl (fun K' hK' => ?_)
              refine wp_store_all 75 _ _ rfl rfl Wz376.heap.size rfl #[.int .i64 1, .int .i64 (u : Nat), .int .i64 1, .int .i64 (v : Nat), .int .i64 1, .int .i64 (t : Nat)] rfl _ _ hz391 6 (by kernel_rfl) rfl rfl (by intro x hx; simp at hx; repeat (first | (subst hx; rfl) | (rcases hx with hx | hx; (subst hx; rfl)))) (fun Wz394 pz395 => ?_)
              replace hB := pz395.below hB (by omega)
              replace hz5 := pz395.other hz5 (by omega)
              replace hz11 := pz395.other hz11 (by omega)
              replace hz18 := pz395.other hz18 (by omega)
              replace hz361 := pz395.other hz361 (by omega)
              replace hz391 : At Wz394 Wz376.heap.size (.cells #[.int .i64 1, .int .i64 (u : Nat), .int .i64 1, .int .i64 (v : Nat), .int .i64 1, .int .i64 (t : Nat)] 75 (0, 0)) := pz395.at_
              refine hK' _ _ ⟨hB, hz5, hz11⟩ (fun _ => trivial) ?_
              clear hK' K' pz395
              refine y_done (by kernel_rfl) ?_ _
              go_wp2_with fail
              go_meet
              exact ⟨_, _, rfl, rfl, by omega, by omega, by omega, by omega, by omega, by omega, by omega, hz361, hz391, hB, hz5, hz11, hz18⟩
            · have lz396 := hB.size
              have lz397 := hz5.lt
              have lz398 := hz11.lt
              have lz399 := hz18.lt
              have lz400 := hz361.lt
              refine wp_new (some 6) rfl (alYb__3_impl_shape rfl) (fun Wz401 nnz402 => ?_)
              have bz403 := nnz402.below (Below.refl _ _) (Nat.le_refl _)
              replace hB := below_after hB bz403
              replace hz5 := hz5.after bz403
              replace hz11 := hz11.after bz403
              replace hz18 := hz18.after bz403
              replace hz361 := hz361.after bz403
              have hz404 : At Wz401 Wz369.heap.size (.cells #[.int .i64 0, .int .i64 0, .int .i64 0, .int .i64 0, .int .i64 0, .int .i64 0] 75 (0, 0)) := nnz402.at_
              refine hK' _ _ ⟨hB, hz5, hz11⟩ (fun _ => trivial) ?_
              clear hK' K' nnz402 bz403
              go_frame
              refine y_oper 5 (by kernel_rfl) rfl rfl (fun K' hK' => ?_)
              have lz407 := hB.size
              have lz408 := hz5.lt
              have lz409 := hz11.lt
              have lz410 := hz18.lt
              have lz411 := hz361.lt
              have lz412 := hz404.lt
              refine wp_call1 (some 17) rfl 56 _ _ rfl (fun args w => by kernel_rfl) _ rfl _ (formShapes_c _ _ _ _) (fun e Wz405 h => ?_)
              obtain ⟨rfl, bz406⟩ := h
              replace hB := below_after hB bz406
              replace hz5 := hz5.after bz406
              replace hz11 := hz11.after bz406
              replace hz18 := hz18.after bz406
              replace hz361 := hz361.after bz406
              replace hz404 := hz404.after bz406
              clear bz406
              refine ⟨_, rfl, ?_⟩
              refine hK' _ _ ⟨hB, hz5, hz11⟩ (fun _ => trivial) ?_
              clear hK' K'
              go_frame
              refine y_oper 8 (by kernel_rfl) rfl rfl (fun K' hK' => ?_)
              refine wp_store_all 75 _ _ rfl rfl Wz20.heap.size rfl #[.int .i64 1, .int .i64 (n : Nat), .int .i64 1, .int .i64 (m : Nat), .int .i64 1, .int .i64 (k : Nat)] rfl _ _ hz361 6 (by kernel_rfl) rfl rfl (by intro x hx; simp at hx; repeat (first | (subst hx; rfl) | (rcases hx with hx | hx; (subst hx; rfl)))) (fun Wz413 pz414 => ?_)
              replace hB := pz414.below hB (by omega)
              replace hz5 := pz414.other hz5 (by omega)
              replace hz11 := pz414.other hz11 (by omega)
              replace hz18 := pz414.other hz18 (by omega)
              replace hz404 := pz414.other hz404 (by omega)
              replace hz361 : At Wz413 Wz20.heap.size (.cells #[.int .i64 1, .int .i64 (n : Nat), .int .i64 1, .int .i64 (m : Nat), .int .i64 1, .int .i64 (k : Nat)] 75 (0, 0)) := pz414.at_
              refine hK' _ _ ⟨hB, hz5, hz11⟩ (fun _ => trivial) ?_
              clear hK' K' pz414
              refine y_oper 9 (by kernel_rfl) rfl rfl (fun K' hK' => ?_)
              refine wp_store_all 75 _ _ rfl rfl Wz369.heap.size rfl #[.int .i64 1, .int .i64 (u : Nat), .int .i64 1, .int .i64 (v : Nat), .int .i64 1, .int .i64 (t : Nat)] rfl _ _ hz404 6 (by kernel_rfl) rfl rfl (by intro x hx; simp at hx; repeat (first | (subst hx; rfl) | (rcases hx with hx | hx; (subst hx; rfl)))) (fun Wz415 pz416 => ?_)
              replace hB := pz416.below hB (by omega)
              replace hz5 := pz416.other hz5 (by omega)
              replace hz11 := pz416.other hz11 (by omega)
              replace hz18 := pz416.other hz18 (by omega)
              replace hz361 := pz416.other hz361 (by omega)
              replace hz404 : At Wz415 Wz369.heap.size (.cells #[.int .i64 1, .int .i64 (u : Nat), .int .i64 1, .int .i64 (v : Nat), .int .i64 1, .int .i64 (t : Nat)] 75 (0, 0)) := pz416.at_
              refine hK' _ _ ⟨hB, hz5, hz11⟩ (fun _ => trivial) ?_
              clear hK' K' pz416
              refine y_done (by kernel_rfl) ?_ _
              go_wp2_with fail
              go_meet
              exact ⟨_, _, rfl, rfl, by omega, by omega, by omega, by omega, by omega, by omega, by omega, hz361, hz404, hB, hz5, hz11, hz18⟩
          · have lz417 := hB.size
            have lz418 := hz5.lt
            have lz419 := hz11.lt
            have lz420 := hz18.lt
            have lz421 := hz361.lt
            refine wp_new (some 6) rfl (alYb__3_impl_shape rfl) (fun Wz422 nnz423 => ?_)
            have bz424 := nnz423.below (Below.refl _ _) (Nat.le_refl _)
            replace hB := below_after hB bz424
            replace hz5 := hz5.after bz424
            replace hz11 := hz11.after bz424
            replace hz18 := hz18.after bz424
            replace hz361 := hz361.after bz424
            have hz425 : At Wz422 Wz362.heap.size (.cells #[.int .i64 0, .int .i64 0, .int .i64 0, .int .i64 0, .int .i64 0, .int .i64 0] 75 (0, 0)) := nnz423.at_
            refine hK' _ _ ⟨hB, hz5, hz11⟩ (fun _ => trivial) ?_
            clear hK' K' nnz423 bz424
            go_frame
            refine y_oper 4 (by kernel_rfl) rfl rfl (fun K' hK' => ?_)
            have lz428 := hB.size
            have lz429 := hz5.lt
            have lz430 := hz11.lt
            have lz431 := hz18.lt
            have lz432 := hz361.lt
            have lz433 := hz425.lt
            refine wp_call1 (some 16) rfl 27 _ _ rfl (fun args w => by kernel_rfl) _ rfl _ (mSides_c _ _ _ _ _ _) (fun e Wz426 h => ?_)
            obtain ⟨rfl, bz427⟩ := h
            replace hB := below_after hB bz427
            replace hz5 := hz5.after bz427
            replace hz11 := hz11.after bz427
            replace hz18 := hz18.after bz427
            replace hz361 := hz361.after bz427
            replace hz425 := hz425.after bz427
            clear bz427
            refine ⟨_, rfl, ?_⟩
            refine hK' _ _ ⟨hB, hz5, hz11⟩ (fun _ => trivial) ?_
            clear hK' K'
            go_frame
            refine y_oper 5 (by kernel_rfl) rfl rfl (fun K' hK' => ?_)
            have lz436 := hB.size
            have lz437 := hz5.lt
            have lz438 := hz11.lt
            have lz439 := hz18.lt
            have lz440 := hz361.lt
            have lz441 := hz425.lt
            refine wp_call1 (some 17) rfl 56 _ _ rfl (fun args w => by kernel_rfl) _ rfl _ (formShapes_c _ _ _ _) (fun e Wz434 h => ?_)
            obtain ⟨rfl, bz435⟩ := h
            replace hB := below_after hB bz435
            replace hz5 := hz5.after bz435
            replace hz11 := hz11.after bz435
            replace hz18 := hz18.after bz435
            replace hz361 := hz361.after bz435
            replace hz425 := hz425.after bz435
            clear bz435
            refine ⟨_, rfl, ?_⟩
            refine hK' _ _ ⟨hB, hz5, hz11⟩ (fun _ => trivial) ?_
            clear hK' K'
            go_frame
            refine y_oper 8 (by kernel_rfl) rfl rfl (fun K' hK' => ?_)
            refine wp_store_all 75 _ _ rfl rfl Wz20.heap.size rfl #[.int .i64 1, .int .i64 (n : Nat), .int .i64 1, .int .i64 (m : Nat), .int .i64 1, .int .i64 (k : Nat)] rfl _ _ hz361 6 (by kernel_rfl) rfl rfl (by intro x hx; simp at hx; repeat (first | (subst hx; rfl) | (rcases hx with hx | hx; (subst hx; rfl)))) (fun Wz442 pz443 => ?_)
            replace hB := pz443.below hB (by omega)
            replace hz5 := pz443.other hz5 (by omega)
            replace hz11 := pz443.other hz11 (by omega)
            replace hz18 := pz443.other hz18 (by omega)
            replace hz425 := pz443.other hz425 (by omega)
            replace hz361 : At Wz442 Wz20.heap.size (.cells #[.int .i64 1, .int .i64 (n : Nat), .int .i64 1, .int .i64 (m : Nat), .int .i64 1, .int .i64 (k : Nat)] 75 (0, 0)) := pz443.at_
            refine hK' _ _ ⟨hB, hz5, hz11⟩ (fun _ => trivial) ?_
            clear hK' K' pz443
            refine y_oper 9 (by kernel_rfl) rfl rfl (fun K' hK' => ?_)
            refine wp_store_all 75 _ _ rfl rfl Wz362.heap.size rfl #[.int .i64 1, .int .i64 (u : Nat), .int .i64 1, .int .i64 (v : Nat), .int .i64 1, .int .i64 (t : Nat)] rfl _ _ hz425 6 (by kernel_rfl) rfl rfl (by intro x hx; simp at hx; repeat (first | (subst hx; rfl) | (rcases hx with hx | hx; (subst hx; rfl)))) (fun Wz444 pz445 => ?_)
            replace hB := pz445.below hB (by omega)
            replace hz5 := pz445.other hz5 (by omega)
            replace hz11 := pz445.other hz11 (by omega)
            replace hz18 := pz445.other hz18 (by omega)
            replace hz361 := pz445.other hz361 (by omega)
            replace hz425 : At Wz444 Wz362.heap.size (.cells #[.int .i64 1, .int .i64 (u : Nat), .int .i64 1, .int .i64 (v : Nat), .int .i64 1, .int .i64 (t : Nat)] 75 (0, 0)) := pz445.at_
            refine hK' _ _ ⟨hB, hz5, hz11⟩ (fun _ => trivial) ?_
            clear hK' K' pz445
            refine y_done (by kernel_rfl) ?_ _
            go_wp2_with fail
            go_meet
            exact ⟨_, _, rfl, rfl, by omega, by omega, by omega, by omega, by omega, by omega, by omega, hz361, hz425, hB, hz5, hz11, hz18⟩
        · have lz446 := hB.size
          have lz447 := hz5.lt
          have lz448 := hz11.lt
          have lz449 := hz18.lt
          have lz450 := hz361.lt
          refine wp_new (some 6) rfl (alYb__3_impl_shape rfl) (fun Wz451 nnz452 => ?_)
          have bz453 := nnz452.below (Below.refl _ _) (Nat.le_refl _)
          replace hB := below_after hB bz453
          replace hz5 := hz5.after bz453
          replace hz11 := hz11.after bz453
          replace hz18 := hz18.after bz453
          replace hz361 := hz361.after bz453
          have hz454 : At Wz451 Wz358.heap.size (.cells #[.int .i64 0, .int .i64 0, .int .i64 0, .int .i64 0, .int .i64 0, .int .i64 0] 75 (0, 0)) := nnz452.at_
          refine hK' _ _ ⟨hB, hz5, hz11⟩ (fun _ => trivial) ?_
          clear hK' K' nnz452 bz453
          go_frame
          refine y_oper 2 (by kernel_rfl) rfl rfl (fun K' hK' => ?_)
          have lz457 := hB.size
          have lz458 := hz5.lt
          have lz459 := hz11.lt
          have lz460 := hz18.lt
          have lz461 := hz361.lt
          have lz462 := hz454.lt
          refine wp_call1 (some 14) rfl 56 _ _ rfl (fun args w => by kernel_rfl) _ rfl _ (formShapes_c _ _ _ _) (fun e Wz455 h => ?_)
          obtain ⟨rfl, bz456⟩ := h
          replace hB := below_after hB bz456
          replace hz5 := hz5.after bz456
          replace hz11 := hz11.after bz456
          replace hz18 := hz18.after bz456
          replace hz361 := hz361.after bz456
          replace hz454 := hz454.after bz456
          clear bz456
          refine ⟨_, rfl, ?_⟩
          refine hK' _ _ ⟨hB, hz5, hz11⟩ (fun _ => trivial) ?_
          clear hK' K'
          go_frame
          refine y_oper 4 (by kernel_rfl) rfl rfl (fun K' hK' => ?_)
          have lz465 := hB.size
          have lz466 := hz5.lt
          have lz467 := hz11.lt
          have lz468 := hz18.lt
          have lz469 := hz361.lt
          have lz470 := hz454.lt
          refine wp_call1 (some 16) rfl 27 _ _ rfl (fun args w => by kernel_rfl) _ rfl _ (mSides_c _ _ _ _ _ _) (fun e Wz463 h => ?_)
          obtain ⟨rfl, bz464⟩ := h
          replace hB := below_after hB bz464
          replace hz5 := hz5.after bz464
          replace hz11 := hz11.after bz464
          replace hz18 := hz18.after bz464
          replace hz361 := hz361.after bz464
          replace hz454 := hz454.after bz464
          clear bz464
          refine ⟨_, rfl, ?_⟩
          refine hK' _ _ ⟨hB, hz5, hz11⟩ (fun _ => trivial) ?_
          clear hK' K'
          go_frame
          refine y_oper 5 (by kernel_rfl) rfl rfl (fun K' hK' => ?_)
          have lz473 := hB.size
          have lz474 := hz5.lt
          have lz475 := hz11.lt
          have lz476 := hz18.lt
          have lz477 := hz361.lt
          have lz478 := hz454.lt
          refine wp_call1 (some 17) rfl 56 _ _ rfl (fun args w => by kernel_rfl) _ rfl _ (formShapes_c _ _ _ _) (fun e Wz471 h => ?_)
          obtain ⟨rfl, bz472⟩ := h
          replace hB := below_after hB bz472
          replace hz5 := hz5.after bz472
          replace hz11 := hz11.after bz472
          replace hz18 := hz18.after bz472
          replace hz361 := hz361.after bz472
          replace hz454 := hz454.after bz472
          clear bz472
          refine ⟨_, rfl, ?_⟩
          refine hK' _ _ ⟨hB, hz5, hz11⟩ (fun _ => trivial) ?_
          clear hK' K'
          go_frame
          refine y_oper 8 (by kernel_rfl) rfl rfl (fun K' hK' => ?_)
          refine wp_store_all 75 _ _ rfl rfl Wz20.heap.size rfl #[.int .i64 1, .int .i64 (n : Nat), .int .i64 1, .int .i64 (m : Nat), .int .i64 1, .int .i64 (k : Nat)] rfl _ _ hz361 6 (by kernel_rfl) rfl rfl (by intro x hx; simp at hx; repeat (first | (subst hx; rfl) | (rcases hx with hx | hx; (subst hx; rfl)))) (fun Wz479 pz480 => ?_)
          replace hB := pz480.below hB (by omega)
          replace hz5 := pz480.other hz5 (by omega)
          replace hz11 := pz480.other hz11 (by omega)
          replace hz18 := pz480.other hz18 (by omega)
          replace hz454 := pz480.other hz454 (by omega)
          replace hz361 : At Wz479 Wz20.heap.size (.cells #[.int .i64 1, .int .i64 (n : Nat), .int .i64 1, .int .i64 (m : Nat), .int .i64 1, .int .i64 (k : Nat)] 75 (0, 0)) := pz480.at_
          refine hK' _ _ ⟨hB, hz5, hz11⟩ (fun _ => trivial) ?_
          clear hK' K' pz480
          refine y_oper 9 (by kernel_rfl) rfl rfl (fun K' hK' => ?_)
          refine wp_store_all 75 _ _ rfl rfl Wz358.heap.size rfl #[.int .i64 1, .int .i64 (u : Nat), .int .i64 1, .int .i64 (v : Nat), .int .i64 1, .int .i64 (t : Nat)] rfl _ _ hz454 6 (by kernel_rfl) rfl rfl (by intro x hx; simp at hx; repeat (first | (subst hx; rfl) | (rcases hx with hx | hx; (subst hx; rfl)))) (fun Wz481 pz482 => ?_)
          replace hB := pz482.below hB (by omega)
          replace hz5 := pz482.other hz5 (by omega)
          replace hz11 := pz482.other hz11 (by omega)
          replace hz18 := pz482.other hz18 (by omega)
          replace hz361 := pz482.other hz361 (by omega)
          replace hz454 : At Wz481 Wz358.heap.size (.cells #[.int .i64 1, .int .i64 (u : Nat), .int .i64 1, .int .i64 (v : Nat), .int .i64 1, .int .i64 (t : Nat)] 75 (0, 0)) := pz482.at_
          refine hK' _ _ ⟨hB, hz5, hz11⟩ (fun _ => trivial) ?_
          clear hK' K' pz482
          refine y_done (by kernel_rfl) ?_ _
          go_wp2_with fail
          go_meet
          exact ⟨_, _, rfl, rfl, by omega, by omega, by omega, by omega, by omega, by omega, by omega, hz361, hz454, hB, hz5, hz11, hz18⟩
      · have lz483 := hB.size
        have lz484 := hz5.lt
        have lz485 := hz11.lt
        have lz486 := hz18.lt
        refine wp_new (some 6) rfl (alYb__3_impl_shape rfl) (fun Wz487 nnz488 => ?_)
        have bz489 := nnz488.below (Below.refl _ _) (Nat.le_refl _)
        replace hB := below_after hB bz489
        replace hz5 := hz5.after bz489
        replace hz11 := hz11.after bz489
        replace hz18 := hz18.after bz489
        have hz490 : At Wz487 Wz20.heap.size (.cells #[.int .i64 0, .int .i64 0, .int .i64 0, .int .i64 0, .int .i64 0, .int .i64 0] 75 (0, 0)) := nnz488.at_
        refine hK' _ _ ⟨hB, hz5, hz11⟩ (fun _ => trivial) ?_
        clear hK' K' nnz488 bz489
        go_frame
        refine y_two 2 6 (by kernel_rfl) rfl rfl rfl rfl (fun K' hK' => ?_) (fun K' hK' => ?_)
        · have lz493 := hB.size
          have lz494 := hz5.lt
          have lz495 := hz11.lt
          have lz496 := hz18.lt
          have lz497 := hz490.lt
          refine wp_call1 (some 14) rfl 56 _ _ rfl (fun args w => by kernel_rfl) _ rfl _ (formShapes_c _ _ _ _) (fun e Wz491 h => ?_)
          obtain ⟨rfl, bz492⟩ := h
          replace hB := below_after hB bz492
          replace hz5 := hz5.after bz492
          replace hz11 := hz11.after bz492
          replace hz18 := hz18.after bz492
          replace hz490 := hz490.after bz492
          clear bz492
          refine ⟨_, rfl, ?_⟩
          refine hK' _ _ ⟨hB, hz5, hz11⟩ (fun _ => trivial) ?_
          clear hK' K'
          go_frame
          refine y_two 4 6 (by kernel_rfl) rfl rfl rfl rfl (fun K' hK' => ?_) (fun K' hK' => ?_)
          · have lz500 := hB.size
            have lz501 := hz5.lt
            have lz502 := hz11.lt
            have lz503 := hz18.lt
            have lz504 := hz490.lt
            refine wp_call1 (some 16) rfl 27 _ _ rfl (fun args w => by kernel_rfl) _ rfl _ (mSides_c _ _ _ _ _ _) (fun e Wz498 h => ?_)
            obtain ⟨rfl, bz499⟩ := h
            replace hB := below_after hB bz499
            replace hz5 := hz5.after bz499
            replace hz11 := hz11.after bz499
            replace hz18 := hz18.after bz499
            replace hz490 := hz490.after bz499
            clear bz499
            refine ⟨_, rfl, ?_⟩
            refine hK' _ _ ⟨hB, hz5, hz11⟩ (fun _ => trivial) ?_
            clear hK' K'
            go_frame
            refine y_two 5 6 (by kernel_rfl) rfl rfl rfl rfl (fun K' hK' => ?_) (fun K' hK' => ?_)
            · have lz507 := hB.size
              have lz508 := hz5.lt
              have lz509 := hz11.lt
              have lz510 := hz18.lt
              have lz511 := hz490.lt
              refine wp_call1 (some 17) rfl 56 _ _ rfl (fun args w => by kernel_rfl) _ rfl _ (formShapes_c _ _ _ _) (fun e Wz505 h => ?_)
              obtain ⟨rfl, bz506⟩ := h
              replace hB := below_after hB bz506
              replace hz5 := hz5.after bz506
              replace hz11 := hz11.after bz506
              replace hz18 := hz18.after bz506
              replace hz490 := hz490.after bz506
              clear bz506
              refine ⟨_, rfl, ?_⟩
              refine hK' _ _ ⟨hB, hz5, hz11⟩ (fun _ => trivial) ?_
              clear hK' K'
              go_frame
              refine y_oper 6 (by kernel_rfl) rfl rfl (fun K' hK' => ?_)
              have lz512 := hB.size
              have lz513 := hz5.lt
              have lz514 := hz11.lt
              have lz515 := hz18.lt
              have lz516 := hz490.lt
              refine wp_new (some 5) rfl (alYb__3_impl_shape rfl) (fun Wz517 nnz518 => ?_)
              have bz519 := nnz518.below (Below.refl _ _) (Nat.le_refl _)
              replace hB := below_after hB bz519
              replace hz5 := hz5.after bz519
              replace hz11 := hz11.after bz519
              replace hz18 := hz18.after bz519
              replace hz490 := hz490.after bz519
              have hz520 : At Wz517 Wz505.heap.size (.cells #[.int .i64 0, .int .i64 0, .int .i64 0, .int .i64 0, .int .i64 0, .int .i64 0] 75 (0, 0)) := nnz518.at_
              refine hK' _ _ ⟨hB, hz5, hz11⟩ (fun _ => trivial) ?_
              clear hK' K' nnz518 bz519
              go_frame
              refine y_oper 8 (by kernel_rfl) rfl rfl (fun K' hK' => ?_)
              refine wp_store_all 75 _ _ rfl rfl Wz505.heap.size rfl #[.int .i64 1, .int .i64 (n : Nat), .int .i64 1, .int .i64 (m : Nat), .int .i64 1, .int .i64 (k : Nat)] rfl _ _ hz520 6 (by kernel_rfl) rfl rfl (by intro x hx; simp at hx; repeat (first | (subst hx; rfl) | (rcases hx with hx | hx; (subst hx; rfl)))) (fun Wz521 pz522 => ?_)
              replace hB := pz522.below hB (by omega)
              replace hz5 := pz522.other hz5 (by omega)
              replace hz11 := pz522.other hz11 (by omega)
              replace hz18 := pz522.other hz18 (by omega)
              replace hz490 := pz522.other hz490 (by omega)
              replace hz520 : At Wz521 Wz505.heap.size (.cells #[.int .i64 1, .int .i64 (n : Nat), .int .i64 1, .int .i64 (m : Nat), .int .i64 1, .int .i64 (k : Nat)] 75 (0, 0)) := pz522.at_
              refine hK' _ _ ⟨hB, hz5, hz11⟩ (fun _ => trivial) ?_
              clear hK' K' pz522
              refine y_oper 9 (by kernel_rfl) rfl rfl (fun K' hK' => ?_)
              refine wp_store_all 75 _ _ rfl rfl Wz20.heap.size rfl #[.int .i64 1, .int .i64 (u : Nat), .int .i64 1, .int .i64 (v : Nat), .int .i64 1, .int .i64 (t : Nat)] rfl _ _ hz490 6 (by kernel_rfl) rfl rfl (by intro x hx; simp at hx; repeat (first | (subst hx; rfl) | (rcases hx with hx | hx; (subst hx; rfl)))) (fun Wz523 pz524 => ?_)
              replace hB := pz524.below hB (by omega)
              replace hz5 := pz524.other hz5 (by omega)
              replace hz11 := pz524.other hz11 (by omega)
              replace hz18 := pz524.other hz18 (by omega)
              replace hz520 := pz524.other hz520 (by omega)
              replace hz490 : At Wz523 Wz20.heap.size (.cells #[.int .i64 1, .int .i64 (u : Nat), .int .i64 1, .int .i64 (v : Nat), .int .i64 1, .int .i64 (t : Nat)] 75 (0, 0)) := pz524.at_
              refine hK' _ _ ⟨hB, hz5, hz11⟩ (fun _ => trivial) ?_
              clear hK' K' pz524
              refine y_done (by kernel_rfl) ?_ _
              go_wp2_with fail
              go_meet
              exact ⟨_, _, rfl, rfl, by omega, by omega, by omega, by omega, by omega, by omega, by omega, hz520, hz490, hB, hz5, hz11, hz18⟩
            · have lz525 := hB.size
              have lz526 := hz5.lt
              have lz527 := hz11.lt
              have lz528 := hz18.lt
              have lz529 := hz490.lt
              refine wp_new (some 5) rfl (alYb__3_impl_shape rfl) (fun Wz530 nnz531 => ?_)
              have bz532 := nnz531.below (Below.refl _ _) (Nat.le_refl _)
              replace hB := below_after hB bz532
              replace hz5 := hz5.after bz532
              replace hz11 := hz11.after bz532
              replace hz18 := hz18.after bz532
              replace hz490 := hz490.after bz532
              have hz533 : At Wz530 Wz498.heap.size (.cells #[.int .i64 0, .int .i64 0, .int .i64 0, .int .i64 0, .int .i64 0, .int .i64 0] 75 (0, 0)) := nnz531.at_
              refine hK' _ _ ⟨hB, hz5, hz11⟩ (fun _ => trivial) ?_
              clear hK' K' nnz531 bz532
              go_frame
              refine y_oper 5 (by kernel_rfl) rfl rfl (fun K' hK' => ?_)
              have lz536 := hB.size
              have lz537 := hz5.lt
              have lz538 := hz11.lt
              have lz539 := hz18.lt
              have lz540 := hz490.lt
              have lz541 := hz533.lt
              refine wp_call1 (some 17) rfl 56 _ _ rfl (fun args w => by kernel_rfl) _ rfl _ (formShapes_c _ _ _ _) (fun e Wz534 h => ?_)
              obtain ⟨rfl, bz535⟩ := h
              replace hB := below_after hB bz535
              replace hz5 := hz5.after bz535
              replace hz11 := hz11.after bz535
              replace hz18 := hz18.after bz535
              replace hz490 := hz490.after bz535
              replace hz533 := hz533.after bz535
              clear bz535
              refine ⟨_, rfl, ?_⟩
              refine hK' _ _ ⟨hB, hz5, hz11⟩ (fun _ => trivial) ?_
              clear hK' K'
              go_frame
              refine y_oper 8 (by kernel_rfl) rfl rfl (fun K' hK' => ?_)
              refine wp_store_all 75 _ _ rfl rfl Wz498.heap.size rfl #[.int .i64 1, .int .i64 (n : Nat), .int .i64 1, .int .i64 (m : Nat), .int .i64 1, .int .i64 (k : Nat)] rfl _ _ hz533 6 (by kernel_rfl) rfl rfl (by intro x hx; simp at hx; repeat (first | (subst hx; rfl) | (rcases hx with hx | hx; (subst hx; rfl)))) (fun Wz542 pz543 => ?_)
              replace hB := pz543.below hB (by omega)
              replace hz5 := pz543.other hz5 (by omega)
              replace hz11 := pz543.other hz11 (by omega)
              replace hz18 := pz543.other hz18 (by omega)
              replace hz490 := pz543.other hz490 (by omega)
              replace hz533 : At Wz542 Wz498.heap.size (.cells #[.int .i64 1, .int .i64 (n : Nat), .int .i64 1, .int .i64 (m : Nat), .int .i64 1, .int .i64 (k : Nat)] 75 (0, 0)) := pz543.at_
              refine hK' _ _ ⟨hB, hz5, hz11⟩ (fun _ => trivial) ?_
              clear hK' K' pz543
              refine y_oper 9 (by kernel_rfl) rfl rfl (fun K' hK' => ?_)
              refine wp_store_all 75 _ _ rfl rfl Wz20.heap.size rfl #[.int .i64 1, .int .i64 (u : Nat), .int .i64 1, .int .i64 (v : Nat), .int .i64 1, .int .i64 (t : Nat)] rfl _ _ hz490 6 (by kernel_rfl) rfl rfl (by intro x hx; simp at hx; repeat (first | (subst hx; rfl) | (rcases hx with hx | hx; (subst hx; rfl)))) (fun Wz544 pz545 => ?_)
              replace hB := pz545.below hB (by omega)
              replace hz5 := pz545.other hz5 (by omega)
              replace hz11 := pz545.other hz11 (by omega)
              replace hz18 := pz545.other hz18 (by omega)
              replace hz533 := pz545.other hz533 (by omega)
              replace hz490 : At Wz544 Wz20.heap.size (.cells #[.int .i64 1, .int .i64 (u : Nat), .int .i64 1, .int .i64 (v : Nat), .int .i64 1, .int .i64 (t : Nat)] 75 (0, 0)) := pz545.at_
              refine hK' _ _ ⟨hB, hz5, hz11⟩ (fun _ => trivial) ?_
              clear hK' K' pz545
              refine y_done (by kernel_rfl) ?_ _
              go_wp2_with fail
              go_meet
              exact ⟨_, _, rfl, rfl, by omega, by omega, by omega, by omega, by omega, by omega, by omega, hz533, hz490, hB, hz5, hz11, hz18⟩
          · have lz546 := hB.size
            have lz547 := hz5.lt
            have lz548 := hz11.lt
            have lz549 := hz18.lt
            have lz550 := hz490.lt
            refine wp_new (some 5) rfl (alYb__3_impl_shape rfl) (fun Wz551 nnz552 => ?_)
            have bz553 := nnz552.below (Below.refl _ _) (Nat.le_refl _)
            replace hB := below_after hB bz553
            replace hz5 := hz5.after bz553
            replace hz11 := hz11.after bz553
            replace hz18 := hz18.after bz553
            replace hz490 := hz490.after bz553
            have hz554 : At Wz551 Wz491.heap.size (.cells #[.int .i64 0, .int .i64 0, .int .i64 0, .int .i64 0, .int .i64 0, .int .i64 0] 75 (0, 0)) := nnz552.at_
            refine hK' _ _ ⟨hB, hz5, hz11⟩ (fun _ => trivial) ?_
            clear hK' K' nnz552 bz553
            go_frame
            refine y_oper 4 (by kernel_rfl) rfl rfl (fun K' hK' => ?_)
            have lz557 := hB.size
            have lz558 := hz5.lt
            have lz559 := hz11.lt
            have lz560 := hz18.lt
            have lz561 := hz490.lt
            have lz562 := hz554.lt
            refine wp_call1 (some 16) rfl 27 _ _ rfl (fun args w => by kernel_rfl) _ rfl _ (mSides_c _ _ _ _ _ _) (fun e Wz555 h => ?_)
            obtain ⟨rfl, bz556⟩ := h
            replace hB := below_after hB bz556
            replace hz5 := hz5.after bz556
            replace hz11 := hz11.after bz556
            replace hz18 := hz18.after bz556
            replace hz490 := hz490.after bz556
            replace hz554 := hz554.after bz556
            clear bz556
            refine ⟨_, rfl, ?_⟩
            refine hK' _ _ ⟨hB, hz5, hz11⟩ (fun _ => trivial) ?_
            clear hK' K'
            go_frame
            refine y_oper 5 (by kernel_rfl) rfl rfl (fun K' hK' => ?_)
            have lz565 := hB.size
            have lz566 := hz5.lt
            have lz567 := hz11.lt
            have lz568 := hz18.lt
            have lz569 := hz490.lt
            have lz570 := hz554.lt
            refine wp_call1 (some 17) rfl 56 _ _ rfl (fun args w => by kernel_rfl) _ rfl _ (formShapes_c _ _ _ _) (fun e Wz563 h => ?_)
            obtain ⟨rfl, bz564⟩ := h
            replace hB := below_after hB bz564
            replace hz5 := hz5.after bz564
            replace hz11 := hz11.after bz564
            replace hz18 := hz18.after bz564
            replace hz490 := hz490.after bz564
            replace hz554 := hz554.after bz564
            clear bz564
            refine ⟨_, rfl, ?_⟩
            refine hK' _ _ ⟨hB, hz5, hz11⟩ (fun _ => trivial) ?_
            clear hK' K'
            go_frame
            refine y_oper 8 (by kernel_rfl) rfl rfl (fun K' hK' => ?_)
            refine wp_store_all 75 _ _ rfl rfl Wz491.heap.size rfl #[.int .i64 1, .int .i64 (n : Nat), .int .i64 1, .int .i64 (m : Nat), .int .i64 1, .int .i64 (k : Nat)] rfl _ _ hz554 6 (by kernel_rfl) rfl rfl (by intro x hx; simp at hx; repeat (first | (subst hx; rfl) | (rcases hx with hx | hx; (subst hx; rfl)))) (fun Wz571 pz572 => ?_)
            replace hB := pz572.below hB (by omega)
            replace hz5 := pz572.other hz5 (by omega)
            replace hz11 := pz572.other hz11 (by omega)
            replace hz18 := pz572.other hz18 (by omega)
            replace hz490 := pz572.other hz490 (by omega)
            replace hz554 : At Wz571 Wz491.heap.size (.cells #[.int .i64 1, .int .i64 (n : Nat), .int .i64 1, .int .i64 (m : Nat), .int .i64 1, .int .i64 (k : Nat)] 75 (0, 0)) := pz572.at_
            refine hK' _ _ ⟨hB, hz5, hz11⟩ (fun _ => trivial) ?_
            clear hK' K' pz572
            refine y_oper 9 (by kernel_rfl) rfl rfl (fun K' hK' => ?_)
            refine wp_store_all 75 _ _ rfl rfl Wz20.heap.size rfl #[.int .i64 1, .int .i64 (u : Nat), .int .i64 1, .int .i64 (v : Nat), .int .i64 1, .int .i64 (t : Nat)] rfl _ _ hz490 6 (by kernel_rfl) rfl rfl (by intro x hx; simp at hx; repeat (first | (subst hx; rfl) | (rcases hx with hx | hx; (subst hx; rfl)))) (fun Wz573 pz574 => ?_)
            replace hB := pz574.below hB (by omega)
            replace hz5 := pz574.other hz5 (by omega)
            replace hz11 := pz574.other hz11 (by omega)
            replace hz18 := pz574.other hz18 (by omega)
            replace hz554 := pz574.other hz554 (by omega)
            replace hz490 : At Wz573 Wz20.heap.size (.cells #[.int .i64 1, .int .i64 (u : Nat), .int .i64 1, .int .i64 (v : Nat), .int .i64 1, .int .i64 (t : Nat)] 75 (0, 0)) := pz574.at_
            refine hK' _ _ ⟨hB, hz5, hz11⟩ (fun _ => trivial) ?_
            clear hK' K' pz574
            refine y_done (by kernel_rfl) ?_ _
            go_wp2_with fail
            go_meet
            exact ⟨_, _, rfl, rfl, by omega, by omega, by omega, by omega, by omega, by omega, by omega, hz554, hz490, hB, hz5, hz11, hz18⟩
        · have lz575 := hB.size
          have lz576 := hz5.lt
          have lz577 := hz11.lt
          have lz578 := hz18.lt
          have lz579 := hz490.lt
          refine wp_new (some 5) rfl (alYb__3_impl_shape rfl) (fun Wz580 nnz581 => ?_)
          have bz582 := nnz581.below (Below.refl _ _) (Nat.le_refl _)
          replace hB := below_after hB bz582
          replace hz5 := hz5.after bz582
          replace hz11 := hz11.after bz582
          replace hz18 := hz18.after bz582
          replace hz490 := hz490.after bz582
          have hz583 : At Wz580 Wz487.heap.size (.cells #[.int .i64 0, .int .i64 0, .int .i64 0, .int .i64 0, .int .i64 0, .int .i64 0] 75 (0, 0)) := nnz581.at_
          refine hK' _ _ ⟨hB, hz5, hz11⟩ (fun _ => trivial) ?_
          clear hK' K' nnz581 bz582
          go_frame
          refine y_oper 2 (by kernel_rfl) rfl rfl (fun K' hK' => ?_)
          have lz586 := hB.size
          have lz587 := hz5.lt
          have lz588 := hz11.lt
          have lz589 := hz18.lt
          have lz590 := hz490.lt
          have lz591 := hz583.lt
          refine wp_call1 (some 14) rfl 56 _ _ rfl (fun args w => by kernel_rfl) _ rfl _ (formShapes_c _ _ _ _) (fun e Wz584 h => ?_)
          obtain ⟨rfl, bz585⟩ := h
          replace hB := below_after hB bz585
          replace hz5 := hz5.after bz585
          replace hz11 := hz11.after bz585
          replace hz18 := hz18.after bz585
          replace hz490 := hz490.after bz585
          replace hz583 := hz583.after bz585
          clear bz585
          refine ⟨_, rfl, ?_⟩
          refine hK' _ _ ⟨hB, hz5, hz11⟩ (fun _ => trivial) ?_
          clear hK' K'
          go_frame
          refine y_oper 4 (by kernel_rfl) rfl rfl (fun K' hK' => ?_)
          have lz594 := hB.size
          have lz595 := hz5.lt
          have lz596 := hz11.lt
          have lz597 := hz18.lt
          have lz598 := hz490.lt
          have lz599 := hz583.lt
          refine wp_call1 (some 16) rfl 27 _ _ rfl (fun args w => by kernel_rfl) _ rfl _ (mSides_c _ _ _ _ _ _) (fun e Wz592 h => ?_)
          obtain ⟨rfl, bz593⟩ := h
          replace hB := below_after hB bz593
          replace hz5 := hz5.after bz593
          replace hz11 := hz11.after bz593
          replace hz18 := hz18.after bz593
          replace hz490 := hz490.after bz593
          replace hz583 := hz583.after bz593
          clear bz593
          refine ⟨_, rfl, ?_⟩
          refine hK' _ _ ⟨hB, hz5, hz11⟩ (fun _ => trivial) ?_
          clear hK' K'
          go_frame
          refine y_oper 5 (by kernel_rfl) rfl rfl (fun K' hK' => ?_)
          have lz602 := hB.size
          have lz603 := hz5.lt
          have lz604 := hz11.lt
          have lz605 := hz18.lt
          have lz606 := hz490.lt
          have lz607 := hz583.lt
          refine wp_call1 (some 17) rfl 56 _ _ rfl (fun args w => by kernel_rfl) _ rfl _ (formShapes_c _ _ _ _) (fun e Wz600 h => ?_)
          obtain ⟨rfl, bz601⟩ := h
          replace hB := below_after hB bz601
          replace hz5 := hz5.after bz601
          replace hz11 := hz11.after bz601
          replace hz18 := hz18.after bz601
          replace hz490 := hz490.after bz601
          replace hz583 := hz583.after bz601
          clear bz601
          refine ⟨_, rfl, ?_⟩
          refine hK' _ _ ⟨hB, hz5, hz11⟩ (fun _ => trivial) ?_
          clear hK' K'
          go_frame
          refine y_oper 8 (by kernel_rfl) rfl rfl (fun K' hK' => ?_)
          refine wp_store_all 75 _ _ rfl rfl Wz487.heap.size rfl #[.int .i64 1, .int .i64 (n : Nat), .int .i64 1, .int .i64 (m : Nat), .int .i64 1, .int .i64 (k : Nat)] rfl _ _ hz583 6 (by kernel_rfl) rfl rfl (by intro x hx; simp at hx; repeat (first | (subst hx; rfl) | (rcases hx with hx | hx; (subst hx; rfl)))) (fun Wz608 pz609 => ?_)
          replace hB := pz609.below hB (by omega)
          replace hz5 := pz609.other hz5 (by omega)
          replace hz11 := pz609.other hz11 (by omega)
          replace hz18 := pz609.other hz18 (by omega)
          replace hz490 := pz609.other hz490 (by omega)
          replace hz583 : At Wz608 Wz487.heap.size (.cells #[.int .i64 1, .int .i64 (n : Nat), .int .i64 1, .int .i64 (m : Nat), .int .i64 1, .int .i64 (k : Nat)] 75 (0, 0)) := pz609.at_
          refine hK' _ _ ⟨hB, hz5, hz11⟩ (fun _ => trivial) ?_
          clear hK' K' pz609
          refine y_oper 9 (by kernel_rfl) rfl rfl (fun K' hK' => ?_)
          refine wp_store_all 75 _ _ rfl rfl Wz20.heap.size rfl #[.int .i64 1, .int .i64 (u : Nat), .int .i64 1, .int .i64 (v : Nat), .int .i64 1, .int .i64 (t : Nat)] rfl _ _ hz490 6 (by kernel_rfl) rfl rfl (by intro x hx; simp at hx; repeat (first | (subst hx; rfl) | (rcases hx with hx | hx; (subst hx; rfl)))) (fun Wz610 pz611 => ?_)
          replace hB := pz611.below hB (by omega)
          replace hz5 := pz611.other hz5 (by omega)
          replace hz11 := pz611.other hz11 (by omega)
          replace hz18 := pz611.other hz18 (by omega)
          replace hz583 := pz611.other hz583 (by omega)
          replace hz490 : At Wz610 Wz20.heap.size (.cells #[.int .i64 1, .int .i64 (u : Nat), .int .i64 1, .int .i64 (v : Nat), .int .i64 1, .int .i64 (t : Nat)] 75 (0, 0)) := pz611.at_
          refine hK' _ _ ⟨hB, hz5, hz11⟩ (fun _ => trivial) ?_
          clear hK' K' pz611
          refine y_done (by kernel_rfl) ?_ _
          go_wp2_with fail
          go_meet
          exact ⟨_, _, rfl, rfl, by omega, by omega, by omega, by omega, by omega, by omega, by omega, hz583, hz490, hB, hz5, hz11, hz18⟩
    · have lz612 := hB.size
      have lz613 := hz5.lt
      have lz614 := hz11.lt
      have lz615 := hz18.lt
      refine wp_new (some 5) rfl (alYb__3_impl_shape rfl) (fun Wz616 nnz617 => ?_)
      have bz618 := nnz617.below (Below.refl _ _) (Nat.le_refl _)
      replace hB := below_after hB bz618
      replace hz5 := hz5.after bz618
      replace hz11 := hz11.after bz618
      replace hz18 := hz18.after bz618
      have hz619 : At Wz616 wdz19.heap.size (.cells #[.int .i64 0, .int .i64 0, .int .i64 0, .int .i64 0, .int .i64 0, .int .i64 0] 75 (0, 0)) := nnz617.at_
      refine hK' _ _ ⟨hB, hz5, hz11⟩ (fun _ => trivial) ?_
      clear hK' K' nnz617 bz618
      go_frame
      refine y_two 1 7 (by kernel_rfl) rfl rfl rfl rfl (fun K' hK' => ?_) (fun K' hK' => ?_)
      · have lz622 := hB.size
        have lz623 := hz5.lt
        have lz624 := hz11.lt
        have lz625 := hz18.lt
        have lz626 := hz619.lt
        refine wp_call1 (some 13) rfl 27 _ _ rfl (fun args w => by kernel_rfl) _ rfl _ (mSides_c _ _ _ _ _ _) (fun e Wz620 h => ?_)
        obtain ⟨rfl, bz621⟩ := h
        replace hB := below_after hB bz621
        replace hz5 := hz5.after bz621
        replace hz11 := hz11.after bz621
        replace hz18 := hz18.after bz621
        replace hz619 := hz619.after bz621
        clear bz621
        refine ⟨_, rfl, ?_⟩
        refine hK' _ _ ⟨hB, hz5, hz11⟩ (fun _ => trivial) ?_
        clear hK' K'
        go_frame
        refine y_two 2 7 (by kernel_rfl) rfl rfl rfl rfl (fun K' hK' => ?_) (fun K' hK' => ?_)
        · have lz629 := hB.size
          have lz630 := hz5.lt
          have lz631 := hz11.lt
          have lz632 := hz18.lt
          have lz633 := hz619.lt
          refine wp_call1 (some 14) rfl 56 _ _ rfl (fun args w => by kernel_rfl) _ rfl _ (formShapes_c _ _ _ _) (fun e Wz627 h => ?_)
          obtain ⟨rfl, bz628⟩ := h
          replace hB := below_after hB bz628
          replace hz5 := hz5.after bz628
          replace hz11 := hz11.after bz628
          replace hz18 := hz18.after bz628
          replace hz619 := hz619.after bz628
          clear bz628
          refine ⟨_, rfl, ?_⟩
          refine hK' _ _ ⟨hB, hz5, hz11⟩ (fun _ => trivial) ?_
          clear hK' K'
          go_frame
          refine y_two 4 7 (by kernel_rfl) rfl rfl rfl rfl (fun K' hK' => ?_) (fun K' hK' => ?_)
          · have lz636 := hB.size
            have lz637 := hz5.lt
            have lz638 := hz11.lt
            have lz639 := hz18.lt
            have lz640 := hz619.lt
            refine wp_call1 (some 16) rfl 27 _ _ rfl (fun args w => by kernel_rfl) _ rfl _ (mSides_c _ _ _ _ _ _) (fun e Wz634 h => ?_)
            obtain ⟨rfl, bz635⟩ := h
            replace hB := below_after hB bz635
            replace hz5 := hz5.after bz635
            replace hz11 := hz11.after bz635
            replace hz18 := hz18.after bz635
            replace hz619 := hz619.after bz635
            clear bz635
            refine ⟨_, rfl, ?_⟩
            refine hK' _ _ ⟨hB, hz5, hz11⟩ (fun _ => trivial) ?_
            clear hK' K'
            go_frame
            refine y_two 5 7 (by kernel_rfl) rfl rfl rfl rfl (fun K' hK' => ?_) (fun K' hK' => ?_)
            · have lz643 := hB.size
              have lz644 := hz5.lt
              have lz645 := hz11.lt
              have lz646 := hz18.lt
              have lz647 := hz619.lt
              refine wp_call1 (some 17) rfl 56 _ _ rfl (fun args w => by kernel_rfl) _ rfl _ (formShapes_c _ _ _ _) (fun e Wz641 h => ?_)
              obtain ⟨rfl, bz642⟩ := h
              replace hB := below_after hB bz642
              replace hz5 := hz5.after bz642
              replace hz11 := hz11.after bz642
              replace hz18 := hz18.after bz642
              replace hz619 := hz619.after bz642
              clear bz642
              refine ⟨_, rfl, ?_⟩
              refine hK' _ _ ⟨hB, hz5, hz11⟩ (fun _ => trivial) ?_
              clear hK' K'
              go_frame
              refine y_oper 7 (by kernel_rfl) rfl rfl (fun K' hK' => ?_)
              have lz648 := hB.size
              have lz649 := hz5.lt
              have lz650 := hz11.lt
              have lz651 := hz18.lt
              have lz652 := hz619.lt
              refine wp_new (some 6) rfl (alYb__3_impl_shape rfl) (fun Wz653 nnz654 => ?_)
              have bz655 := nnz654.below (Below.refl _ _) (Nat.le_refl _)
              replace hB := below_after hB bz655
              replace hz5 := hz5.after bz655
              replace hz11 := hz11.after bz655
              replace hz18 := hz18.after bz655
              replace hz619 := hz619.after bz655
              have hz656 : At Wz653 Wz641.heap.size (.cells #[.int .i64 0, .int .i64 0, .int .i64 0, .int .i64 0, .int .i64 0, .int .i64 0] 75 (0, 0)) := nnz654.at_
              refine hK' _ _ ⟨hB, hz5, hz11⟩ (fun _ => trivial) ?_
              clear hK' K' nnz654 bz655
              go_frame
              refine y_oper 8 (by kernel_rfl) rfl rfl (fun K' hK' => ?_)
              refine wp_store_all 75 _ _ rfl rfl wdz19.heap.size rfl #[.int .i64 1, .int .i64 (n : Nat), .int .i64 1, .int .i64 (m : Nat), .int .i64 1, .int .i64 (k : Nat)] rfl _ _ hz619 6 (by kernel_rfl) rfl rfl (by intro x hx; simp at hx; repeat (first | (subst hx; rfl) | (rcases hx with hx | hx; (subst hx; rfl)))) (fun Wz657 pz658 => ?_)
              replace hB := pz658.below hB (by omega)
              replace hz5 := pz658.other hz5 (by omega)
              replace hz11 := pz658.other hz11 (by omega)
              replace hz18 := pz658.other hz18 (by omega)
              replace hz656 := pz658.other hz656 (by omega)
              replace hz619 : At Wz657 wdz19.heap.size (.cells #[.int .i64 1, .int .i64 (n : Nat), .int .i64 1, .int .i64 (m : Nat), .int .i64 1, .int .i64 (k : Nat)] 75 (0, 0)) := pz658.at_
              refine hK' _ _ ⟨hB, hz5, hz11⟩ (fun _ => trivial) ?_
              clear hK' K' pz658
              refine y_oper 9 (by kernel_rfl) rfl rfl (fun K' hK' => ?_)
              refine wp_store_all 75 _ _ rfl rfl Wz641.heap.size rfl #[.int .i64 1, .int .i64 (u : Nat), .int .i64 1, .int .i64 (v : Nat), .int .i64 1, .int .i64 (t : Nat)] rfl _ _ hz656 6 (by kernel_rfl) rfl rfl (by intro x hx; simp at hx; repeat (first | (subst hx; rfl) | (rcases hx with hx | hx; (subst hx; rfl)))) (fun Wz659 pz660 => ?_)
              replace hB := pz660.below hB (by omega)
              replace hz5 := pz660.other hz5 (by omega)
              replace hz11 := pz660.other hz11 (by omega)
              replace hz18 := pz660.other hz18 (by omega)
              replace hz619 := pz660.other hz619 (by omega)
              replace hz656 : At Wz659 Wz641.heap.size (.cells #[.int .i64 1, .int .i64 (u : Nat), .int .i64 1, .int .i64 (v : Nat), .int .i64 1, .int .i64 (t : Nat)] 75 (0, 0)) := pz660.at_
              refine hK' _ _ ⟨hB, hz5, hz11⟩ (fun _ => trivial) ?_
              clear hK' K' pz660
              refine y_done (by kernel_rfl) ?_ _
              go_wp2_with fail
              go_meet
              exact ⟨_, _, rfl, rfl, by omega, by omega, by omega, by omega, by omega, by omega, by omega, hz619, hz656, hB, hz5, hz11, hz18⟩
            · have lz661 := hB.size
              have lz662 := hz5.lt
              have lz663 := hz11.lt
              have lz664 := hz18.lt
              have lz665 := hz619.lt
              refine wp_new (some 6) rfl (alYb__3_impl_shape rfl) (fun Wz666 nnz667 => ?_)
              have bz668 := nnz667.below (Below.refl _ _) (Nat.le_refl _)
              replace hB := below_after hB bz668
              replace hz5 := hz5.after bz668
              replace hz11 := hz11.after bz668
              replace hz18 := hz18.after bz668
              replace hz619 := hz619.after bz668
              have hz669 : At Wz666 Wz634.heap.size (.cells #[.int .i64 0, .int .i64 0, .int .i64 0, .int .i64 0, .int .i64 0, .int .i64 0] 75 (0, 0)) := nnz667.at_
              refine hK' _ _ ⟨hB, hz5, hz11⟩ (fun _ => trivial) ?_
              clear hK' K' nnz667 bz668
              go_frame
              refine y_oper 5 (by kernel_rfl) rfl rfl (fun K' hK' => ?_)
              have lz672 := hB.size
              have lz673 := hz5.lt
              have lz674 := hz11.lt
              have lz675 := hz18.lt
              have lz676 := hz619.lt
              have lz677 := hz669.lt
              refine wp_call1 (some 17) rfl 56 _ _ rfl (fun args w => by kernel_rfl) _ rfl _ (formShapes_c _ _ _ _) (fun e Wz670 h => ?_)
              obtain ⟨rfl, bz671⟩ := h
              replace hB := below_after hB bz671
              replace hz5 := hz5.after bz671
              replace hz11 := hz11.after bz671
              replace hz18 := hz18.after bz671
              replace hz619 := hz619.after bz671
              replace hz669 := hz669.after bz671
              clear bz671
              refine ⟨_, rfl, ?_⟩
              refine hK' _ _ ⟨hB, hz5, hz11⟩ (fun _ => trivial) ?_
              clear hK' K'
              go_frame
              refine y_oper 8 (by kernel_rfl) rfl rfl (fun K' hK' => ?_)
              refine wp_store_all 75 _ _ rfl rfl wdz19.heap.size rfl #[.int .i64 1, .int .i64 (n : Nat), .int .i64 1, .int .i64 (m : Nat), .int .i64 1, .int .i64 (k : Nat)] rfl _ _ hz619 6 (by kernel_rfl) rfl rfl (by intro x hx; simp at hx; repeat (first | (subst hx; rfl) | (rcases hx with hx | hx; (subst hx; rfl)))) (fun Wz678 pz679 => ?_)
              replace hB := pz679.below hB (by omega)
              replace hz5 := pz679.other hz5 (by omega)
              replace hz11 := pz679.other hz11 (by omega)
              replace hz18 := pz679.other hz18 (by omega)
              replace hz669 := pz679.other hz669 (by omega)
              replace hz619 : At Wz678 wdz19.heap.size (.cells #[.int .i64 1, .int .i64 (n : Nat), .int .i64 1, .int .i64 (m : Nat), .int .i64 1, .int .i64 (k : Nat)] 75 (0, 0)) := pz679.at_
              refine hK' _ _ ⟨hB, hz5, hz11⟩ (fun _ => trivial) ?_
              clear hK' K' pz679
              refine y_oper 9 (by kernel_rfl) rfl rfl (fun K' hK' => ?_)
              refine wp_store_all 75 _ _ rfl rfl Wz634.heap.size rfl #[.int .i64 1, .int .i64 (u : Nat), .int .i64 1, .int .i64 (v : Nat), .int .i64 1, .int .i64 (t : Nat)] rfl _ _ hz669 6 (by kernel_rfl) rfl rfl (by intro x hx; simp at hx; repeat (first | (subst hx; rfl) | (rcases hx with hx | hx; (subst hx; rfl)))) (fun Wz680 pz681 => ?_)
              replace hB := pz681.below hB (by omega)
              replace hz5 := pz681.other hz5 (by omega)
              replace hz11 := pz681.other hz11 (by omega)
              replace hz18 := pz681.other hz18 (by omega)
              replace hz619 := pz681.other hz619 (by omega)
              replace hz669 : At Wz680 Wz634.heap.size (.cells #[.int .i64 1, .int .i64 (u : Nat), .int .i64 1, .int .i64 (v : Nat), .int .i64 1, .int .i64 (t : Nat)] 75 (0, 0)) := pz681.at_
              refine hK' _ _ ⟨hB, hz5, hz11⟩ (fun _ => trivial) ?_
              clear hK' K' pz681
              refine y_done (by kernel_rfl) ?_ _
              go_wp2_with fail
              go_meet
              exact ⟨_, _, rfl, rfl, by omega, by omega, by omega, by omega, by omega, by omega, by omega, hz619, hz669, hB, hz5, hz11, hz18⟩
          · have lz682 := hB.size
            have lz683 := hz5.lt
            have lz684 := hz11.lt
            have lz685 := hz18.lt
            have lz686 := hz619.lt
            refine wp_new (some 6) rfl (alYb__3_impl_shape rfl) (fun Wz687 nnz688 => ?_)
            have bz689 := nnz688.below (Below.refl _ _) (Nat.le_refl _)
            replace hB := below_after hB bz689
            replace hz5 := hz5.after bz689
            replace hz11 := hz11.after bz689
            replace hz18 := hz18.after bz689
            replace hz619 := hz619.after bz689
            have hz690 : At Wz687 Wz627.heap.size (.cells #[.int .i64 0, .int .i64 0, .int .i64 0, .int .i64 0, .int .i64 0, .int .i64 0] 75 (0, 0)) := nnz688.at_
            refine hK' _ _ ⟨hB, hz5, hz11⟩ (fun _ => trivial) ?_
            clear hK' K' nnz688 bz689
            go_frame
            refine y_oper 4 (by kernel_rfl) rfl rfl (fun K' hK' => ?_)
            have lz693 := hB.size
            have lz694 := hz5.lt
            have lz695 := hz11.lt
            have lz696 := hz18.lt
            have lz697 := hz619.lt
            have lz698 := hz690.lt
            refine wp_call1 (some 16) rfl 27 _ _ rfl (fun args w => by kernel_rfl) _ rfl _ (mSides_c _ _ _ _ _ _) (fun e Wz691 h => ?_)
            obtain ⟨rfl, bz692⟩ := h
            replace hB := below_after hB bz692
            replace hz5 := hz5.after bz692
            replace hz11 := hz11.after bz692
            replace hz18 := hz18.after bz692
            replace hz619 := hz619.after bz692
            replace hz690 := hz690.after bz692
            clear bz692
            refine ⟨_, rfl, ?_⟩
            refine hK' _ _ ⟨hB, hz5, hz11⟩ (fun _ => trivial) ?_
            clear hK' K'
            go_frame
            refine y_oper 5 (by kernel_rfl) rfl rfl (fun K' hK' => ?_)
            have lz701 := hB.size
            have lz702 := hz5.lt
            have lz703 := hz11.lt
            have lz704 := hz18.lt
            have lz705 := hz619.lt
            have lz706 := hz690.lt
            refine wp_call1 (some 17) rfl 56 _ _ rfl (fun args w => by kernel_rfl) _ rfl _ (formShapes_c _ _ _ _) (fun e Wz699 h => ?_)
            obtain ⟨rfl, bz700⟩ := h
            replace hB := below_after hB bz700
            replace hz5 := hz5.after bz700
            replace hz11 := hz11.after bz700
            replace hz18 := hz18.after bz700
            replace hz619 := hz619.after bz700
            replace hz690 := hz690.after bz700
            clear bz700
            refine ⟨_, rfl, ?_⟩
            refine hK' _ _ ⟨hB, hz5, hz11⟩ (fun _ => trivial) ?_
            clear hK' K'
            go_frame
            refine y_oper 8 (by kernel_rfl) rfl rfl (fun K' hK' => ?_)
            refine wp_store_all 75 _ _ rfl rfl wdz19.heap.size rfl #[.int .i64 1, .int .i64 (n : Nat), .int .i64 1, .int .i64 (m : Nat), .int .i64 1, .int .i64 (k : Nat)] rfl _ _ hz619 6 (by kernel_rfl) rfl rfl (by intro x hx; simp at hx; repeat (first | (subst hx; rfl) | (rcases hx with hx | hx; (subst hx; rfl)))) (fun Wz707 pz708 => ?_)
            replace hB := pz708.below hB (by omega)
            replace hz5 := pz708.other hz5 (by omega)
            replace hz11 := pz708.other hz11 (by omega)
            replace hz18 := pz708.other hz18 (by omega)
            replace hz690 := pz708.other hz690 (by omega)
            replace hz619 : At Wz707 wdz19.heap.size (.cells #[.int .i64 1, .int .i64 (n : Nat), .int .i64 1, .int .i64 (m : Nat), .int .i64 1, .int .i64 (k : Nat)] 75 (0, 0)) := pz708.at_
            refine hK' _ _ ⟨hB, hz5, hz11⟩ (fun _ => trivial) ?_
            clear hK' K' pz708
            refine y_oper 9 (by kernel_rfl) rfl rfl (fun K' hK' => ?_)
            refine wp_store_all 75 _ _ rfl rfl Wz627.heap.size rfl #[.int .i64 1, .int .i64 (u : Nat), .int .i64 1, .int .i64 (v : Nat), .int .i64 1, .int .i64 (t : Nat)] rfl _ _ hz690 6 (by kernel_rfl) rfl rfl (by intro x hx; simp at hx; repeat (first | (subst hx; rfl) | (rcases hx with hx | hx; (subst hx; rfl)))) (fun Wz709 pz710 => ?_)
            replace hB := pz710.below hB (by omega)
            replace hz5 := pz710.other hz5 (by omega)
            replace hz11 := pz710.other hz11 (by omega)
            replace hz18 := pz710.other hz18 (by omega)
            replace hz619 := pz710.other hz619 (by omega)
            replace hz690 : At Wz709 Wz627.heap.size (.cells #[.int .i64 1, .int .i64 (u : Nat), .int .i64 1, .int .i64 (v : Nat), .int .i64 1, .int .i64 (t : Nat)] 75 (0, 0)) := pz710.at_
            refine hK' _ _ ⟨hB, hz5, hz11⟩ (fun _ => trivial) ?_
            clear hK' K' pz710
            refine y_done (by kernel_rfl) ?_ _
            go_wp2_with fail
            go_meet
            exact ⟨_, _, rfl, rfl, by omega, by omega, by omega, by omega, by omega, by omega, by omega, hz619, hz690, hB, hz5, hz11, hz18⟩
        · have lz711 := hB.size
          have lz712 := hz5.lt
          have lz713 := hz11.lt
          have lz714 := hz18.lt
          have lz715 := hz619.lt
          refine wp_new (some 6) rfl (alYb__3_impl_shape rfl) (fun Wz716 nnz717 => ?_)
          have bz718 := nnz717.below (Below.refl _ _) (Nat.le_refl _)
          replace hB := below_after hB bz718
          replace hz5 := hz5.after bz718
          replace hz11 := hz11.after bz718
          replace hz18 := hz18.after bz718
          replace hz619 := hz619.after bz718
          have hz719 : At Wz716 Wz620.heap.size (.cells #[.int .i64 0, .int .i64 0, .int .i64 0, .int .i64 0, .int .i64 0, .int .i64 0] 75 (0, 0)) := nnz717.at_
          refine hK' _ _ ⟨hB, hz5, hz11⟩ (fun _ => trivial) ?_
          clear hK' K' nnz717 bz718
          go_frame
          refine y_oper 2 (by kernel_rfl) rfl rfl (fun K' hK' => ?_)
          have lz722 := hB.size
          have lz723 := hz5.lt
          have lz724 := hz11.lt
          have lz725 := hz18.lt
          have lz726 := hz619.lt
          have lz727 := hz719.lt
          refine wp_call1 (some 14) rfl 56 _ _ rfl (fun args w => by kernel_rfl) _ rfl _ (formShapes_c _ _ _ _) (fun e Wz720 h => ?_)
          obtain ⟨rfl, bz721⟩ := h
          replace hB := below_after hB bz721
          replace hz5 := hz5.after bz721
          replace hz11 := hz11.after bz721
          replace hz18 := hz18.after bz721
          replace hz619 := hz619.after bz721
          replace hz719 := hz719.after bz721
          clear bz721
          refine ⟨_, rfl, ?_⟩
          refine hK' _ _ ⟨hB, hz5, hz11⟩ (fun _ => trivial) ?_
          clear hK' K'
          go_frame
          refine y_oper 4 (by kernel_rfl) rfl rfl (fun K' hK' => ?_)
          have lz730 := hB.size
          have lz731 := hz5.lt
          have lz732 := hz11.lt
          have lz733 := hz18.lt
          have lz734 := hz619.lt
          have lz735 := hz719.lt
          refine wp_call1 (some 16) rfl 27 _ _ rfl (fun args w => by kernel_rfl) _ rfl _ (mSides_c _ _ _ _ _ _) (fun e Wz728 h => ?_)
          obtain ⟨rfl, bz729⟩ := h
          replace hB := below_after hB bz729
          replace hz5 := hz5.after bz729
          replace hz11 := hz11.after bz729
          replace hz18 := hz18.after bz729
          replace hz619 := hz619.after bz729
          replace hz719 := hz719.after bz729
          clear bz729
          refine ⟨_, rfl, ?_⟩
          refine hK' _ _ ⟨hB, hz5, hz11⟩ (fun _ => trivial) ?_
          clear hK' K'
          go_frame
          refine y_oper 5 (by kernel_rfl) rfl rfl (fun K' hK' => ?_)
          have lz738 := hB.size
          have lz739 := hz5.lt
          have lz740 := hz11.lt
          have lz741 := hz18.lt
          have lz742 := hz619.lt
          have lz743 := hz719.lt
          refine wp_call1 (some 17) rfl 56 _ _ rfl (fun args w => by kernel_rfl) _ rfl _ (formShapes_c _ _ _ _) (fun e Wz736 h => ?_)
          obtain ⟨rfl, bz737⟩ := h
          replace hB := below_after hB bz737
          replace hz5 := hz5.after bz737
          replace hz11 := hz11.after bz737
          replace hz18 := hz18.after bz737
          replace hz619 := hz619.after bz737
          replace hz719 := hz719.after bz737
          clear bz737
          refine ⟨_, rfl, ?_⟩
          refine hK' _ _ ⟨hB, hz5, hz11⟩ (fun _ => trivial) ?_
          clear hK' K'
          go_frame
          refine y_oper 8 (by kernel_rfl) rfl rfl (fun K' hK' => ?_)
          refine wp_store_all 75 _ _ rfl rfl wdz19.heap.size rfl #[.int .i64 1, .int .i64 (n : Nat), .int .i64 1, .int .i64 (m : Nat), .int .i64 1, .int .i64 (k : Nat)] rfl _ _ hz619 6 (by kernel_rfl) rfl rfl (by intro x hx; simp at hx; repeat (first | (subst hx; rfl) | (rcases hx with hx | hx; (subst hx; rfl)))) (fun Wz744 pz745 => ?_)
          replace hB := pz745.below hB (by omega)
          replace hz5 := pz745.other hz5 (by omega)
          replace hz11 := pz745.other hz11 (by omega)
          replace hz18 := pz745.other hz18 (by omega)
          replace hz719 := pz745.other hz719 (by omega)
          replace hz619 : At Wz744 wdz19.heap.size (.cells #[.int .i64 1, .int .i64 (n : Nat), .int .i64 1, .int .i64 (m : Nat), .int .i64 1, .int .i64 (k : Nat)] 75 (0, 0)) := pz745.at_
          refine hK' _ _ ⟨hB, hz5, hz11⟩ (fun _ => trivial) ?_
          clear hK' K' pz745
          refine y_oper 9 (by kernel_rfl) rfl rfl (fun K' hK' => ?_)
          refine wp_store_all 75 _ _ rfl rfl Wz620.heap.size rfl #[.int .i64 1, .int .i64 (u : Nat), .int .i64 1, .int .i64 (v : Nat), .int .i64 1, .int .i64 (t : Nat)] rfl _ _ hz719 6 (by kernel_rfl) rfl rfl (by intro x hx; simp at hx; repeat (first | (subst hx; rfl) | (rcases hx with hx | hx; (subst hx; rfl)))) (fun Wz746 pz747 => ?_)
          replace hB := pz747.below hB (by omega)
          replace hz5 := pz747.other hz5 (by omega)
          replace hz11 := pz747.other hz11 (by omega)
          replace hz18 := pz747.other hz18 (by omega)
          replace hz619 := pz747.other hz619 (by omega)
          replace hz719 : At Wz746 Wz620.heap.size (.cells #[.int .i64 1, .int .i64 (u : Nat), .int .i64 1, .int .i64 (v : Nat), .int .i64 1, .int .i64 (t : Nat)] 75 (0, 0)) := pz747.at_
          refine hK' _ _ ⟨hB, hz5, hz11⟩ (fun _ => trivial) ?_
          clear hK' K' pz747
          refine y_done (by kernel_rfl) ?_ _
          go_wp2_with fail
          go_meet
          exact ⟨_, _, rfl, rfl, by omega, by omega, by omega, by omega, by omega, by omega, by omega, hz619, hz719, hB, hz5, hz11, hz18⟩
      · have lz748 := hB.size
        have lz749 := hz5.lt
        have lz750 := hz11.lt
        have lz751 := hz18.lt
        have lz752 := hz619.lt
        refine wp_new (some 6) rfl (alYb__3_impl_shape rfl) (fun Wz753 nnz754 => ?_)
        have bz755 := nnz754.below (Below.refl _ _) (Nat.le_refl _)
        replace hB := below_after hB bz755
        replace hz5 := hz5.after bz755
        replace hz11 := hz11.after bz755
        replace hz18 := hz18.after bz755
        replace hz619 := hz619.after bz755
        have hz756 : At Wz753 Wz616.heap.size (.cells #[.int .i64 0, .int .i64 0, .int .i64 0, .int .i64 0, .int .i64 0, .int .i64 0] 75 (0, 0)) := nnz754.at_
        refine hK' _ _ ⟨hB, hz5, hz11⟩ (fun _ => trivial) ?_
        clear hK' K' nnz754 bz755
        go_frame
        refine y_oper 1 (by kernel_rfl) rfl rfl (fun K' hK' => ?_)
        have lz759 := hB.size
        have lz760 := hz5.lt
        have lz761 := hz11.lt
        have lz762 := hz18.lt
        have lz763 := hz619.lt
        have lz764 := hz756.lt
        refine wp_call1 (some 13) rfl 27 _ _ rfl (fun args w => by kernel_rfl) _ rfl _ (mSides_c _ _ _ _ _ _) (fun e Wz757 h => ?_)
        obtain ⟨rfl, bz758⟩ := h
        replace hB := below_after hB bz758
        replace hz5 := hz5.after bz758
        replace hz11 := hz11.after bz758
        replace hz18 := hz18.after bz758
        replace hz619 := hz619.after bz758
        replace hz756 := hz756.after bz758
        clear bz758
        refine ⟨_, rfl, ?_⟩
        refine hK' _ _ ⟨hB, hz5, hz11⟩ (fun _ => trivial) ?_
        clear hK' K'
        go_frame
        refine y_oper 2 (by kernel_rfl) rfl rfl (fun K' hK' => ?_)
        have lz767 := hB.size
        have lz768 := hz5.lt
        have lz769 := hz11.lt
        have lz770 := hz18.lt
        have lz771 := hz619.lt
        have lz772 := hz756.lt
        refine wp_call1 (some 14) rfl 56 _ _ rfl (fun args w => by kernel_rfl) _ rfl _ (formShapes_c _ _ _ _) (fun e Wz765 h => ?_)
        obtain ⟨rfl, bz766⟩ := h
        replace hB := below_after hB bz766
        replace hz5 := hz5.after bz766
        replace hz11 := hz11.after bz766
        replace hz18 := hz18.after bz766
        replace hz619 := hz619.after bz766
        replace hz756 := hz756.after bz766
        clear bz766
        refine ⟨_, rfl, ?_⟩
        refine hK' _ _ ⟨hB, hz5, hz11⟩ (fun _ => trivial) ?_
        clear hK' K'
        go_frame
        refine y_oper 4 (by kernel_rfl) rfl rfl (fun K' hK' => ?_)
        have lz775 := hB.size
        have lz776 := hz5.lt
        have lz777 := hz11.lt
        have lz778 := hz18.lt
        have lz779 := hz619.lt
        have lz780 := hz756.lt
        refine wp_call1 (some 16) rfl 27 _ _ rfl (fun args w => by kernel_rfl) _ rfl _ (mSides_c _ _ _ _ _ _) (fun e Wz773 h => ?_)
        obtain ⟨rfl, bz774⟩ := h
        replace hB := below_after hB bz774
        replace hz5 := hz5.after bz774
        replace hz11 := hz11.after bz774
        replace hz18 := hz18.after bz774
        replace hz619 := hz619.after bz774
        replace hz756 := hz756.after bz774
        clear bz774
        refine ⟨_, rfl, ?_⟩
        refine hK' _ _ ⟨hB, hz5, hz11⟩ (fun _ => trivial) ?_
        clear hK' K'
        go_frame
        refine y_oper 5 (by kernel_rfl) rfl rfl (fun K' hK' => ?_)
        have lz783 := hB.size
        have lz784 := hz5.lt
        have lz785 := hz11.lt
        have lz786 := hz18.lt
        have lz787 := hz619.lt
        have lz788 := hz756.lt
        refine wp_call1 (some 17) rfl 56 _ _ rfl (fun args w => by kernel_rfl) _ rfl _ (formShapes_c _ _ _ _) (fun e Wz781 h => ?_)
        obtain ⟨rfl, bz782⟩ := h
        replace hB := below_after hB bz782
        replace hz5 := hz5.after bz782
        replace hz11 := hz11.after bz782
        replace hz18 := hz18.after bz782
        replace hz619 := hz619.after bz782
        replace hz756 := hz756.after bz782
        clear bz782
        refine ⟨_, rfl, ?_⟩
        refine hK' _ _ ⟨hB, hz5, hz11⟩ (fun _ => trivial) ?_
        clear hK' K'
        go_frame
        refine y_oper 8 (by kernel_rfl) rfl rfl (fun K' hK' => ?_)
        refine wp_store_all 75 _ _ rfl rfl wdz19.heap.size rfl #[.int .i64 1, .int .i64 (n : Nat), .int .i64 1, .int .i64 (m : Nat), .int .i64 1, .int .i64 (k : Nat)] rfl _ _ hz619 6 (by kernel_rfl) rfl rfl (by intro x hx; simp at hx; repeat (first | (subst hx; rfl) | (rcases hx with hx | hx; (subst hx; rfl)))) (fun Wz789 pz790 => ?_)
        replace hB := pz790.below hB (by omega)
        replace hz5 := pz790.other hz5 (by omega)
        replace hz11 := pz790.other hz11 (by omega)
        replace hz18 := pz790.other hz18 (by omega)
        replace hz756 := pz790.other hz756 (by omega)
        replace hz619 : At Wz789 wdz19.heap.size (.cells #[.int .i64 1, .int .i64 (n : Nat), .int .i64 1, .int .i64 (m : Nat), .int .i64 1, .int .i64 (k : Nat)] 75 (0, 0)) := pz790.at_
        refine hK' _ _ ⟨hB, hz5, hz11⟩ (fun _ => trivial) ?_
        clear hK' K' pz790
        refine y_oper 9 (by kernel_rfl) rfl rfl (fun K' hK' => ?_)
        refine wp_store_all 75 _ _ rfl rfl Wz616.heap.size rfl #[.int .i64 1, .int .i64 (u : Nat), .int .i64 1, .int .i64 (v : Nat), .int .i64 1, .int .i64 (t : Nat)] rfl _ _ hz756 6 (by kernel_rfl) rfl rfl (by intro x hx; simp at hx; repeat (first | (subst hx; rfl) | (rcases hx with hx | hx; (subst hx; rfl)))) (fun Wz791 pz792 => ?_)
        replace hB := pz792.below hB (by omega)
        replace hz5 := pz792.other hz5 (by omega)
        replace hz11 := pz792.other hz11 (by omega)
        replace hz18 := pz792.other hz18 (by omega)
        replace hz619 := pz792.other hz619 (by omega)
        replace hz756 : At Wz791 Wz616.heap.size (.cells #[.int .i64 1, .int .i64 (u : Nat), .int .i64 1, .int .i64 (v : Nat), .int .i64 1, .int .i64 (t : Nat)] 75 (0, 0)) := pz792.at_
        refine hK' _ _ ⟨hB, hz5, hz11⟩ (fun _ => trivial) ?_
        clear hK' K' pz792
        refine y_done (by kernel_rfl) ?_ _
        go_wp2_with fail
        go_meet
        exact ⟨_, _, rfl, rfl, by omega, by omega, by omega, by omega, by omega, by omega, by omega, hz619, hz756, hB, hz5, hz11, hz18⟩
    · have lz793 := hB.size
      have lz794 := hz5.lt
      have lz795 := hz11.lt
      have lz796 := hz18.lt
      refine wp_new (some 6) rfl (alYb__3_impl_shape rfl) (fun Wz797 nnz798 => ?_)
      have bz799 := nnz798.below (Below.refl _ _) (Nat.le_refl _)
      replace hB := below_after hB bz799
      replace hz5 := hz5.after bz799
      replace hz11 := hz11.after bz799
      replace hz18 := hz18.after bz799
      have hz800 : At Wz797 wdz19.heap.size (.cells #[.int .i64 0, .int .i64 0, .int .i64 0, .int .i64 0, .int .i64 0, .int .i64 0] 75 (0, 0)) := nnz798.at_
      refine hK' _ _ ⟨hB, hz5, hz11⟩ (fun _ => trivial) ?_
      clear hK' K' nnz798 bz799
      go_frame
      refine y_two 1 6 (by kernel_rfl) rfl rfl rfl rfl (fun K' hK' => ?_) (fun K' hK' => ?_)
      · have lz803 := hB.size
        have lz804 := hz5.lt
        have lz805 := hz11.lt
        have lz806 := hz18.lt
        have lz807 := hz800.lt
        refine wp_call1 (some 13) rfl 27 _ _ rfl (fun args w => by kernel_rfl) _ rfl _ (mSides_c _ _ _ _ _ _) (fun e Wz801 h => ?_)
        obtain ⟨rfl, bz802⟩ := h
        replace hB := below_after hB bz802
        replace hz5 := hz5.after bz802
        replace hz11 := hz11.after bz802
        replace hz18 := hz18.after bz802
        replace hz800 := hz800.after bz802
        clear bz802
        refine ⟨_, rfl, ?_⟩
        refine hK' _ _ ⟨hB, hz5, hz11⟩ (fun _ => trivial) ?_
        clear hK' K'
        go_frame
        refine y_two 2 6 (by kernel_rfl) rfl rfl rfl rfl (fun K' hK' => ?_) (fun K' hK' => ?_)
        · have lz810 := hB.size
          have lz811 := hz5.lt
          have lz812 := hz11.lt
          have lz813 := hz18.lt
          have lz814 := hz800.lt
          refine wp_call1 (some 14) rfl 56 _ _ rfl (fun args w => by kernel_rfl) _ rfl _ (formShapes_c _ _ _ _) (fun e Wz808 h => ?_)
          obtain ⟨rfl, bz809⟩ := h
          replace hB := below_after hB bz809
          replace hz5 := hz5.after bz809
          replace hz11 := hz11.after bz809
          replace hz18 := hz18.after bz809
          replace hz800 := hz800.after bz809
          clear bz809
          refine ⟨_, rfl, ?_⟩
          refine hK' _ _ ⟨hB, hz5, hz11⟩ (fun _ => trivial) ?_
          clear hK' K'
          go_frame
          refine y_two 4 6 (by kernel_rfl) rfl rfl rfl rfl (fun K' hK' => ?_) (fun K' hK' => ?_)
          · have lz817 := hB.size
            have lz818 := hz5.lt
            have lz819 := hz11.lt
            have lz820 := hz18.lt
            have lz821 := hz800.lt
            refine wp_call1 (some 16) rfl 27 _ _ rfl (fun args w => by kernel_rfl) _ rfl _ (mSides_c _ _ _ _ _ _) (fun e Wz815 h => ?_)
            obtain ⟨rfl, bz816⟩ := h
            replace hB := below_after hB bz816
            replace hz5 := hz5.after bz816
            replace hz11 := hz11.after bz816
            replace hz18 := hz18.after bz816
            replace hz800 := hz800.after bz816
            clear bz816
            refine ⟨_, rfl, ?_⟩
            refine hK' _ _ ⟨hB, hz5, hz11⟩ (fun _ => trivial) ?_
            clear hK' K'
            go_frame
            refine y_two 5 6 (by kernel_rfl) rfl rfl rfl rfl (fun K' hK' => ?_) (fun K' hK' => ?_)
            · have lz824 := hB.size
              have lz825 := hz5.lt
              have lz826 := hz11.lt
              have lz827 := hz18.lt
              have lz828 := hz800.lt
              refine wp_call1 (some 17) rfl 56 _ _ rfl (fun args w => by kernel_rfl) _ rfl _ (formShapes_c _ _ _ _) (fun e Wz822 h => ?_)
              obtain ⟨rfl, bz823⟩ := h
              replace hB := below_after hB bz823
              replace hz5 := hz5.after bz823
              replace hz11 := hz11.after bz823
              replace hz18 := hz18.after bz823
              replace hz800 := hz800.after bz823
              clear bz823
              refine ⟨_, rfl, ?_⟩
              refine hK' _ _ ⟨hB, hz5, hz11⟩ (fun _ => trivial) ?_
              clear hK' K'
              go_frame
              refine y_oper 6 (by kernel_rfl) rfl rfl (fun K' hK' => ?_)
              have lz829 := hB.size
              have lz830 := hz5.lt
              have lz831 := hz11.lt
              have lz832 := hz18.lt
              have lz833 := hz800.lt
              refine wp_new (some 5) rfl (alYb__3_impl_shape rfl) (fun Wz834 nnz835 => ?_)
              have bz836 := nnz835.below (Below.refl _ _) (Nat.le_refl _)
              replace hB := below_after hB bz836
              replace hz5 := hz5.after bz836
              replace hz11 := hz11.after bz836
              replace hz18 := hz18.after bz836
              replace hz800 := hz800.after bz836
              have hz837 : At Wz834 Wz822.heap.size (.cells #[.int .i64 0, .int .i64 0, .int .i64 0, .int .i64 0, .int .i64 0, .int .i64 0] 75 (0, 0)) := nnz835.at_
              refine hK' _ _ ⟨hB, hz5, hz11⟩ (fun _ => trivial) ?_
              clear hK' K' nnz835 bz836
              go_frame
              refine y_oper 8 (by kernel_rfl) rfl rfl (fun K' hK' => ?_)
              refine wp_store_all 75 _ _ rfl rfl Wz822.heap.size rfl #[.int .i64 1, .int .i64 (n : Nat), .int .i64 1, .int .i64 (m : Nat), .int .i64 1, .int .i64 (k : Nat)] rfl _ _ hz837 6 (by kernel_rfl) rfl rfl (by intro x hx; simp at hx; repeat (first | (subst hx; rfl) | (rcases hx with hx | hx; (subst hx; rfl)))) (fun Wz838 pz839 => ?_)
              replace hB := pz839.below hB (by omega)
              replace hz5 := pz839.other hz5 (by omega)
              replace hz11 := pz839.other hz11 (by omega)
              replace hz18 := pz839.other hz18 (by omega)
              replace hz800 := pz839.other hz800 (by omega)
              replace hz837 : At Wz838 Wz822.heap.size (.cells #[.int .i64 1, .int .i64 (n : Nat), .int .i64 1, .int .i64 (m : Nat), .int .i64 1, .int .i64 (k : Nat)] 75 (0, 0)) := pz839.at_
              refine hK' _ _ ⟨hB, hz5, hz11⟩ (fun _ => trivial) ?_
              clear hK' K' pz839
              refine y_oper 9 (by kernel_rfl) rfl rfl (fun K' hK' => ?_)
              refine wp_store_all 75 _ _ rfl rfl wdz19.heap.size rfl #[.int .i64 1, .int .i64 (u : Nat), .int .i64 1, .int .i64 (v : Nat), .int .i64 1, .int .i64 (t : Nat)] rfl _ _ hz800 6 (by kernel_rfl) rfl rfl (by intro x hx; simp at hx; repeat (first | (subst hx; rfl) | (rcases hx with hx | hx; (subst hx; rfl)))) (fun Wz840 pz841 => ?_)
              replace hB := pz841.below hB (by omega)
              replace hz5 := pz841.other hz5 (by omega)
              replace hz11 := pz841.other hz11 (by omega)
              replace hz18 := pz841.other hz18 (by omega)
              replace hz837 := pz841.other hz837 (by omega)
              replace hz800 : At Wz840 wdz19.heap.size (.cells #[.int .i64 1, .int .i64 (u : Nat), .int .i64 1, .int .i64 (v : Nat), .int .i64 1, .int .i64 (t : Nat)] 75 (0, 0)) := pz841.at_
              refine hK' _ _ ⟨hB, hz5, hz11⟩ (fun _ => trivial) ?_
              clear hK' K' pz841
              refine y_done (by kernel_rfl) ?_ _
              go_wp2_with fail
              go_meet
              exact ⟨_, _, rfl, rfl, by omega, by omega, by omega, by omega, by omega, by omega, by omega, hz837, hz800, hB, hz5, hz11, hz18⟩
            · have lz842 := hB.size
              have lz843 := hz5.lt
              have lz844 := hz11.lt
              have lz845 := hz18.lt
              have lz846 := hz800.lt
              refine wp_new (some 5) rfl (alYb__3_impl_shape rfl) (fun Wz847 nnz848 => ?_)
              have bz849 := nnz848.below (Below.refl _ _) (Nat.le_refl _)
              replace hB := below_after hB bz849
              replace hz5 := hz5.after bz849
              replace hz11 := hz11.after bz849
              replace hz18 := hz18.after bz849
              replace hz800 := hz800.after bz849
              have hz850 : At Wz847 Wz815.heap.size (.cells #[.int .i64 0, .int .i64 0, .int .i64 0, .int .i64 0, .int .i64 0, .int .i64 0] 75 (0, 0)) := nnz848.at_
              refine hK' _ _ ⟨hB, hz5, hz11⟩ (fun _ => trivial) ?_
              clear hK' K' nnz848 bz849
              go_frame
              refine y_oper 5 (by kernel_rfl) rfl rfl (fun K' hK' => ?_)
              have lz853 := hB.size
              have lz854 := hz5.lt
              have lz855 := hz11.lt
              have lz856 := hz18.lt
              have lz857 := hz800.lt
              have lz858 := hz850.lt
              refine wp_call1 (some 17) rfl 56 _ _ rfl (fun args w => by kernel_rfl) _ rfl _ (formShapes_c _ _ _ _) (fun e Wz851 h => ?_)
              obtain ⟨rfl, bz852⟩ := h
              replace hB := below_after hB bz852
              replace hz5 := hz5.after bz852
              replace hz11 := hz11.after bz852
              replace hz18 := hz18.after bz852
              replace hz800 := hz800.after bz852
              replace hz850 := hz850.after bz852
              clear bz852
              refine ⟨_, rfl, ?_⟩
              refine hK' _ _ ⟨hB, hz5, hz11⟩ (fun _ => trivial) ?_
              clear hK' K'
              go_frame
              refine y_oper 8 (by kernel_rfl) rfl rfl (fun K' hK' => ?_)
              refine wp_store_all 75 _ _ rfl rfl Wz815.heap.size rfl #[.int .i64 1, .int .i64 (n : Nat), .int .i64 1, .int .i64 (m : Nat), .int .i64 1, .int .i64 (k : Nat)] rfl _ _ hz850 6 (by kernel_rfl) rfl rfl (by intro x hx; simp at hx; repeat (first | (subst hx; rfl) | (rcases hx with hx | hx; (subst hx; rfl)))) (fun Wz859 pz860 => ?_)
              replace hB := pz860.below hB (by omega)
              replace hz5 := pz860.other hz5 (by omega)
              replace hz11 := pz860.other hz11 (by omega)
              replace hz18 := pz860.other hz18 (by omega)
              replace hz800 := pz860.other hz800 (by omega)
              replace hz850 : At Wz859 Wz815.heap.size (.cells #[.int .i64 1, .int .i64 (n : Nat), .int .i64 1, .int .i64 (m : Nat), .int .i64 1, .int .i64 (k : Nat)] 75 (0, 0)) := pz860.at_
              refine hK' _ _ ⟨hB, hz5, hz11⟩ (fun _ => trivial) ?_
              clear hK' K' pz860
              refine y_oper 9 (by kernel_rfl) rfl rfl (fun K' hK' => ?_)
              refine wp_store_all 75 _ _ rfl rfl wdz19.heap.size rfl #[.int .i64 1, .int .i64 (u : Nat), .int .i64 1, .int .i64 (v : Nat), .int .i64 1, .int .i64 (t : Nat)] rfl _ _ hz800 6 (by kernel_rfl) rfl rfl (by intro x hx; simp at hx; repeat (first | (subst hx; rfl) | (rcases hx with hx | hx; (subst hx; rfl)))) (fun Wz861 pz862 => ?_)
              replace hB := pz862.below hB (by omega)
              replace hz5 := pz862.other hz5 (by omega)
              replace hz11 := pz862.other hz11 (by omega)
              replace hz18 := pz862.other hz18 (by omega)
              replace hz850 := pz862.other hz850 (by omega)
              replace hz800 : At Wz861 wdz19.heap.size (.cells #[.int .i64 1, .int .i64 (u : Nat), .int .i64 1, .int .i64 (v : Nat), .int .i64 1, .int .i64 (t : Nat)] 75 (0, 0)) := pz862.at_
              refine hK' _ _ ⟨hB, hz5, hz11⟩ (fun _ => trivial) ?_
              clear hK' K' pz862
              refine y_done (by kernel_rfl) ?_ _
              go_wp2_with fail
              go_meet
              exact ⟨_, _, rfl, rfl, by omega, by omega, by omega, by omega, by omega, by omega, by omega, hz850, hz800, hB, hz5, hz11, hz18⟩
          · have lz863 := hB.size
            have lz864 := hz5.lt
            have lz865 := hz11.lt
            have lz866 := hz18.lt
            have lz867 := hz800.lt
            refine wp_new (some 5) rfl (alYb__3_impl_shape rfl) (fun Wz868 nnz869 => ?_)
            have bz870 := nnz869.below (Below.refl _ _) (Nat.le_refl _)
            replace hB := below_after hB bz870
            replace hz5 := hz5.after bz870
            replace hz11 := hz11.after bz870
            replace hz18 := hz18.after bz870
            replace hz800 := hz800.after bz870
            have hz871 : At Wz868 Wz808.heap.size (.cells #[.int .i64 0, .int .i64 0, .int .i64 0, .int .i64 0, .int .i64 0, .int .i64 0] 75 (0, 0)) := nnz869.at_
            refine hK' _ _ ⟨hB, hz5, hz11⟩ (fun _ => trivial) ?_
            clear hK' K' nnz869 bz870
            go_frame
            refine y_oper 4 (by kernel_rfl) rfl rfl (fun K' hK' => ?_)
            have lz874 := hB.size
            have lz875 := hz5.lt
            have lz876 := hz11.lt
            have lz877 := hz18.lt
            have lz878 := hz800.lt
            have lz879 := hz871.lt
            refine wp_call1 (some 16) rfl 27 _ _ rfl (fun args w => by kernel_rfl) _ rfl _ (mSides_c _ _ _ _ _ _) (fun e Wz872 h => ?_)
            obtain ⟨rfl, bz873⟩ := h
            replace hB := below_after hB bz873
            replace hz5 := hz5.after bz873
            replace hz11 := hz11.after bz873
            replace hz18 := hz18.after bz873
            replace hz800 := hz800.after bz873
            replace hz871 := hz871.after bz873
            clear bz873
            refine ⟨_, rfl, ?_⟩
            refine hK' _ _ ⟨hB, hz5, hz11⟩ (fun _ => trivial) ?_
            clear hK' K'
            go_frame
            refine y_oper 5 (by kernel_rfl) rfl rfl (fun K' hK' => ?_)
            have lz882 := hB.size
            have lz883 := hz5.lt
            have lz884 := hz11.lt
            have lz885 := hz18.lt
            have lz886 := hz800.lt
            have lz887 := hz871.lt
            refine wp_call1 (some 17) rfl 56 _ _ rfl (fun args w => by kernel_rfl) _ rfl _ (formShapes_c _ _ _ _) (fun e Wz880 h => ?_)
            obtain ⟨rfl, bz881⟩ := h
            replace hB := below_after hB bz881
            replace hz5 := hz5.after bz881
            replace hz11 := hz11.after bz881
            replace hz18 := hz18.after bz881
            replace hz800 := hz800.after bz881
            replace hz871 := hz871.after bz881
            clear bz881
            refine ⟨_, rfl, ?_⟩
            refine hK' _ _ ⟨hB, hz5, hz11⟩ (fun _ => trivial) ?_
            clear hK' K'
            go_frame
            refine y_oper 8 (by kernel_rfl) rfl rfl (fun K' hK' => ?_)
            refine wp_store_all 75 _ _ rfl rfl Wz808.heap.size rfl #[.int .i64 1, .int .i64 (n : Nat), .int .i64 1, .int .i64 (m : Nat), .int .i64 1, .int .i64 (k : Nat)] rfl _ _ hz871 6 (by kernel_rfl) rfl rfl (by intro x hx; simp at hx; repeat (first | (subst hx; rfl) | (rcases hx with hx | hx; (subst hx; rfl)))) (fun Wz888 pz889 => ?_)
            replace hB := pz889.below hB (by omega)
            replace hz5 := pz889.other hz5 (by omega)
            replace hz11 := pz889.other hz11 (by omega)
            replace hz18 := pz889.other hz18 (by omega)
            replace hz800 := pz889.other hz800 (by omega)
            replace hz871 : At Wz888 Wz808.heap.size (.cells #[.int .i64 1, .int .i64 (n : Nat), .int .i64 1, .int .i64 (m : Nat), .int .i64 1, .int .i64 (k : Nat)] 75 (0, 0)) := pz889.at_
            refine hK' _ _ ⟨hB, hz5, hz11⟩ (fun _ => trivial) ?_
            clear hK' K' pz889
            refine y_oper 9 (by kernel_rfl) rfl rfl (fun K' hK' => ?_)
            refine wp_store_all 75 _ _ rfl rfl wdz19.heap.size rfl #[.int .i64 1, .int .i64 (u : Nat), .int .i64 1, .int .i64 (v : Nat), .int .i64 1, .int .i64 (t : Nat)] rfl _ _ hz800 6 (by kernel_rfl) rfl rfl (by intro x hx; simp at hx; repeat (first | (subst hx; rfl) | (rcases hx with hx | hx; (subst hx; rfl)))) (fun Wz890 pz891 => ?_)
            replace hB := pz891.below hB (by omega)
            replace hz5 := pz891.other hz5 (by omega)
            replace hz11 := pz891.other hz11 (by omega)
            replace hz18 := pz891.other hz18 (by omega)
            replace hz871 := pz891.other hz871 (by omega)
            replace hz800 : At Wz890 wdz19.heap.size (.cells #[.int .i64 1, .int .i64 (u : Nat), .int .i64 1, .int .i64 (v : Nat), .int .i64 1, .int .i64 (t : Nat)] 75 (0, 0)) := pz891.at_
            refine hK' _ _ ⟨hB, hz5, hz11⟩ (fun _ => trivial) ?_
            clear hK' K' pz891
            refine y_done (by kernel_rfl) ?_ _
            go_wp2_with fail
            go_meet
            exact ⟨_, _, rfl, rfl, by omega, by omega, by omega, by omega, by omega, by omega, by omega, hz871, hz800, hB, hz5, hz11, hz18⟩
        · have lz892 := hB.size
          have lz893 := hz5.lt
          have lz894 := hz11.lt
          have lz895 := hz18.lt
          have lz896 := hz800.lt
          refine wp_new (some 5) rfl (alYb__3_impl_shape rfl) (fun Wz897 nnz898 => ?_)
          have bz899 := nnz898.below (Below.refl _ _) (Nat.le_refl _)
          replace hB := below_after hB bz899
          replace hz5 := hz5.after bz899
          replace hz11 := hz11.after bz899
          replace hz18 := hz18.after bz899
          replace hz800 := hz800.after bz899
          have hz900 : At Wz897 Wz801.heap.size (.cells #[.int .i64 0, .int .i64 0, .int .i64 0, .int .i64 0, .int .i64 0, .int .i64 0] 75 (0, 0)) := nnz898.at_
          refine hK' _ _ ⟨hB, hz5, hz11⟩ (fun _ => trivial) ?_
          clear hK' K' nnz898 bz899
          go_frame
          refine y_oper 2 (by kernel_rfl) rfl rfl (fun K' hK' => ?_)
          have lz903 := hB.size
          have lz904 := hz5.lt
          have lz905 := hz11.lt
          have lz906 := hz18.lt
          have lz907 := hz800.lt
          have lz908 := hz900.lt
          refine wp_call1 (some 14) rfl 56 _ _ rfl (fun args w => by kernel_rfl) _ rfl _ (formShapes_c _ _ _ _) (fun e Wz901 h => ?_)
          obtain ⟨rfl, bz902⟩ := h
          replace hB := below_after hB bz902
          replace hz5 := hz5.after bz902
          replace hz11 := hz11.after bz902
          replace hz18 := hz18.after bz902
          replace hz800 := hz800.after bz902
          replace hz900 := hz900.after bz902
          clear bz902
          refine ⟨_, rfl, ?_⟩
          refine hK' _ _ ⟨hB, hz5, hz11⟩ (fun _ => trivial) ?_
          clear hK' K'
          go_frame
          refine y_oper 4 (by kernel_rfl) rfl rfl (fun K' hK' => ?_)
          have lz911 := hB.size
          have lz912 := hz5.lt
          have lz913 := hz11.lt
          have lz914 := hz18.lt
          have lz915 := hz800.lt
          have lz916 := hz900.lt
          refine wp_call1 (some 16) rfl 27 _ _ rfl (fun args w => by kernel_rfl) _ rfl _ (mSides_c _ _ _ _ _ _) (fun e Wz909 h => ?_)
          obtain ⟨rfl, bz910⟩ := h
          replace hB := below_after hB bz910
          replace hz5 := hz5.after bz910
          replace hz11 := hz11.after bz910
          replace hz18 := hz18.after bz910
          replace hz800 := hz800.after bz910
          replace hz900 := hz900.after bz910
          clear bz910
          refine ⟨_, rfl, ?_⟩
          refine hK' _ _ ⟨hB, hz5, hz11⟩ (fun _ => trivial) ?_
          clear hK' K'
          go_frame
          refine y_oper 5 (by kernel_rfl) rfl rfl (fun K' hK' => ?_)
          have lz919 := hB.size
          have lz920 := hz5.lt
          have lz921 := hz11.lt
          have lz922 := hz18.lt
          have lz923 := hz800.lt
          have lz924 := hz900.lt
          refine wp_call1 (some 17) rfl 56 _ _ rfl (fun args w => by kernel_rfl) _ rfl _ (formShapes_c _ _ _ _) (fun e Wz917 h => ?_)
          obtain ⟨rfl, bz918⟩ := h
          replace hB := below_after hB bz918
          replace hz5 := hz5.after bz918
          replace hz11 := hz11.after bz918
          replace hz18 := hz18.after bz918
          replace hz800 := hz800.after bz918
          replace hz900 := hz900.after bz918
          clear bz918
          refine ⟨_, rfl, ?_⟩
          refine hK' _ _ ⟨hB, hz5, hz11⟩ (fun _ => trivial) ?_
          clear hK' K'
          go_frame
          refine y_oper 8 (by kernel_rfl) rfl rfl (fun K' hK' => ?_)
          refine wp_store_all 75 _ _ rfl rfl Wz801.heap.size rfl #[.int .i64 1, .int .i64 (n : Nat), .int .i64 1, .int .i64 (m : Nat), .int .i64 1, .int .i64 (k : Nat)] rfl _ _ hz900 6 (by kernel_rfl) rfl rfl (by intro x hx; simp at hx; repeat (first | (subst hx; rfl) | (rcases hx with hx | hx; (subst hx; rfl)))) (fun Wz925 pz926 => ?_)
          replace hB := pz926.below hB (by omega)
          replace hz5 := pz926.other hz5 (by omega)
          replace hz11 := pz926.other hz11 (by omega)
          replace hz18 := pz926.other hz18 (by omega)
          replace hz800 := pz926.other hz800 (by omega)
          replace hz900 : At Wz925 Wz801.heap.size (.cells #[.int .i64 1, .int .i64 (n : Nat), .int .i64 1, .int .i64 (m : Nat), .int .i64 1, .int .i64 (k : Nat)] 75 (0, 0)) := pz926.at_
          refine hK' _ _ ⟨hB, hz5, hz11⟩ (fun _ => trivial) ?_
          clear hK' K' pz926
          refine y_oper 9 (by kernel_rfl) rfl rfl (fun K' hK' => ?_)
          refine wp_store_all 75 _ _ rfl rfl wdz19.heap.size rfl #[.int .i64 1, .int .i64 (u : Nat), .int .i64 1, .int .i64 (v : Nat), .int .i64 1, .int .i64 (t : Nat)] rfl _ _ hz800 6 (by kernel_rfl) rfl rfl (by intro x hx; simp at hx; repeat (first | (subst hx; rfl) | (rcases hx with hx | hx; (subst hx; rfl)))) (fun Wz927 pz928 => ?_)
          replace hB := pz928.below hB (by omega)
          replace hz5 := pz928.other hz5 (by omega)
          replace hz11 := pz928.other hz11 (by omega)
          replace hz18 := pz928.other hz18 (by omega)
          replace hz900 := pz928.other hz900 (by omega)
          replace hz800 : At Wz927 wdz19.heap.size (.cells #[.int .i64 1, .int .i64 (u : Nat), .int .i64 1, .int .i64 (v : Nat), .int .i64 1, .int .i64 (t : Nat)] 75 (0, 0)) := pz928.at_
          refine hK' _ _ ⟨hB, hz5, hz11⟩ (fun _ => trivial) ?_
          clear hK' K' pz928
          refine y_done (by kernel_rfl) ?_ _
          go_wp2_with fail
          go_meet
          exact ⟨_, _, rfl, rfl, by omega, by omega, by omega, by omega, by omega, by omega, by omega, hz900, hz800, hB, hz5, hz11, hz18⟩
      · have lz929 := hB.size
        have lz930 := hz5.lt
        have lz931 := hz11.lt
        have lz932 := hz18.lt
        have lz933 := hz800.lt
        refine wp_new (some 5) rfl (alYb__3_impl_shape rfl) (fun Wz934 nnz935 => ?_)
        have bz936 := nnz935.below (Below.refl _ _) (Nat.le_refl _)
        replace hB := below_after hB bz936
        replace hz5 := hz5.after bz936
        replace hz11 := hz11.after bz936
        replace hz18 := hz18.after bz936
        replace hz800 := hz800.after bz936
        have hz937 : At Wz934 Wz797.heap.size (.cells #[.int .i64 0, .int .i64 0, .int .i64 0, .int .i64 0, .int .i64 0, .int .i64 0] 75 (0, 0)) := nnz935.at_
        refine hK' _ _ ⟨hB, hz5, hz11⟩ (fun _ => trivial) ?_
        clear hK' K' nnz935 bz936
        go_frame
        refine y_oper 1 (by kernel_rfl) rfl rfl (fun K' hK' => ?_)
        have lz940 := hB.size
        have lz941 := hz5.lt
        have lz942 := hz11.lt
        have lz943 := hz18.lt
        have lz944 := hz800.lt
        have lz945 := hz937.lt
        refine wp_call1 (some 13) rfl 27 _ _ rfl (fun args w => by kernel_rfl) _ rfl _ (mSides_c _ _ _ _ _ _) (fun e Wz938 h => ?_)
        obtain ⟨rfl, bz939⟩ := h
        replace hB := below_after hB bz939
        replace hz5 := hz5.after bz939
        replace hz11 := hz11.after bz939
        replace hz18 := hz18.after bz939
        replace hz800 := hz800.after bz939
        replace hz937 := hz937.after bz939
        clear bz939
        refine ⟨_, rfl, ?_⟩
        refine hK' _ _ ⟨hB, hz5, hz11⟩ (fun _ => trivial) ?_
        clear hK' K'
        go_frame
        refine y_oper 2 (by kernel_rfl) rfl rfl (fun K' hK' => ?_)
        have lz948 := hB.size
        have lz949 := hz5.lt
        have lz950 := hz11.lt
        have lz951 := hz18.lt
        have lz952 := hz800.lt
        have lz953 := hz937.lt
        refine wp_call1 (some 14) rfl 56 _ _ rfl (fun args w => by kernel_rfl) _ rfl _ (formShapes_c _ _ _ _) (fun e Wz946 h => ?_)
        obtain ⟨rfl, bz947⟩ := h
        replace hB := below_after hB bz947
        replace hz5 := hz5.after bz947
        replace hz11 := hz11.after bz947
        replace hz18 := hz18.after bz947
        replace hz800 := hz800.after bz947
        replace hz937 := hz937.after bz947
        clear bz947
        refine ⟨_, rfl, ?_⟩
        refine hK' _ _ ⟨hB, hz5, hz11⟩ (fun _ => trivial) ?_
        clear hK' K'
        go_frame
        refine y_oper 4 (by kernel_rfl) rfl rfl (fun K' hK' => ?_)
        have lz956 := hB.size
        have lz957 := hz5.lt
        have lz958 := hz11.lt
        have lz959 := hz18.lt
        have lz960 := hz800.lt
        have lz961 := hz937.lt
        refine wp_call1 (some 16) rfl 27 _ _ rfl (fun args w => by kernel_rfl) _ rfl _ (mSides_c _ _ _ _ _ _) (fun e Wz954 h => ?_)
        obtain ⟨rfl, bz955⟩ := h
        replace hB := below_after hB bz955
        replace hz5 := hz5.after bz955
        replace hz11 := hz11.after bz955
        replace hz18 := hz18.after bz955
        replace hz800 := hz800.after bz955
        replace hz937 := hz937.after bz955
        clear bz955
        refine ⟨_, rfl, ?_⟩
        refine hK' _ _ ⟨hB, hz5, hz11⟩ (fun _ => trivial) ?_
        clear hK' K'
        go_frame
        refine y_oper 5 (by kernel_rfl) rfl rfl (fun K' hK' => ?_)
        have lz964 := hB.size
        have lz965 := hz5.lt
        have lz966 := hz11.lt
        have lz967 := hz18.lt
        have lz968 := hz800.lt
        have lz969 := hz937.lt
        refine wp_call1 (some 17) rfl 56 _ _ rfl (fun args w => by kernel_rfl) _ rfl _ (formShapes_c _ _ _ _) (fun e Wz962 h => ?_)
        obtain ⟨rfl, bz963⟩ := h
        replace hB := below_after hB bz963
        replace hz5 := hz5.after bz963
        replace hz11 := hz11.after bz963
        replace hz18 := hz18.after bz963
        replace hz800 := hz800.after bz963
        replace hz937 := hz937.after bz963
        clear bz963
        refine ⟨_, rfl, ?_⟩
        refine hK' _ _ ⟨hB, hz5, hz11⟩ (fun _ => trivial) ?_
        clear hK' K'
        go_frame
        refine y_oper 8 (by kernel_rfl) rfl rfl (fun K' hK' => ?_)
        refine wp_store_all 75 _ _ rfl rfl Wz797.heap.size rfl #[.int .i64 1, .int .i64 (n : Nat), .int .i64 1, .int .i64 (m : Nat), .int .i64 1, .int .i64 (k : Nat)] rfl _ _ hz937 6 (by kernel_rfl) rfl rfl (by intro x hx; simp at hx; repeat (first | (subst hx; rfl) | (rcases hx with hx | hx; (subst hx; rfl)))) (fun Wz970 pz971 => ?_)
        replace hB := pz971.below hB (by omega)
        replace hz5 := pz971.other hz5 (by omega)
        replace hz11 := pz971.other hz11 (by omega)
        replace hz18 := pz971.other hz18 (by omega)
        replace hz800 := pz971.other hz800 (by omega)
        replace hz937 : At Wz970 Wz797.heap.size (.cells #[.int .i64 1, .int .i64 (n : Nat), .int .i64 1, .int .i64 (m : Nat), .int .i64 1, .int .i64 (k : Nat)] 75 (0, 0)) := pz971.at_
        refine hK' _ _ ⟨hB, hz5, hz11⟩ (fun _ => trivial) ?_
        clear hK' K' pz971
        refine y_oper 9 (by kernel_rfl) rfl rfl (fun K' hK' => ?_)
        refine wp_store_all 75 _ _ rfl rfl wdz19.heap.size rfl #[.int .i64 1, .int .i64 (u : Nat), .int .i64 1, .int .i64 (v : Nat), .int .i64 1, .int .i64 (t : Nat)] rfl _ _ hz800 6 (by kernel_rfl) rfl rfl (by intro x hx; simp at hx; repeat (first | (subst hx; rfl) | (rcases hx with hx | hx; (subst hx; rfl)))) (fun Wz972 pz973 => ?_)
        replace hB := pz973.below hB (by omega)
        replace hz5 := pz973.other hz5 (by omega)
        replace hz11 := pz973.other hz11 (by omega)
        replace hz18 := pz973.other hz18 (by omega)
        replace hz937 := pz973.other hz937 (by omega)
        replace hz800 : At Wz972 wdz19.heap.size (.cells #[.int .i64 1, .int .i64 (u : Nat), .int .i64 1, .int .i64 (v : Nat), .int .i64 1, .int .i64 (t : Nat)] 75 (0, 0)) := pz973.at_
        refine hK' _ _ ⟨hB, hz5, hz11⟩ (fun _ => trivial) ?_
        clear hK' K' pz973
        refine y_done (by kernel_rfl) ?_ _
        go_wp2_with fail
        go_meet
        exact ⟨_, _, rfl, rfl, by omega, by omega, by omega, by omega, by omega, by omega, by omega, hz937, hz800, hB, hz5, hz11, hz18⟩
  case rest =>
  clear hB hz5 hz11 hz18
  obtain ⟨B5, B6, rfl, rfl, g0, g0', g1, g1', g2, g2', g56, h5, h6, hB, h2, h3, h4⟩ := hcut
  obtain ⟨wc, rfl⟩ := cut_worldM hB
  go_upto_region 2 with (fail)
  refine wp_region_lit ?_
  refine ls_ex (some 7) (.slice none 0 0) rfl rfl (exec_assign _ rfl (.slice none 0 0) rfl) ?_
  go_frame
  refine wpList_nil ?_
  go_upto_region 3 with (fail)
  refine wp_region_lit ?_
  refine ls_ex (some 18) (.pointer (some ⟨w.heap.size, 4, none⟩)) rfl rfl (exec_fieldAddr 28 _ 4 rfl _ (by kernel_rfl)) ?_
  go_frame
  refine ls_ex (some 19) (.slice A qs.length c) rfl rfl (exec_load_one 26 _ rfl w.heap.size 4 rfl (.slice A qs.length c) _ Try.underlying26 rfl (h2.at_ 4)) ?_
  go_frame
  refine ls_ex (some 20) (.int .i64 qs.length) rfl rfl (exec_len _ 26 53 rfl A qs.length c rfl Try.underlying26) ?_
  go_frame
  refine ls_ex (some 21) (.int .i64 0) rfl rfl (exec_move _ rfl (.int .i64 0) rfl) ?_
  go_frame
  refine wpList_nil ?_
  go_wp2_with fail
  go_loopw [7, 21] (fun s7 s21 wr => ∃ (a : Nat) (v9 : Value), a ≤ qs.length ∧ a * rs.length ≤ 30 ∧ s7 = v9 ∧ s21 = .int .i64 a ∧ Below w.heap.size w wr ∧ At wr w.heap.size (.cells #[.int .i64 (P : Nat), .int .i64 (n : Nat), .int .i64 (m : Nat), .int .i64 (k : Nat), .slice A qs.length c] 28 (0, 0)) ∧ At wr Wz2.heap.size (.cells #[.int .i64 (P : Nat), .int .i64 (u : Nat), .int .i64 (v : Nat), .int .i64 (t : Nat), .slice B rs.length d] 28 (0, 0)) ∧ At wr Wz8.heap.size (.cells #[.int .i64 0, .int .i64 0, .int .i64 0, .int .i64 0, .slice none 0 0] 28 (0, 0)) ∧ At wr B5 (.cells #[.int .i64 1, .int .i64 (n : Nat), .int .i64 1, .int .i64 (m : Nat), .int .i64 1, .int .i64 (k : Nat)] 75 (0, 0)) ∧ At wr B6 (.cells #[.int .i64 1, .int .i64 (u : Nat), .int .i64 1, .int .i64 (v : Nat), .int .i64 1, .int .i64 (t : Nat)] 75 (0, 0)) ∧ Own wr w.heap.size (v9) (kmO (kmQ P n m k u v t) qs rs (a))) (fun _ s21 _ => qs.length - (intOf s21).toNat)
  case atStart => exact ⟨0, _, by omega, by omega, rfl, rfl, hB, h2, h3, h4, h5, h6, Own.nil _ _⟩
  case round =>
    clear hB h2 h3 h4 h5 h6
    obtain ⟨a, v9, hle, hI, rfl, rfl, hB, h2, h3, h4, h5, h6, ho⟩ := hrel
    by_cases hlt : a < qs.length
    · obtain ⟨bA, oA, rfl, hcA⟩ := (hR.keep hB).at_ hlt
      clear hcA
      have hq := hR.good _ (List.getElem_mem hlt)
      have hAR := Nat.mul_le_mul_right rs.length (show a + 1 ≤ qs.length from hlt)
      rw [Nat.succ_mul, HLLe.out] at hAR
      obtain ⟨AL, hALe⟩ : ∃ z9, a * rs.length = z9 := ⟨_, rfl⟩
      rw [hALe] at hAR hI
      have HALe := Lib.hid hALe
      clear hALe
      obtain ⟨L7, hL7⟩ : ∃ z9, (kmO (kmQ P n m k u v t) qs rs (a)).length = z9 := ⟨_, rfl⟩
      obtain ⟨A7, c7, rfl⟩ := Own.rdN2 ho hL7
      clear hL7
      go_upto_region 4 with (fail)
      refine wp_region_lit ?_
      refine ls_ex (some 22) (.bool true) rfl rfl (exec_lss _ _ _ _ rfl a qs.length rfl rfl true (decide_eq_true (by omega))) ?_
      go_frame
      refine wpList_nil ?_
      go_upto_region 5 with (fail)
      refine wp_region_lit ?_
      refine ls_ex (some 23) (.pointer (some ⟨bA, oA + a * 27, none⟩)) rfl rfl (exec_index_slice _ 53 _ _ rfl bA oA qs.length c a 27 rfl rfl Try.underlying26 (by kernel_rfl) (by omega)) ?_
      go_frame
      refine ls_ex (some 24) (.agg (u8s (qs[a]))) rfl rfl (exec_load_cells 53 _ rfl bA (oA + a * 27) rfl (qs[a]) _ 27 (Rd.c27m (hR.keep hB) hlt) Try.underlying53 rfl (by kernel_rfl) (hq.len)) ?_
      go_frame
      refine ls_op rfl (fun K' hK' => ?_)
      have lz974 := hB.size
      have lz975 := h2.lt
      have lz976 := h3.lt
      have lz977 := h4.lt
      have lz978 := h5.lt
      have lz979 := h6.lt
      have naz984 := ho.away_new
      refine wp_new (some 9) rfl (alYb_impl_Product rfl) (fun Wz980 nnz981 => ?_)
      have bz982 := nnz981.below (Below.refl _ _) (Nat.le_refl _)
      replace hB := below_after hB bz982
      replace h2 := h2.after bz982
      replace h3 := h3.after bz982
      replace h4 := h4.after bz982
      replace h5 := h5.after bz982
      replace h6 := h6.after bz982
      replace ho := ho.below bz982
      have hz983 : At Wz980 wr.heap.size (.cells (u8s (List.replicate 27 0)) 53 (0, 0)) := nnz981.at_
      refine hK' _ _ ?_
      clear hK' K' nnz981 bz982
      go_frame
      refine ls_op rfl (fun K' hK' => ?_)
      refine wp_store_bytes 53 _ _ rfl rfl wr.heap.size rfl (qs[a]) rfl _ _ hz983 27 (by kernel_rfl) hq.len (by simp) (fun Wz985 pz986 => ?_)
      replace hB := pz986.below hB (by omega)
      replace h2 := pz986.other h2 (by omega)
      replace h3 := pz986.other h3 (by omega)
      replace h4 := pz986.other h4 (by omega)
      replace h5 := pz986.other h5 (by omega)
      replace h6 := pz986.other h6 (by omega)
      replace ho := ho.put pz986 naz984
      replace hz983 : At Wz985 wr.heap.size (.cells (u8s (qs[a])) 53 (0, 0)) := pz986.at_
      refine hK' _ _ ?_
      clear hK' K' pz986
      refine wpList_nil ?_
      go_upto_region 6 with (fail)
      refine wp_region_lit ?_
      refine ls_ex (some 25) (.pointer (some ⟨Wz2.heap.size, 4, none⟩)) rfl rfl (exec_fieldAddr 28 _ 4 rfl _ (by kernel_rfl)) ?_
      go_frame
      refine ls_ex (some 26) (.slice B rs.length d) rfl rfl (exec_load_one 26 _ rfl Wz2.heap.size 4 rfl (.slice B rs.length d) _ Try.underlying26 rfl (h3.at_ 4)) ?_
      go_frame
      refine ls_ex (some 27) (.int .i64 rs.length) rfl rfl (exec_len _ 26 53 rfl B rs.length d rfl Try.underlying26) ?_
      go_frame
      refine ls_ex (some 28) (.int .i64 0) rfl rfl (exec_move _ rfl (.int .i64 0) rfl) ?_
      go_frame
      refine wpList_nil ?_
      go_wp2_with fail
      obtain ⟨we, rfl⟩ : ∃ x : World, x = wr := ⟨_, rfl⟩
      go_loopw [7, 28] (fun s7 s28 wr => ∃ (b : Nat) (v9 : Value), b ≤ rs.length ∧ AL + b ≤ 30 ∧ s7 = v9 ∧ s28 = .int .i64 b ∧ Below w.heap.size w wr ∧ At wr w.heap.size (.cells #[.int .i64 (P : Nat), .int .i64 (n : Nat), .int .i64 (m : Nat), .int .i64 (k : Nat), .slice (some ⟨bA, oA, none⟩) qs.length c] 28 (0, 0)) ∧ At wr Wz2.heap.size (.cells #[.int .i64 (P : Nat), .int .i64 (u : Nat), .int .i64 (v : Nat), .int .i64 (t : Nat), .slice B rs.length d] 28 (0, 0)) ∧ At wr Wz8.heap.size (.cells #[.int .i64 0, .int .i64 0, .int .i64 0, .int .i64 0, .slice none 0 0] 28 (0, 0)) ∧ At wr B5 (.cells #[.int .i64 1, .int .i64 (n : Nat), .int .i64 1, .int .i64 (m : Nat), .int .i64 1, .int .i64 (k : Nat)] 75 (0, 0)) ∧ At wr B6 (.cells #[.int .i64 1, .int .i64 (u : Nat), .int .i64 1, .int .i64 (v : Nat), .int .i64 1, .int .i64 (t : Nat)] 75 (0, 0)) ∧ Own wr w.heap.size (v9) (kmI (kmQ P n m k u v t) qs rs qs[a] a (b)) ∧ At wr we.heap.size (.cells (u8s (qs[a])) 53 (0, 0)) ∧ some (we.heap.size) ≠ v9.ownBlock) (fun _ s28 _ => rs.length - (intOf s28).toNat)
      case atStart => exact ⟨0, _, by omega, by omega, rfl, rfl, hB, h2, h3, h4, h5, h6, by rw [kmI_zero]; exact ho, hz983, naz984⟩
      case round =>
        clear hB h2 h3 h4 h5 h6 ho hz983
        obtain ⟨b, v9, hle2, hI2, rfl, rfl, hB, h2, h3, h4, h5, h6, ho, h9, na9⟩ := hrel
        by_cases hlt2 : b < rs.length
        · obtain ⟨bB, oB, rfl, hcB⟩ := (hS.keep hB).at_ hlt2
          clear hcB
          have hr := hS.good _ (List.getElem_mem hlt2)
          obtain ⟨L9, hL9⟩ : ∃ z9, (kmI (kmQ P n m k u v t) qs rs qs[a] a (b)).length = z9 := ⟨_, rfl⟩
          have hLe := kmI_len (f := kmQ P n m k u v t) (qs := qs) (rs := rs) (q := qs[a]) (a := a) (b := b) (by omega) (by omega)
          rw [hL9, HALe.out] at hLe
          have hL1 : L9 ≤ AL + b := by omega
          have hL2 : AL + b ≤ L9 := by omega
          clear hLe
          obtain ⟨A9, c9, rfl⟩ := Own.rdN2 ho hL9
          by_cases hfull : AL + b = 30
          · clear hL9
            go_upto_region 7 with (fail)
            refine wp_region_lit ?_
            refine ls_ex (some 29) (.bool true) rfl rfl (exec_lss _ _ _ _ rfl b rs.length rfl rfl true (decide_eq_true (by omega))) ?_
            go_frame
            refine wpList_nil ?_
            go_upto_region 8 with (fail)
            refine wp_region_lit ?_
            refine ls_ex (some 30) (.pointer (some ⟨bB, oB + b * 27, none⟩)) rfl rfl (exec_index_slice _ 53 _ _ rfl bB oB rs.length d b 27 rfl rfl Try.underlying26 (by kernel_rfl) (by omega)) ?_
            go_frame
            refine ls_ex (some 31) (.agg (u8s (rs[b]))) rfl rfl (exec_load_cells 53 _ rfl bB (oB + b * 27) rfl (rs[b]) _ 27 (Rd.c27m (hS.keep hB) hlt2) Try.underlying53 rfl (by kernel_rfl) (hr.len)) ?_
            go_frame
            refine ls_op rfl (fun K' hK' => ?_)
            have lz987 := hB.size
            have lz988 := h2.lt
            have lz989 := h3.lt
            have lz990 := h4.lt
            have lz991 := h5.lt
            have lz992 := h6.lt
            have lz993 := h9.lt
            have naz998 := ho.away_new
            refine wp_new (some 11) rfl (alYb_impl_Product rfl) (fun Wz994 nnz995 => ?_)
            have bz996 := nnz995.below (Below.refl _ _) (Nat.le_refl _)
            replace hB := below_after hB bz996
            replace h2 := h2.after bz996
            replace h3 := h3.after bz996
            replace h4 := h4.after bz996
            replace h5 := h5.after bz996
            replace h6 := h6.after bz996
            replace ho := ho.below bz996
            replace h9 := h9.after bz996
            have hz997 : At Wz994 wr.heap.size (.cells (u8s (List.replicate 27 0)) 53 (0, 0)) := nnz995.at_
            refine hK' _ _ ?_
            clear hK' K' nnz995 bz996
            go_frame
            refine ls_op rfl (fun K' hK' => ?_)
            refine wp_store_bytes 53 _ _ rfl rfl wr.heap.size rfl (rs[b]) rfl _ _ hz997 27 (by kernel_rfl) hr.len (by simp) (fun Wz999 pz1000 => ?_)
            replace hB := pz1000.below hB (by omega)
            replace h2 := pz1000.other h2 (by omega)
            replace h3 := pz1000.other h3 (by omega)
            replace h4 := pz1000.other h4 (by omega)
            replace h5 := pz1000.other h5 (by omega)
            replace h6 := pz1000.other h6 (by omega)
            replace ho := ho.put pz1000 naz998
            replace h9 := pz1000.other h9 (by omega)
            replace hz997 : At Wz999 wr.heap.size (.cells (u8s (rs[b])) 53 (0, 0)) := pz1000.at_
            refine hK' _ _ ?_
            clear hK' K' pz1000
            refine wpList_nil ?_
            go_upto_region 9 with (fail)
            refine wp_region_lit ?_
            refine ls_ex (some 32) (.slice A9 L9 c9) rfl rfl (exec_move _ rfl (.slice A9 L9 c9) rfl) ?_
            go_frame
            refine ls_ex (some 33) (.pointer (some ⟨w.heap.size, 0, none⟩)) rfl rfl (exec_fieldAddr 28 _ 0 rfl _ (by kernel_rfl)) ?_
            go_frame
            refine ls_ex (some 34) (.int .i64 (P : Nat)) rfl rfl (exec_load_one 2 _ rfl w.heap.size 0 rfl (.int .i64 (P : Nat)) _ Try.underlying2 rfl (h2.at_ 0)) ?_
            go_frame
            refine ls_ex (some 35) (.agg (u8s (qs[a]))) rfl rfl (exec_load_all 53 _ rfl we.heap.size rfl _ _ _ h9 Try.underlying53 rfl 27 (by kernel_rfl) ((u8s_size _).trans hq.len)) ?_
            go_frame
            refine ls_ex (some 36) (.agg #[.int .i64 1, .int .i64 (n : Nat), .int .i64 1, .int .i64 (m : Nat), .int .i64 1, .int .i64 (k : Nat)]) rfl rfl (exec_load_all 75 _ rfl B5 rfl _ _ _ h5 Try.underlying75 rfl 6 (by kernel_rfl) rfl) ?_
            go_frame
            refine ls_ex (some 37) (.agg (u8s (rs[b]))) rfl rfl (exec_load_all 53 _ rfl wr.heap.size rfl _ _ _ hz997 Try.underlying53 rfl 27 (by kernel_rfl) ((u8s_size _).trans hr.len)) ?_
            go_frame
            refine ls_ex (some 38) (.agg #[.int .i64 1, .int .i64 (u : Nat), .int .i64 1, .int .i64 (v : Nat), .int .i64 1, .int .i64 (t : Nat)]) rfl rfl (exec_load_all 75 _ rfl B6 rfl _ _ _ h6 Try.underlying75 rfl 6 (by kernel_rfl) rfl) ?_
            go_frame
            refine ls_op rfl (fun K' hK' => ?_)
            have lz1003 := hB.size
            have lz1004 := h2.lt
            have lz1005 := h3.lt
            have lz1006 := h4.lt
            have lz1007 := h5.lt
            have lz1008 := h6.lt
            have lz1009 := h9.lt
            have lz1010 := hz997.lt
            refine wp_call5m (some 39) rfl 41 _ _ _ _ _ _ rfl (fun args w => by kernel_rfl) _ _ _ _ _ rfl rfl rfl rfl rfl _ (kmProd_c P n m k u v t qs[a] rs[b] hq hr _ hP HKB.out Hc1.out Hc2.out Hc3.out) (fun e Wz1001 h => ?_)
            obtain ⟨rfl, bz1002⟩ := h
            replace hB := below_after hB bz1002
            replace h2 := h2.after bz1002
            replace h3 := h3.after bz1002
            replace h4 := h4.after bz1002
            replace h5 := h5.after bz1002
            replace h6 := h6.after bz1002
            replace ho := ho.below bz1002
            replace h9 := h9.after bz1002
            replace hz997 := hz997.after bz1002
            clear bz1002
            refine ⟨_, rfl, ?_⟩
            refine hK' _ _ ?_
            clear hK' K'
            go_frame
            refine ls_op rfl (fun K' hK' => ?_)
            have lz1013 := hB.size
            have lz1014 := h2.lt
            have lz1015 := h3.lt
            have lz1016 := h4.lt
            have lz1017 := h5.lt
            have lz1018 := h6.lt
            have lz1019 := h9.lt
            have lz1020 := hz997.lt
            refine wp_call2_p 59 _ _ _ rfl (fun args w => by kernel_rfl) _ _ rfl rfl _ (withOneMore_no A9 L9 c9 (kmQ P n m k u v t qs[a] rs[b]) _ (by omega)) (fun e Wz1011 h => ?_)
            obtain ⟨hf, bz1012⟩ := h
            replace hB := below_after hB bz1012
            replace h2 := h2.after bz1012
            replace h3 := h3.after bz1012
            replace h4 := h4.after bz1012
            replace h5 := h5.after bz1012
            replace h6 := h6.after bz1012
            replace ho := ho.below bz1012
            replace h9 := h9.after bz1012
            replace hz997 := hz997.after bz1012
            refine ⟨_, hf, ?_⟩
            exact ⟨rfl, rfl, hB⟩
          · have HT : Hid (kmI (kmQ P n m k u v t) qs rs qs[a] a (b) ++ [kmQ P n m k u v t qs[a] rs[b]] = kmI (kmQ P n m k u v t) qs rs qs[a] a (b + 1)) := Lib.hid (kmI_step hlt2)
            have HAS : Hid ((kmI (kmQ P n m k u v t) qs rs qs[a] a (b + 1)).length = L9 + 1) := Lib.hid (by rw [← HT.out, List.length_append, hL9]; rfl)
            have HL9 := Lib.hid hL9
            clear hL9
            go_upto_region 7 with (fail)
            refine wp_region_lit ?_
            refine ls_ex (some 29) (.bool true) rfl rfl (exec_lss _ _ _ _ rfl b rs.length rfl rfl true (decide_eq_true (by omega))) ?_
            go_frame
            refine wpList_nil ?_
            go_upto_region 8 with (fail)
            refine wp_region_lit ?_
            refine ls_ex (some 30) (.pointer (some ⟨bB, oB + b * 27, none⟩)) rfl rfl (exec_index_slice _ 53 _ _ rfl bB oB rs.length d b 27 rfl rfl Try.underlying26 (by kernel_rfl) (by omega)) ?_
            go_frame
            refine ls_ex (some 31) (.agg (u8s (rs[b]))) rfl rfl (exec_load_cells 53 _ rfl bB (oB + b * 27) rfl (rs[b]) _ 27 (Rd.c27m (hS.keep hB) hlt2) Try.underlying53 rfl (by kernel_rfl) (hr.len)) ?_
            go_frame
            refine ls_op rfl (fun K' hK' => ?_)
            have lz1021 := hB.size
            have lz1022 := h2.lt
            have lz1023 := h3.lt
            have lz1024 := h4.lt
            have lz1025 := h5.lt
            have lz1026 := h6.lt
            have lz1027 := h9.lt
            have naz1032 := ho.away_new
            refine wp_new (some 11) rfl (alYb_impl_Product rfl) (fun Wz1028 nnz1029 => ?_)
            have bz1030 := nnz1029.below (Below.refl _ _) (Nat.le_refl _)
            replace hB := below_after hB bz1030
            replace h2 := h2.after bz1030
            replace h3 := h3.after bz1030
            replace h4 := h4.after bz1030
            replace h5 := h5.after bz1030
            replace h6 := h6.after bz1030
            replace ho := ho.below bz1030
            replace h9 := h9.after bz1030
            have hz1031 : At Wz1028 wr.heap.size (.cells (u8s (List.replicate 27 0)) 53 (0, 0)) := nnz1029.at_
            refine hK' _ _ ?_
            clear hK' K' nnz1029 bz1030
            go_frame
            refine ls_op rfl (fun K' hK' => ?_)
            refine wp_store_bytes 53 _ _ rfl rfl wr.heap.size rfl (rs[b]) rfl _ _ hz1031 27 (by kernel_rfl) hr.len (by simp) (fun Wz1033 pz1034 => ?_)
            replace hB := pz1034.below hB (by omega)
            replace h2 := pz1034.other h2 (by omega)
            replace h3 := pz1034.other h3 (by omega)
            replace h4 := pz1034.other h4 (by omega)
            replace h5 := pz1034.other h5 (by omega)
            replace h6 := pz1034.other h6 (by omega)
            replace ho := ho.put pz1034 naz1032
            replace h9 := pz1034.other h9 (by omega)
            replace hz1031 : At Wz1033 wr.heap.size (.cells (u8s (rs[b])) 53 (0, 0)) := pz1034.at_
            refine hK' _ _ ?_
            clear hK' K' pz1034
            refine wpList_nil ?_
            go_upto_region 9 with (fail)
            refine wp_region_lit ?_
            refine ls_ex (some 32) (.slice A9 L9 c9) rfl rfl (exec_move _ rfl (.slice A9 L9 c9) rfl) ?_
            go_frame
            refine ls_ex (some 33) (.pointer (some ⟨w.heap.size, 0, none⟩)) rfl rfl (exec_fieldAddr 28 _ 0 rfl _ (by kernel_rfl)) ?_
            go_frame
            refine ls_ex (some 34) (.int .i64 (P : Nat)) rfl rfl (exec_load_one 2 _ rfl w.heap.size 0 rfl (.int .i64 (P : Nat)) _ Try.underlying2 rfl (h2.at_ 0)) ?_
            go_frame
            refine ls_ex (some 35) (.agg (u8s (qs[a]))) rfl rfl (exec_load_all 53 _ rfl we.heap.size rfl _ _ _ h9 Try.underlying53 rfl 27 (by kernel_rfl) ((u8s_size _).trans hq.len)) ?_
            go_frame
            refine ls_ex (some 36) (.agg #[.int .i64 1, .int .i64 (n : Nat), .int .i64 1, .int .i64 (m : Nat), .int .i64 1, .int .i64 (k : Nat)]) rfl rfl (exec_load_all 75 _ rfl B5 rfl _ _ _ h5 Try.underlying75 rfl 6 (by kernel_rfl) rfl) ?_
            go_frame
            refine ls_ex (some 37) (.agg (u8s (rs[b]))) rfl rfl (exec_load_all 53 _ rfl wr.heap.size rfl _ _ _ hz1031 Try.underlying53 rfl 27 (by kernel_rfl) ((u8s_size _).trans hr.len)) ?_
            go_frame
            refine ls_ex (some 38) (.agg #[.int .i64 1, .int .i64 (u : Nat), .int .i64 1, .int .i64 (v : Nat), .int .i64 1, .int .i64 (t : Nat)]) rfl rfl (exec_load_all 75 _ rfl B6 rfl _ _ _ h6 Try.underlying75 rfl 6 (by kernel_rfl) rfl) ?_
            go_frame
            refine ls_op rfl (fun K' hK' => ?_)
            have lz1037 := hB.size
            have lz1038 := h2.lt
            have lz1039 := h3.lt
            have lz1040 := h4.lt
            have lz1041 := h5.lt
            have lz1042 := h6.lt
            have lz1043 := h9.lt
            have lz1044 := hz1031.lt
            refine wp_call5m (some 39) rfl 41 _ _ _ _ _ _ rfl (fun args w => by kernel_rfl) _ _ _ _ _ rfl rfl rfl rfl rfl _ (kmProd_c P n m k u v t qs[a] rs[b] hq hr _ hP HKB.out Hc1.out Hc2.out Hc3.out) (fun e Wz1035 h => ?_)
            obtain ⟨rfl, bz1036⟩ := h
            replace hB := below_after hB bz1036
            replace h2 := h2.after bz1036
            replace h3 := h3.after bz1036
            replace h4 := h4.after bz1036
            replace h5 := h5.after bz1036
            replace h6 := h6.after bz1036
            replace ho := ho.below bz1036
            replace h9 := h9.after bz1036
            replace hz1031 := hz1031.after bz1036
            clear bz1036
            refine ⟨_, rfl, ?_⟩
            refine hK' _ _ ?_
            clear hK' K'
            go_frame
            refine ls_op rfl (fun K' hK' => ?_)
            have lz1049 := hB.size
            have lz1050 := h2.lt
            have lz1051 := h3.lt
            have lz1052 := h4.lt
            have lz1053 := h5.lt
            have lz1054 := h6.lt
            have lz1055 := h9.lt
            have lz1056 := hz1031.lt
            refine wp_call2 (some 40) rfl 59 _ _ _ rfl (fun args w => by kernel_rfl) _ _ rfl rfl _ (withOneMore2_c A9 L9 c9 (kmI (kmQ P n m k u v t) qs rs qs[a] a (b)) (kmQ P n m k u v t qs[a] rs[b]) _ ho HL9.out (kmQ_bytes hP) (by omega) (by omega)) (fun e Wz1045 h => ?_)
            obtain ⟨v8, rfl, noz1047, grz1046, lyz1048⟩ := h
            rw [HT.out] at noz1047
            have nb9 := lyz1048 _ h9.lt na9
            clear lyz1048
            obtain ⟨A8, c8, rfl⟩ := Own.rdN2 noz1047 (n := L9 + 1) HAS.out
            replace hB := below_grown hB grz1046 ho (by omega)
            replace h2 := h2.grown grz1046 (ho.off h2 (by decide))
            replace h3 := h3.grown grz1046 (ho.off h3 (by decide))
            replace h4 := h4.grown grz1046 (ho.off h4 (by decide))
            replace h5 := h5.grown grz1046 (ho.off h5 (by decide))
            replace h6 := h6.grown grz1046 (ho.off h6 (by decide))
            replace h9 := h9.grown grz1046 na9
            replace hz1031 := hz1031.grown grz1046 naz1032
            replace ho := noz1047
            refine ⟨_, rfl, ?_⟩
            refine hK' _ _ ?_
            clear hK' K' grz1046
            go_frame
            refine ls_ex (some 7) (.slice A8 (L9 + 1) c8) rfl rfl (exec_assign _ rfl (.slice A8 (L9 + 1) c8) rfl) ?_
            go_frame
            refine wpList_nil ?_
            go_upto_region 10 with (fail)
            refine wp_region_lit ?_
            refine ls_ex (some 41) (.int .i64 (b + 1)) rfl rfl (exec_add _ _ _ _ rfl b 1 (b + 1) rfl rfl (IntWalk.i64_in _ (by omega))) ?_
            go_frame
            refine ls_ex (some 28) (.int .i64 (b + 1)) rfl rfl (exec_move _ rfl (.int .i64 (b + 1)) rfl) ?_
            go_frame
            refine wpList_nil ?_
            go_wp2_with fail
            go_roundw
            case rel => exact ⟨b + 1, _, by omega, by omega, rfl, by go_num, hB, h2, h3, h4, h5, h6, ho, h9, nb9⟩
            case measure => simp [intOf]; omega
        · obtain ⟨L9, hL9⟩ : ∃ z9, (kmI (kmQ P n m k u v t) qs rs qs[a] a (b)).length = z9 := ⟨_, rfl⟩
          obtain ⟨A9, c9, rfl⟩ := Own.rdN2 ho hL9
          clear hL9
          have HF : Hid (kmI (kmQ P n m k u v t) qs rs qs[a] a (b) = kmO (kmQ P n m k u v t) qs rs (a + 1)) := Lib.hid (by rw [show b = rs.length by omega]; exact kmI_all hlt)
          rw [HF.out] at ho
          have hI : (a + 1) * rs.length ≤ 30 := by rw [Nat.succ_mul, HALe.out]; omega
          go_upto_region 7 with (fail)
          refine wp_region_lit ?_
          refine ls_ex (some 29) (.bool false) rfl rfl (exec_lss _ _ _ _ rfl b rs.length rfl rfl false (decide_eq_false (by omega))) ?_
          go_frame
          refine wpList_nil ?_
          go_upto_region 11 with (fail)
          refine wp_region_lit ?_
          refine ls_ex (some 42) (.int .i64 (a + 1)) rfl rfl (exec_add _ _ _ _ rfl a 1 (a + 1) rfl rfl (IntWalk.i64_in _ (by omega))) ?_
          go_frame
          refine ls_ex (some 21) (.int .i64 (a + 1)) rfl rfl (exec_move _ rfl (.int .i64 (a + 1)) rfl) ?_
          go_frame
          refine wpList_nil ?_
          go_wp2_with fail
          go_roundw
          case rel => exact ⟨a + 1, _, by omega, hI, rfl, by go_num, hB, h2, h3, h4, h5, h6, ho⟩
          case measure => simp [intOf]; omega
    · have ha : a = qs.length := by omega
      rw [ha, HLLe.out] at hI
      exfalso
      omega
end Go.Proofs.Ytopdfblfhdooaaa
