/-
  spec.l10All, impl.allPairs. (Made by mkall.py.)
-/
import Derived.Test.YtppenoincihoeaaFms
import Derived.Test.YtppenoincihoeaaImplIs
namespace Go.Proofs.Ytppenoincihoeaa
open Go.RowKit
set_option maxRecDepth 100000
attribute [local irreducible] wpList
def allO (P Q i : Nat) : List (List Nat) := (List.range i).flatMap fun a => (List.range (2 ^ Q - 1)).map fun b => catR (fmN P a) (fmN Q b)
def allI (P Q i j : Nat) : List (List Nat) := allO P Q i ++ (List.range j).map fun b => catR (fmN P i) (fmN Q b)
def allP (P Q : Nat) : List (List Nat) := allO P Q (2 ^ P - 1)
theorem allO_zero (P Q : Nat) : allO P Q 0 = [] := rfl
theorem allI_zero (P Q i : Nat) : allI P Q i 0 = allO P Q i := by simp [allI]
theorem allI_step (P Q i j : Nat) : allI P Q i j ++ [catR (fmN P i) (fmN Q j)] = allI P Q i (j + 1) := by
  unfold allI
  rw [List.range_succ, List.map_append, ← List.append_assoc]
  rfl
theorem allI_all (P Q i : Nat) : allI P Q i (2 ^ Q - 1) = allO P Q (i + 1) := by
  unfold allI allO
  rw [List.range_succ, List.flatMap_append]
  simp
theorem allO_len (P Q i : Nat) : (allO P Q i).length = i * (2 ^ Q - 1) := by
  induction i with
  | zero => simp [allO]
  | succ i ih => rw [← allI_all, allI, List.length_append, ih]; simp [Nat.add_mul]
theorem pow1_b {P M : Nat} (hP : 1 ≤ P ∧ P ≤ 4) (hM : 2 ^ P - 1 = M) : 1 ≤ M ∧ M ≤ 15 := by
  have h := pow_b16 hP rfl
  omega
theorem allI_le {P Q i j : Nat} (hP : 1 ≤ P ∧ P ≤ 4) (hQ : 1 ≤ Q ∧ Q ≤ 4) (hi : i < 2 ^ P - 1) (hj : j < 2 ^ Q - 1) : (allI P Q i j).length ≤ 1000 := by
  have h1 := pow1_b hP rfl
  have h2 := pow1_b hQ rfl
  unfold allI
  rw [List.length_append, allO_len]
  simp only [List.length_map, List.length_range]
  have h3 : i * (2 ^ Q - 1) ≤ 15 * 15 := Nat.mul_le_mul (by omega) (by omega)
  omega
theorem catR_len9 {A B : List Nat} (hA : A.length = 9) (hB : B.length = 9) : (catR A B).length = 18 := by simp [catR, hA, hB]
theorem OwnW.apartR {w : World} {lo lo' : Nat} {v v' : Value} {xs qs : List (List Nat)} (h : OwnW w lo v xs) (h' : OwnR w lo' v' qs) : v.ownBlock = none ∨ v.ownBlock ≠ v'.ownBlock := by
  rcases h.2 with ⟨rfl, _⟩ | ⟨g', cap, cur, rfl, hb, hgg, _⟩
  · exact .inl rfl
  · exact .inr (h'.off (g := g') (cs := cur) (t := 49) hgg (by decide))
theorem OwnW.slc {M : Nat} {w : World} {lo : Nat} {v : Value} {qs : List (List Nat)} (h : OwnW w lo v qs) (he : qs.length = M) (hM : 1 ≤ M) : ∃ g c, v = .slice (some ⟨g, 0, none⟩) M c := by
  subst he
  rcases h.shp with ⟨rfl, h0⟩ | ⟨g, c, rfl⟩
  · omega
  · exact ⟨_, _, rfl⟩
theorem fms_get {P i : Nat} (h : i < 2 ^ P - 1) : (fms P)[i]'(by rw [fms_len]; exact h) = fmN P i := by simp [fms]
theorem fms_bytes (P : Nat) : ∀ q ∈ fms P, Bytes 9 q := fun q hq => by
  obtain ⟨c, _, rfl⟩ := List.mem_map.1 hq
  exact fmI_bytes _ _ _
theorem OwnW.cN {w : World} {lo g c M P i : Nat} (h : OwnW w lo (.slice (some ⟨g, 0, none⟩) M c) (fms P)) (hi : i < 2 ^ P - 1) : ∀ j, j < 9 → w.cell? ⟨g, i * 9 + j, none⟩ = some (.int .u8 (((fmN P i)[j]?.getD 0 : Nat) : Int)) := by
  have hr := h.rd' (fms_bytes P)
  obtain ⟨b', off', e, hc⟩ := hr.at_ (i := i) (by rw [fms_len]; exact hi)
  simp only [Option.some.injEq, Addr.mk.injEq, and_true] at e
  obtain ⟨rfl, rfl⟩ := e
  rw [fms_get hi] at hc
  simpa using hc
theorem al__3_impl_shape {o : Oper} {a : Act} {w : World} (ho : o.op = .alloc 93) : (execOp a.eval o).run Try.prog w = .ok (.value (.pointer (some ⟨w.heap.size, 0, none⟩))) (w.alloc (.cells #[.int .i64 0, .int .i64 0, .int .i64 0, .int .i64 0, .int .i64 0, .int .i64 0] 93 (0, 0))) := by
  unfold execOp
  rw [ho]
  kernel_rfl
set_option maxHeartbeats 12800000 in
theorem l10All_c (n m k : Int) (P Q : Nat) (hP : 1 ≤ P ∧ P ≤ 4) (hQ : 1 ≤ Q ∧ Q ≤ 4) (hPe : n * m = (P : Int)) (hQe : m * k = (Q : Int)) (w : World) :
    Calls Try.prog 50 #[.int .i64 n, .int .i64 m, .int .i64 k] w (fun e w' => ∃ v, e = .returned v ∧ OwnR w' w.heap.size v (allP P Q) ∧ Below w.heap.size w w') := by
  have hB := Below.refl w.heap.size w
  obtain ⟨M1, hM1⟩ : ∃ z9, 2 ^ P - 1 = z9 := ⟨_, rfl⟩
  obtain ⟨M2, hM2⟩ : ∃ z9, 2 ^ Q - 1 = z9 := ⟨_, rfl⟩
  have hM1b := pow1_b hP hM1
  have hM2b := pow1_b hQ hM2
  have HM1 := Lib.hid hM1
  have HM2 := Lib.hid hM2
  clear hM1 hM2
  have HPe : Hid (IntKind.i64.wrap (n * m) = (P : Int)) := Lib.hid (by rw [hPe]; exact IntWalk.i64_in _ (by omega))
  have HQe : Hid (IntKind.i64.wrap (m * k) = (Q : Int)) := Lib.hid (by rw [hQe]; exact IntWalk.i64_in _ (by omega))
  clear hPe hQe
  go_enter Try.func50, Try.ntmps50
  go_upto_region 0 with (fail)
  refine wp_region_lit ?_
  refine ls_ex (some 6) (.slice none 0 0) rfl rfl (exec_assign _ rfl (.slice none 0 0) rfl) ?_
  go_frame
  refine wpList_nil ?_
  go_upto_region 1 with (fail)
  refine wp_region_lit ?_
  refine ls_op rfl (fun K' hK' => ?_)
  have lz4 := hB.size
  refine wp_new (some 12) rfl (exec_bs0R rfl) (fun Wz1 nnz2 => ?_)
  have bz3 := nnz2.below (Below.refl _ _) (Nat.le_refl _)
  replace hB := below_after hB bz3
  have ho : OwnR Wz1 w.heap.size (.slice (some ⟨w.heap.size, 0, none⟩) 0 0) [] := (own_bs0R nnz2).mono (by have := hB.size; omega)
  refine hK' _ _ ?_
  clear hK' K' nnz2 bz3
  go_frame
  refine ls_ex (some 13) (.int .i64 n) rfl rfl (exec_move _ rfl (.int .i64 n) rfl) ?_
  go_frame
  refine ls_ex (some 14) (.int .i64 m) rfl rfl (exec_move _ rfl (.int .i64 m) rfl) ?_
  go_frame
  refine ls_ex (some 15) (.int .i64 P) rfl rfl (exec_mul _ _ _ _ rfl n m P rfl rfl HPe.out) ?_
  go_frame
  refine ls_op rfl (fun K' hK' => ?_)
  have lz7 := hB.size
  have lo9 := hB.size
  refine wp_call1 (some 16) rfl 74 _ _ rfl (fun args w => by kernel_rfl) _ rfl _ (l10FormsOf_c P hP _) (fun e Wz5 h => ?_)
  obtain ⟨v9, rfl, ho1, bz6⟩ := h
  replace hB := below_after hB bz6
  replace ho := ho.below bz6
  replace ho1 := ho1.mono (lo' := w.heap.size) (by omega)
  obtain ⟨g1, c1, rfl⟩ := ho1.slc (M := M1) (by rw [fms_len, HM1.out]) (by omega)
  clear bz6
  refine ⟨_, rfl, ?_⟩
  refine hK' _ _ ?_
  clear hK' K'
  go_frame
  refine ls_ex (some 17) (.int .i64 m) rfl rfl (exec_move _ rfl (.int .i64 m) rfl) ?_
  go_frame
  refine ls_ex (some 18) (.int .i64 k) rfl rfl (exec_move _ rfl (.int .i64 k) rfl) ?_
  go_frame
  refine ls_ex (some 19) (.int .i64 Q) rfl rfl (exec_mul _ _ _ _ rfl m k Q rfl rfl HQe.out) ?_
  go_frame
  refine ls_op rfl (fun K' hK' => ?_)
  have lz10 := hB.size
  have lo9 := hB.size
  refine wp_call1 (some 20) rfl 74 _ _ rfl (fun args w => by kernel_rfl) _ rfl _ (l10FormsOf_c Q hQ _) (fun e Wz8 h => ?_)
  obtain ⟨v9, rfl, ho2, bz9⟩ := h
  replace hB := below_after hB bz9
  replace ho := ho.below bz9
  replace ho1 := ho1.below bz9
  replace ho2 := ho2.mono (lo' := w.heap.size) (by omega)
  obtain ⟨g2, c2, rfl⟩ := ho2.slc (M := M2) (by rw [fms_len, HM2.out]) (by omega)
  clear bz9
  refine ⟨_, rfl, ?_⟩
  refine hK' _ _ ?_
  clear hK' K'
  go_frame
  refine ls_ex (some 7) (.slice (some ⟨w.heap.size, 0, none⟩) 0 0) rfl rfl (exec_assign _ rfl (.slice (some ⟨w.heap.size, 0, none⟩) 0 0) rfl) ?_
  go_frame
  refine ls_ex (some 8) (.slice (some ⟨g1, 0, none⟩) M1 c1) rfl rfl (exec_assign _ rfl (.slice (some ⟨g1, 0, none⟩) M1 c1) rfl) ?_
  go_frame
  refine ls_ex (some 9) (.slice (some ⟨g2, 0, none⟩) M2 c2) rfl rfl (exec_assign _ rfl (.slice (some ⟨g2, 0, none⟩) M2 c2) rfl) ?_
  go_frame
  refine wpList_nil ?_
  go_upto_region 2 with (fail)
  refine wp_region_lit ?_
  refine ls_ex (some 10) (.int .i64 0) rfl rfl (exec_assign _ rfl (.int .i64 0) rfl) ?_
  go_frame
  refine wpList_nil ?_
  go_wp2_with fail
  go_loopw [7, 10] (fun s7 s10 wr => ∃ (i : Nat) (v : Value), i ≤ M1 ∧ s10 = .int .i64 i ∧ v = s7 ∧ Below w.heap.size w wr ∧ OwnR wr w.heap.size v (allO P Q (i)) ∧ OwnW wr w.heap.size (.slice (some ⟨g1, 0, none⟩) M1 c1) (fms P) ∧ OwnW wr w.heap.size (.slice (some ⟨g2, 0, none⟩) M2 c2) (fms Q)) (fun _ s10 _ => M1 - (intOf s10).toNat)
  case atStart => exact ⟨0, _, by omega, rfl, rfl, hB, by rw [allO_zero]; exact ho, ho1, ho2⟩
  case round =>
    clear hB ho ho1 ho2
    obtain ⟨i, v, hi, rfl, rfl, hB, ho, ho1, ho2⟩ := hrel
    by_cases hlt : i < M1
    · have hi1 : i < M1 := hlt
      go_upto_region 3 with (fail)
      refine wp_region_lit ?_
      refine ls_ex (some 21) (.int .i64 i) rfl rfl (exec_move _ rfl (.int .i64 i) rfl) ?_
      go_frame
      refine ls_ex (some 22) (.slice (some ⟨g1, 0, none⟩) M1 c1) rfl rfl (exec_move _ rfl (.slice (some ⟨g1, 0, none⟩) M1 c1) rfl) ?_
      go_frame
      refine ls_ex (some 23) (.int .i64 M1) rfl rfl (exec_len _ 108 49 rfl (some ⟨g1, 0, none⟩) M1 c1 rfl Try.underlying108) ?_
      go_frame
      refine ls_ex (some 24) (.bool true) rfl rfl (exec_lss _ _ _ _ rfl i M1 rfl rfl true (decide_eq_true (by omega))) ?_
      go_frame
      refine wpList_nil ?_
      go_upto_region 5 with (fail)
      refine wp_region_lit ?_
      refine ls_ex (some 11) (.int .i64 0) rfl rfl (exec_assign _ rfl (.int .i64 0) rfl) ?_
      go_frame
      refine wpList_nil ?_
      go_wp2_with fail
      obtain ⟨we, rfl⟩ : ∃ x : World, x = wr := ⟨_, rfl⟩
      go_loopw [7, 11] (fun s7 s11 wr => ∃ (j : Nat) (v2 : Value), j ≤ M2 ∧ s11 = .int .i64 j ∧ v2 = s7 ∧ Below w.heap.size w wr ∧ OwnR wr w.heap.size v2 (allI P Q i (j)) ∧ OwnW wr w.heap.size (.slice (some ⟨g1, 0, none⟩) M1 c1) (fms P) ∧ OwnW wr w.heap.size (.slice (some ⟨g2, 0, none⟩) M2 c2) (fms Q)) (fun _ s11 _ => M2 - (intOf s11).toNat)
      case atStart => exact ⟨0, _, by omega, rfl, rfl, hB, by rw [allI_zero]; exact ho, ho1, ho2⟩
      case round =>
        clear hB ho ho1 ho2
        obtain ⟨j, v2, hj, rfl, rfl, hB, ho, ho1, ho2⟩ := hrel
        by_cases hlt2 : j < M2
        · obtain ⟨L, hL⟩ : ∃ z9, (allI P Q i (j)).length = z9 := ⟨_, rfl⟩
          obtain ⟨A9, c9, rfl⟩ := OwnR.rdN ho hL
          have HT : Hid (allI P Q i (j) ++ [catR (fmN P i) (fmN Q j)] = allI P Q i (j + 1)) := Lib.hid (allI_step P Q i j)
          have hAL := allI_le (P := P) (Q := Q) (i := i) (j := j) hP hQ (by rw [HM1.out]; omega) (by rw [HM2.out]; omega)
          have HAS : Hid ((allI P Q i (j + 1)).length = (allI P Q i (j)).length + 1) := Lib.hid (by rw [← HT.out, List.length_append]; rfl)
          rw [hL] at hAL HAS
          have HL := Lib.hid hL
          clear hL
          go_upto_region 6 with (fail)
          refine wp_region_lit ?_
          refine ls_ex (some 27) (.int .i64 j) rfl rfl (exec_move _ rfl (.int .i64 j) rfl) ?_
          go_frame
          refine ls_ex (some 28) (.slice (some ⟨g2, 0, none⟩) M2 c2) rfl rfl (exec_move _ rfl (.slice (some ⟨g2, 0, none⟩) M2 c2) rfl) ?_
          go_frame
          refine ls_ex (some 29) (.int .i64 M2) rfl rfl (exec_len _ 108 49 rfl (some ⟨g2, 0, none⟩) M2 c2 rfl Try.underlying108) ?_
          go_frame
          refine ls_ex (some 30) (.bool true) rfl rfl (exec_lss _ _ _ _ rfl j M2 rfl rfl true (decide_eq_true (by omega))) ?_
          go_frame
          refine wpList_nil ?_
          go_upto_region 8 with (fail)
          refine wp_region_y (zs := [11]) (S := fun w' => Below w.heap.size w w' ∧ OwnW w' w.heap.size (.slice (some ⟨g1, 0, none⟩) M1 c1) (fms P) ∧ OwnW w' w.heap.size (.slice (some ⟨g2, 0, none⟩) M2 c2) (fms Q)) (S2 := fun w' => True) (by kernel_rfl) ?_
          change wpAnyY _ _ _ _ _ _ _ _ _ _ (World.drew _)
          generalize hwdz11 : World.drew _ = wdz11
          replace hB : Below w.heap.size w wdz11 := by rw [← hwdz11]; exact hB.drew
          replace ho : OwnR wdz11 w.heap.size (.slice A9 L c9) (allI P Q i (j)) := by rw [← hwdz11]; exact ho.drew
          replace ho1 : OwnW wdz11 w.heap.size (.slice (some ⟨g1, 0, none⟩) M1 c1) (fms P) := by rw [← hwdz11]; exact ho1.drew
          replace ho2 : OwnW wdz11 w.heap.size (.slice (some ⟨g2, 0, none⟩) M2 c2) (fms Q) := by rw [← hwdz11]; exact ho2.drew
          clear hwdz11
          refine y_yield 0 (some 33) (.slice A9 L c9) rfl (by kernel_rfl) (by kernel_rfl) (by kernel_rfl) (fun _ _ _ h => h) rfl rfl ⟨hB, ho1, ho2⟩ (fun w' h' => exec_move _ rfl (.slice A9 L c9) rfl) ?_
          go_frame
          refine y_yield 1 (some 34) (.slice (some ⟨g1, 0, none⟩) M1 c1) rfl (by kernel_rfl) (by kernel_rfl) (by kernel_rfl) (fun _ _ _ h => h) rfl rfl ⟨hB, ho1, ho2⟩ (fun w' h' => exec_move _ rfl (.slice (some ⟨g1, 0, none⟩) M1 c1) rfl) ?_
          go_frame
          refine y_yield 2 (some 35) (.int .i64 i) rfl (by kernel_rfl) (by kernel_rfl) (by kernel_rfl) (fun _ _ _ h => h) rfl rfl ⟨hB, ho1, ho2⟩ (fun w' h' => exec_move _ rfl (.int .i64 i) rfl) ?_
          go_frame
          refine y_yield 3 (some 36) (.pointer (some ⟨g1, i * 9, none⟩)) rfl (by kernel_rfl) (by kernel_rfl) (by kernel_rfl) (fun _ _ _ h => h) rfl rfl ⟨hB, ho1, ho2⟩ (fun w' h' => exec_ix0 _ 49 _ _ rfl g1 M1 c1 i 9 rfl rfl Try.underlying108 (by kernel_rfl) hi1) ?_
          go_frame
          refine y_yield 4 (some 37) (.agg (u8s (fmN P i))) rfl (by kernel_rfl) (by kernel_rfl) (by kernel_rfl) (fun _ _ _ h => h) rfl rfl ⟨hB, ho1, ho2⟩ (fun w' h' => exec_load_cells 49 _ rfl g1 (i * 9) rfl (fmN P i) _ 9 (OwnW.cN h'.2.1 (by rw [HM1.out]; exact hi1)) Try.underlying49 rfl (by kernel_rfl) (fmI_len _ _ _)) ?_
          go_frame
          refine y_yield 5 (some 38) (.slice (some ⟨g2, 0, none⟩) M2 c2) rfl (by kernel_rfl) (by kernel_rfl) (by kernel_rfl) (fun _ _ _ h => h) rfl rfl ⟨hB, ho1, ho2⟩ (fun w' h' => exec_move _ rfl (.slice (some ⟨g2, 0, none⟩) M2 c2) rfl) ?_
          go_frame
          refine y_yield 6 (some 39) (.int .i64 j) rfl (by kernel_rfl) (by kernel_rfl) (by kernel_rfl) (fun _ _ _ h => h) rfl rfl ⟨hB, ho1, ho2⟩ (fun w' h' => exec_move _ rfl (.int .i64 j) rfl) ?_
          go_frame
          refine y_yield 7 (some 40) (.pointer (some ⟨g2, j * 9, none⟩)) rfl (by kernel_rfl) (by kernel_rfl) (by kernel_rfl) (fun _ _ _ h => h) rfl rfl ⟨hB, ho1, ho2⟩ (fun w' h' => exec_ix0 _ 49 _ _ rfl g2 M2 c2 j 9 rfl rfl Try.underlying108 (by kernel_rfl) hlt2) ?_
          go_frame
          refine y_yield 8 (some 41) (.agg (u8s (fmN Q j))) rfl (by kernel_rfl) (by kernel_rfl) (by kernel_rfl) (fun _ _ _ h => h) rfl rfl ⟨hB, ho1, ho2⟩ (fun w' h' => exec_load_cells 49 _ rfl g2 (j * 9) rfl (fmN Q j) _ 9 (OwnW.cN h'.2.2 (by rw [HM2.out]; exact hlt2)) Try.underlying49 rfl (by kernel_rfl) (fmI_len _ _ _)) ?_
          go_frame
          refine y_yield 9 (some 42) (.agg (u8s (catR (fmN P i) (fmN Q j)))) rfl (by kernel_rfl) (by kernel_rfl) (by kernel_rfl) (fun _ _ _ h => h) rfl rfl ⟨hB, ho1, ho2⟩ (fun w' h' => exec_pair _ _ rfl (fmN P i) (fmN Q j) rfl rfl (fmI_len _ _ _) (fmI_len _ _ _)) ?_
          go_frame
          refine y_oper 10 (by kernel_rfl) rfl rfl (fun K' hK' => ?_)
          have lz12 := hB.size
          refine wp_slice1R (some 43) rfl 37 74 _ rfl (catR (fmN P i) (fmN Q j)) rfl Try.underlying37 infoPair (catR_len9 (fmI_len _ _ _) (fmI_len _ _ _)) (fun Wz13 nnz14 => ?_)
          have bz15 := nnz14.below (Below.refl _ _) (Nat.le_refl _)
          replace hB := below_after hB bz15
          replace ho := ho.below bz15
          replace ho1 := ho1.below bz15
          replace ho2 := ho2.below bz15
          have hqz16 : At Wz13 wdz11.heap.size (.cells (u8s (catR (fmN P i) (fmN Q j))) 74 (0, 0)) := nnz14.at_
          refine hK' _ _ ⟨hB, ho1, ho2⟩ (fun _ => trivial) ?_
          clear hK' K' nnz14 bz15
          go_frame
          refine y_oper 11 (by kernel_rfl) rfl rfl (fun K' hK' => ?_)
          have lz20 := hB.size
          have lz21 := hqz16.lt
          refine wp_appR (some 44) rfl _ _ rfl (.slice A9 L c9) (allI P Q i (j)) (catR (fmN P i) (fmN Q j)) rfl ho wdz11.heap.size rfl hqz16 (catR_len9 (fmI_len _ _ _) (fmI_len _ _ _)) (by rw [HL.out]; omega) (by omega) (fun v8 Wz17 noz19 grz18 => ?_)
          replace ho1 := ho1.grown grz18 (ho1.apartR ho)
          replace ho2 := ho2.grown grz18 (ho2.apartR ho)
          rw [HT.out] at noz19
          obtain ⟨A8, c8, rfl⟩ := OwnR.rdN noz19 (n := L + 1) HAS.out
          replace hB := below_grownR hB grz18 ho (by omega)
          replace ho := noz19
          refine hK' _ _ ⟨hB, ho1, ho2⟩ (fun h => absurd (by decide) h) ?_
          clear hK' K' grz18 hqz16
          go_frame
          refine y_oper 12 (by kernel_rfl) rfl rfl (fun K' hK' => ?_)
          refine wp_exec (some 7) rfl (.slice A8 (L + 1) c8) (exec_assign _ rfl (.slice A8 (L + 1) c8) rfl) ?_
          refine hK' _ _ ⟨hB, ho1, ho2⟩ (fun _ => trivial) ?_
          clear hK' K'
          go_frame
          refine y_done (by kernel_rfl) ?_ _
          go_upto_region 7 with (fail)
          refine wp_region_lit ?_
          refine ls_ex (some 31) (.int .i64 j) rfl rfl (exec_move _ rfl (.int .i64 j) rfl) ?_
          go_frame
          refine ls_ex (some 32) (.int .i64 (j + 1)) rfl rfl (exec_add _ _ _ _ rfl j 1 (j + 1) rfl rfl (IntWalk.i64_in _ (by omega))) ?_
          go_frame
          refine ls_ex (some 11) (.int .i64 (j + 1)) rfl rfl (exec_assign _ rfl (.int .i64 (j + 1)) rfl) ?_
          go_frame
          refine wpList_nil ?_
          go_wp2_with fail
          go_roundw
          case rel => exact ⟨j + 1, _, by omega, by go_num, rfl, hB, ho, ho1, ho2⟩
          case measure => simp [intOf]; omega
        · have HF : Hid (allI P Q i (j) = allO P Q (i + 1)) := Lib.hid (by rw [show j = M2 by omega, ← HM2.out]; exact allI_all P Q i)
          rw [HF.out] at ho
          go_upto_region 6 with (fail)
          refine wp_region_lit ?_
          refine ls_ex (some 27) (.int .i64 j) rfl rfl (exec_move _ rfl (.int .i64 j) rfl) ?_
          go_frame
          refine ls_ex (some 28) (.slice (some ⟨g2, 0, none⟩) M2 c2) rfl rfl (exec_move _ rfl (.slice (some ⟨g2, 0, none⟩) M2 c2) rfl) ?_
          go_frame
          refine ls_ex (some 29) (.int .i64 M2) rfl rfl (exec_len _ 108 49 rfl (some ⟨g2, 0, none⟩) M2 c2 rfl Try.underlying108) ?_
          go_frame
          refine ls_ex (some 30) (.bool false) rfl rfl (exec_lss _ _ _ _ rfl j M2 rfl rfl false (decide_eq_false (by omega))) ?_
          go_frame
          refine wpList_nil ?_
          go_upto_region 4 with (fail)
          refine wp_region_lit ?_
          refine ls_ex (some 25) (.int .i64 i) rfl rfl (exec_move _ rfl (.int .i64 i) rfl) ?_
          go_frame
          refine ls_ex (some 26) (.int .i64 (i + 1)) rfl rfl (exec_add _ _ _ _ rfl i 1 (i + 1) rfl rfl (IntWalk.i64_in _ (by omega))) ?_
          go_frame
          refine ls_ex (some 10) (.int .i64 (i + 1)) rfl rfl (exec_assign _ rfl (.int .i64 (i + 1)) rfl) ?_
          go_frame
          refine wpList_nil ?_
          go_wp2_with fail
          go_roundw
          case rel => exact ⟨i + 1, _, by omega, by go_num, rfl, hB, ho, ho1, ho2⟩
          case measure => simp [intOf]; omega
    · have HF : Hid (allO P Q (i) = allP P Q) := Lib.hid (by unfold allP; rw [show i = M1 by omega, HM1.out])
      rw [HF.out] at ho
      go_upto_region 3 with (fail)
      refine wp_region_lit ?_
      refine ls_ex (some 21) (.int .i64 i) rfl rfl (exec_move _ rfl (.int .i64 i) rfl) ?_
      go_frame
      refine ls_ex (some 22) (.slice (some ⟨g1, 0, none⟩) M1 c1) rfl rfl (exec_move _ rfl (.slice (some ⟨g1, 0, none⟩) M1 c1) rfl) ?_
      go_frame
      refine ls_ex (some 23) (.int .i64 M1) rfl rfl (exec_len _ 108 49 rfl (some ⟨g1, 0, none⟩) M1 c1 rfl Try.underlying108) ?_
      go_frame
      refine ls_ex (some 24) (.bool false) rfl rfl (exec_lss _ _ _ _ rfl i M1 rfl rfl false (decide_eq_false (by omega))) ?_
      go_frame
      refine wpList_nil ?_
      go_upto_region 9 with (fail)
      refine wp_region_lit ?_
      refine ls_ex (some 45) (v) rfl rfl (exec_move _ rfl (v) rfl) ?_
      go_frame
      refine ls_ex (some 6) (v) rfl rfl (exec_assign _ rfl (v) rfl) ?_
      go_frame
      refine wpList_nil ?_
      go_wp2_with fail
      go_ret
      exact ⟨_, rfl, ho, hB⟩
set_option maxHeartbeats 12800000 in
theorem allPairs_c (n m k : Int) (P Q : Nat) (hP : 1 ≤ P ∧ P ≤ 4) (hQ : 1 ≤ Q ∧ Q ≤ 4) (hPe : n * m = (P : Int)) (hQe : m * k = (Q : Int)) (hn9 : sizeB n = true) (hm9 : sizeB m = true) (hk9 : sizeB k = true) (w : World) :
    Calls Try.prog 52 #[.agg #[.int .i64 n, .int .i64 m, .int .i64 k]] w (fun e w' => ∃ v, e = .returned v ∧ OwnR w' w.heap.size v (allP P Q) ∧ Below w.heap.size w w') := by
  have hB := Below.refl w.heap.size w
  obtain ⟨M1, hM1⟩ : ∃ z9, 2 ^ P - 1 = z9 := ⟨_, rfl⟩
  obtain ⟨M2, hM2⟩ : ∃ z9, 2 ^ Q - 1 = z9 := ⟨_, rfl⟩
  have hM1b := pow1_b hP hM1
  have hM2b := pow1_b hQ hM2
  have HM1 := Lib.hid hM1
  have HM2 := Lib.hid hM2
  clear hM1 hM2
  have HPe : Hid (n * m = (P : Int)) := Lib.hid hPe
  have HQe : Hid (m * k = (Q : Int)) := Lib.hid hQe
  clear hPe hQe
  go_enter Try.func52, Try.ntmps52
  go_upto_region 0 with (fail)
  refine wp_region_lit ?_
  refine ls_op rfl (fun K' hK' => ?_)
  have lz1 := hB.size
  refine wp_new (some 1) rfl (exec_box 77 _ rfl (#[.int .i64 n, .int .i64 m, .int .i64 k]) rfl) (fun Wz2 nnz3 => ?_)
  have bz4 := nnz3.below (Below.refl _ _) (Nat.le_refl _)
  replace hB := below_after hB bz4
  have hz5 : At Wz2 w.heap.size (.cells #[.int .i64 n, .int .i64 m, .int .i64 k] 77 (0, 0)) := nnz3.at_
  refine hK' _ _ ?_
  clear hK' K' nnz3 bz4
  go_frame
  refine ls_ex (some 2) (.slice none 0 0) rfl rfl (exec_assign _ rfl (.slice none 0 0) rfl) ?_
  go_frame
  refine wpList_nil ?_
  go_upto_region 1 with (fail)
  refine wp_region_lit ?_
  refine ls_ex (some 3) (.slice none 0 0) rfl rfl (exec_assign _ rfl (.slice none 0 0) rfl) ?_
  go_frame
  refine wpList_nil ?_
  go_upto_region 2 with (fail)
  refine wp_region_lit ?_
  refine ls_ex (some 9) (.agg #[.int .i64 n, .int .i64 m, .int .i64 k]) rfl rfl (exec_load_all 77 _ rfl w.heap.size rfl _ _ _ hz5 Try.underlying77 rfl 3 (by kernel_rfl) rfl) ?_
  go_frame
  refine ls_op rfl (fun K' hK' => ?_)
  have lz8 := hB.size
  have lz9 := hz5.lt
  refine wp_call1 (some 10) rfl 75 _ _ rfl (fun args w => by kernel_rfl) _ rfl _ (shapes_c n m k _) (fun e Wz6 h => ?_)
  obtain ⟨rfl, bz7⟩ := h
  replace hB := below_after hB bz7
  replace hz5 := hz5.after bz7
  clear bz7
  refine ⟨_, rfl, ?_⟩
  refine hK' _ _ ?_
  clear hK' K'
  go_frame
  refine ls_op rfl (fun K' hK' => ?_)
  have lz10 := hB.size
  have lz11 := hz5.lt
  refine wp_new (some 4) rfl (al__3_impl_shape rfl) (fun Wz12 nnz13 => ?_)
  have bz14 := nnz13.below (Below.refl _ _) (Nat.le_refl _)
  replace hB := below_after hB bz14
  replace hz5 := hz5.after bz14
  have hz15 : At Wz12 Wz6.heap.size (.cells #[.int .i64 0, .int .i64 0, .int .i64 0, .int .i64 0, .int .i64 0, .int .i64 0] 93 (0, 0)) := nnz13.at_
  refine hK' _ _ ?_
  clear hK' K' nnz13 bz14
  go_frame
  refine ls_op rfl (fun K' hK' => ?_)
  refine wp_store_all 93 _ _ rfl rfl Wz6.heap.size rfl #[.int .i64 n, .int .i64 m, .int .i64 m, .int .i64 k, .int .i64 n, .int .i64 k] rfl _ _ hz15 6 (by kernel_rfl) rfl rfl (by intro x hx; simp at hx; rcases hx with rfl | rfl | rfl | rfl | rfl | rfl <;> rfl) (fun Wz16 pz17 => ?_)
  replace hB := pz17.below hB (by omega)
  replace hz5 := pz17.other hz5 (by omega)
  replace hz15 : At Wz16 Wz6.heap.size (.cells #[.int .i64 n, .int .i64 m, .int .i64 m, .int .i64 k, .int .i64 n, .int .i64 k] 93 (0, 0)) := pz17.at_
  refine hK' _ _ ?_
  clear hK' K' pz17
  refine wpList_nil ?_
  go_upto_region 3 with (fail)
  refine wp_region_lit ?_
  refine ls_ex (some 11) (.pointer (some ⟨Wz6.heap.size, 0, none⟩)) rfl rfl (exec_index_arr _ 92 _ _ rfl Wz6.heap.size 0 3 0 2 rfl rfl Try.underlying93 (by kernel_rfl) (by omega)) ?_
  go_frame
  refine ls_ex (some 12) (.agg #[.int .i64 n, .int .i64 m]) rfl rfl (exec_load_lit 92 _ rfl Wz6.heap.size 0 rfl _ _ _ 2 hz15 Try.underlying92 rfl (by kernel_rfl) (by simp) #[.int .i64 n, .int .i64 m] rfl) ?_
  go_frame
  refine ls_op rfl (fun K' hK' => ?_)
  have lz20 := hB.size
  have lz21 := hz5.lt
  have lz22 := hz15.lt
  refine wp_call1 (some 13) rfl 77 _ _ rfl (fun args w => by kernel_rfl) _ rfl _ (places_c n m _ hn9 hm9) (fun e Wz18 h => ?_)
  obtain ⟨rfl, bz19⟩ := h
  replace hB := below_after hB bz19
  replace hz5 := hz5.after bz19
  replace hz15 := hz15.after bz19
  rw [HPe.out]
  clear bz19
  refine ⟨_, rfl, ?_⟩
  refine hK' _ _ ?_
  clear hK' K'
  go_frame
  refine ls_op rfl (fun K' hK' => ?_)
  have lz25 := hB.size
  have lz26 := hz5.lt
  have lz27 := hz15.lt
  have lo9 := hB.size
  refine wp_call1 (some 14) rfl 76 _ _ rfl (fun args w => by kernel_rfl) _ rfl _ (smallForms_c P hP _) (fun e Wz23 h => ?_)
  obtain ⟨v9, rfl, ho1, bz24⟩ := h
  replace hB := below_after hB bz24
  replace hz5 := hz5.after bz24
  replace hz15 := hz15.after bz24
  replace ho1 := ho1.mono (lo' := w.heap.size) (by omega)
  obtain ⟨g1, c1, rfl⟩ := ho1.slc (M := M1) (by rw [fms_len, HM1.out]) (by omega)
  clear bz24
  refine ⟨_, rfl, ?_⟩
  refine hK' _ _ ?_
  clear hK' K'
  go_frame
  refine ls_ex (some 15) (.int .i64 M1) rfl rfl (exec_len _ 108 49 rfl (some ⟨g1, 0, none⟩) M1 c1 rfl Try.underlying108) ?_
  go_frame
  refine ls_ex (some 16) (.int .i64 0) rfl rfl (exec_move _ rfl (.int .i64 0) rfl) ?_
  go_frame
  refine wpList_nil ?_
  go_wp2_with fail
  go_loopw [3, 16] (fun s3 s16 wr => ∃ (i : Nat) (v : Value), i ≤ M1 ∧ s16 = .int .i64 i ∧ v = s3 ∧ Below w.heap.size w wr ∧ At wr Wz6.heap.size (.cells #[.int .i64 n, .int .i64 m, .int .i64 m, .int .i64 k, .int .i64 n, .int .i64 k] 93 (0, 0)) ∧ OwnR wr w.heap.size v (allO P Q (i)) ∧ OwnW wr w.heap.size (.slice (some ⟨g1, 0, none⟩) M1 c1) (fms P)) (fun _ s16 _ => M1 - (intOf s16).toNat)
  case atStart => exact ⟨0, _, by omega, rfl, rfl, hB, hz15, by rw [allO_zero]; exact OwnR.nil _ _, ho1⟩
  case round =>
    clear hB hz5 hz15 ho1
    obtain ⟨i, v, hi, rfl, rfl, hB, h4, ho, ho1⟩ := hrel
    by_cases hlt : i < M1
    · have hi1 : i < M1 := hlt
      go_upto_region 4 with (fail)
      refine wp_region_lit ?_
      refine ls_ex (some 17) (.bool true) rfl rfl (exec_lss _ _ _ _ rfl i M1 rfl rfl true (decide_eq_true (by omega))) ?_
      go_frame
      refine wpList_nil ?_
      go_upto_region 5 with (fail)
      refine wp_region_lit ?_
      refine ls_ex (some 18) (.pointer (some ⟨g1, i * 9, none⟩)) rfl rfl (exec_ix0 _ 49 _ _ rfl g1 M1 c1 i 9 rfl rfl Try.underlying108 (by kernel_rfl) hi1) ?_
      go_frame
      refine ls_ex (some 19) (.agg (u8s (fmN P i))) rfl rfl (exec_load_cells 49 _ rfl g1 (i * 9) rfl (fmN P i) _ 9 (OwnW.cN ho1 (by rw [HM1.out]; exact hi1)) Try.underlying49 rfl (by kernel_rfl) (fmI_len _ _ _)) ?_
      go_frame
      refine ls_op rfl (fun K' hK' => ?_)
      have lz28 := hB.size
      have lz29 := h4.lt
      have naz34 := ho.away_new
      have naz35 := ho1.away_new
      refine wp_new (some 6) rfl (al_impl_Form rfl) (fun Wz30 nnz31 => ?_)
      have bz32 := nnz31.below (Below.refl _ _) (Nat.le_refl _)
      replace hB := below_after hB bz32
      replace h4 := h4.after bz32
      replace ho := ho.below bz32
      replace ho1 := ho1.below bz32
      have hz33 : At Wz30 wr.heap.size (.cells (u8s (List.replicate 9 0)) 49 (0, 0)) := nnz31.at_
      refine hK' _ _ ?_
      clear hK' K' nnz31 bz32
      go_frame
      refine ls_op rfl (fun K' hK' => ?_)
      refine wp_store_bytes 49 _ _ rfl rfl wr.heap.size rfl (fmN P i) rfl _ _ hz33 9 (by kernel_rfl) (fmI_len _ _ _) (by simp) (fun Wz36 pz37 => ?_)
      replace hB := pz37.below hB (by omega)
      replace h4 := pz37.other h4 (by omega)
      replace ho := ho.put pz37 naz34
      replace ho1 := ho1.put pz37 naz35
      replace hz33 : At Wz36 wr.heap.size (.cells (u8s (fmN P i)) 49 (0, 0)) := pz37.at_
      refine hK' _ _ ?_
      clear hK' K' pz37
      refine wpList_nil ?_
      go_upto_region 6 with (fail)
      refine wp_region_lit ?_
      refine ls_ex (some 20) (.pointer (some ⟨Wz6.heap.size, 2, none⟩)) rfl rfl (exec_index_arr _ 92 _ _ rfl Wz6.heap.size 0 3 1 2 rfl rfl Try.underlying93 (by kernel_rfl) (by omega)) ?_
      go_frame
      refine ls_ex (some 21) (.agg #[.int .i64 m, .int .i64 k]) rfl rfl (exec_load_lit 92 _ rfl Wz6.heap.size 2 rfl _ _ _ 2 h4 Try.underlying92 rfl (by kernel_rfl) (by simp) #[.int .i64 m, .int .i64 k] rfl) ?_
      go_frame
      refine ls_op rfl (fun K' hK' => ?_)
      have lz40 := hB.size
      have lz41 := h4.lt
      have lz42 := hz33.lt
      refine wp_call1 (some 22) rfl 77 _ _ rfl (fun args w => by kernel_rfl) _ rfl _ (places_c m k _ hm9 hk9) (fun e Wz38 h => ?_)
      obtain ⟨rfl, bz39⟩ := h
      replace hB := below_after hB bz39
      replace h4 := h4.after bz39
      replace ho := ho.below bz39
      replace ho1 := ho1.below bz39
      replace hz33 := hz33.after bz39
      rw [HQe.out]
      clear bz39
      refine ⟨_, rfl, ?_⟩
      refine hK' _ _ ?_
      clear hK' K'
      go_frame
      refine ls_op rfl (fun K' hK' => ?_)
      have lz45 := hB.size
      have lz46 := h4.lt
      have lz47 := hz33.lt
      have lo9 := hB.size
      refine wp_call1 (some 23) rfl 76 _ _ rfl (fun args w => by kernel_rfl) _ rfl _ (smallForms_c Q hQ _) (fun e Wz43 h => ?_)
      obtain ⟨v9, rfl, ho2, bz44⟩ := h
      replace hB := below_after hB bz44
      replace h4 := h4.after bz44
      replace ho := ho.below bz44
      replace ho1 := ho1.below bz44
      replace hz33 := hz33.after bz44
      replace ho2 := ho2.mono (lo' := w.heap.size) (by omega)
      obtain ⟨g2, c2, rfl⟩ := ho2.slc (M := M2) (by rw [fms_len, HM2.out]) (by omega)
      clear bz44
      refine ⟨_, rfl, ?_⟩
      refine hK' _ _ ?_
      clear hK' K'
      go_frame
      refine ls_ex (some 24) (.int .i64 M2) rfl rfl (exec_len _ 108 49 rfl (some ⟨g2, 0, none⟩) M2 c2 rfl Try.underlying108) ?_
      go_frame
      refine ls_ex (some 25) (.int .i64 0) rfl rfl (exec_move _ rfl (.int .i64 0) rfl) ?_
      go_frame
      refine wpList_nil ?_
      go_wp2_with fail
      obtain ⟨we, rfl⟩ : ∃ x : World, x = wr := ⟨_, rfl⟩
      go_loopw [3, 25] (fun s3 s25 wr => ∃ (j : Nat) (v2 : Value), j ≤ M2 ∧ s25 = .int .i64 j ∧ v2 = s3 ∧ Below w.heap.size w wr ∧ At wr Wz6.heap.size (.cells #[.int .i64 n, .int .i64 m, .int .i64 m, .int .i64 k, .int .i64 n, .int .i64 k] 93 (0, 0)) ∧ At wr we.heap.size (.cells (u8s (fmN P i)) 49 (0, 0)) ∧ OwnR wr w.heap.size v2 (allI P Q i (j)) ∧ OwnW wr w.heap.size (.slice (some ⟨g1, 0, none⟩) M1 c1) (fms P) ∧ OwnW wr w.heap.size (.slice (some ⟨g2, 0, none⟩) M2 c2) (fms Q)) (fun _ s25 _ => M2 - (intOf s25).toNat)
      case atStart => exact ⟨0, _, by omega, rfl, rfl, hB, h4, hz33, by rw [allI_zero]; exact ho, ho1, ho2⟩
      case round =>
        clear hB h4 ho ho1 hz33 ho2
        obtain ⟨j, v2, hj, rfl, rfl, hB, h4, h6, ho, ho1, ho2⟩ := hrel
        by_cases hlt2 : j < M2
        · obtain ⟨L, hL⟩ : ∃ z9, (allI P Q i (j)).length = z9 := ⟨_, rfl⟩
          obtain ⟨A9, c9, rfl⟩ := OwnR.rdN ho hL
          have HT : Hid (allI P Q i (j) ++ [catR (fmN P i) (fmN Q j)] = allI P Q i (j + 1)) := Lib.hid (allI_step P Q i j)
          have hAL := allI_le (P := P) (Q := Q) (i := i) (j := j) hP hQ (by rw [HM1.out]; omega) (by rw [HM2.out]; omega)
          have HAS : Hid ((allI P Q i (j + 1)).length = (allI P Q i (j)).length + 1) := Lib.hid (by rw [← HT.out, List.length_append]; rfl)
          rw [hL] at hAL HAS
          have HL := Lib.hid hL
          clear hL
          go_upto_region 7 with (fail)
          refine wp_region_lit ?_
          refine ls_ex (some 26) (.bool true) rfl rfl (exec_lss _ _ _ _ rfl j M2 rfl rfl true (decide_eq_true (by omega))) ?_
          go_frame
          refine wpList_nil ?_
          go_upto_region 8 with (fail)
          refine wp_region_lit ?_
          refine ls_ex (some 27) (.pointer (some ⟨g2, j * 9, none⟩)) rfl rfl (exec_ix0 _ 49 _ _ rfl g2 M2 c2 j 9 rfl rfl Try.underlying108 (by kernel_rfl) hlt2) ?_
          go_frame
          refine ls_ex (some 28) (.agg (u8s (fmN Q j))) rfl rfl (exec_load_cells 49 _ rfl g2 (j * 9) rfl (fmN Q j) _ 9 (OwnW.cN ho2 (by rw [HM2.out]; exact hlt2)) Try.underlying49 rfl (by kernel_rfl) (fmI_len _ _ _)) ?_
          go_frame
          refine ls_op rfl (fun K' hK' => ?_)
          have lz48 := hB.size
          have lz49 := h4.lt
          have lz50 := h6.lt
          have naz55 := ho.away_new
          have naz56 := ho1.away_new
          have naz57 := ho2.away_new
          refine wp_new (some 8) rfl (al_impl_Form rfl) (fun Wz51 nnz52 => ?_)
          have bz53 := nnz52.below (Below.refl _ _) (Nat.le_refl _)
          replace hB := below_after hB bz53
          replace h4 := h4.after bz53
          replace h6 := h6.after bz53
          replace ho := ho.below bz53
          replace ho1 := ho1.below bz53
          replace ho2 := ho2.below bz53
          have hz54 : At Wz51 wr.heap.size (.cells (u8s (List.replicate 9 0)) 49 (0, 0)) := nnz52.at_
          refine hK' _ _ ?_
          clear hK' K' nnz52 bz53
          go_frame
          refine ls_op rfl (fun K' hK' => ?_)
          refine wp_store_bytes 49 _ _ rfl rfl wr.heap.size rfl (fmN Q j) rfl _ _ hz54 9 (by kernel_rfl) (fmI_len _ _ _) (by simp) (fun Wz58 pz59 => ?_)
          replace hB := pz59.below hB (by omega)
          replace h4 := pz59.other h4 (by omega)
          replace h6 := pz59.other h6 (by omega)
          replace ho := ho.put pz59 naz55
          replace ho1 := ho1.put pz59 naz56
          replace ho2 := ho2.put pz59 naz57
          replace hz54 : At Wz58 wr.heap.size (.cells (u8s (fmN Q j)) 49 (0, 0)) := pz59.at_
          refine hK' _ _ ?_
          clear hK' K' pz59
          refine wpList_nil ?_
          go_upto_region 9 with (fail)
          refine wp_region_lit ?_
          refine ls_ex (some 29) (.slice A9 L c9) rfl rfl (exec_move _ rfl (.slice A9 L c9) rfl) ?_
          go_frame
          refine ls_ex (some 30) (.agg (u8s (fmN P i))) rfl rfl (exec_load_all 49 _ rfl we.heap.size rfl _ _ _ h6 Try.underlying49 rfl 9 (by kernel_rfl) ((u8s_size _).trans (fmI_len _ _ _))) ?_
          go_frame
          refine ls_ex (some 31) (.agg (u8s (fmN Q j))) rfl rfl (exec_load_all 49 _ rfl wr.heap.size rfl _ _ _ hz54 Try.underlying49 rfl 9 (by kernel_rfl) ((u8s_size _).trans (fmI_len _ _ _))) ?_
          go_frame
          refine ls_ex (some 32) (.agg (u8s (catR (fmN P i) (fmN Q j)))) rfl rfl (exec_pair _ _ rfl (fmN P i) (fmN Q j) rfl rfl (fmI_len _ _ _) (fmI_len _ _ _)) ?_
          go_frame
          refine ls_op rfl (fun K' hK' => ?_)
          have lz60 := hB.size
          have lz61 := h4.lt
          have lz62 := h6.lt
          have lz63 := hz54.lt
          refine wp_slice1R (some 33) rfl 37 74 _ rfl (catR (fmN P i) (fmN Q j)) rfl Try.underlying37 infoPair (catR_len9 (fmI_len _ _ _) (fmI_len _ _ _)) (fun Wz64 nnz65 => ?_)
          have bz66 := nnz65.below (Below.refl _ _) (Nat.le_refl _)
          replace hB := below_after hB bz66
          replace h4 := h4.after bz66
          replace h6 := h6.after bz66
          replace ho := ho.below bz66
          replace ho1 := ho1.below bz66
          replace ho2 := ho2.below bz66
          replace hz54 := hz54.after bz66
          have hqz67 : At Wz64 Wz58.heap.size (.cells (u8s (catR (fmN P i) (fmN Q j))) 74 (0, 0)) := nnz65.at_
          refine hK' _ _ ?_
          clear hK' K' nnz65 bz66
          go_frame
          refine ls_op rfl (fun K' hK' => ?_)
          have lz71 := hB.size
          have lz72 := h4.lt
          have lz73 := h6.lt
          have lz74 := hz54.lt
          have lz75 := hqz67.lt
          refine wp_appR (some 34) rfl _ _ rfl (.slice A9 L c9) (allI P Q i (j)) (catR (fmN P i) (fmN Q j)) rfl ho Wz58.heap.size rfl hqz67 (catR_len9 (fmI_len _ _ _) (fmI_len _ _ _)) (by rw [HL.out]; omega) (by omega) (fun v8 Wz68 noz70 grz69 => ?_)
          replace ho1 := ho1.grown grz69 (ho1.apartR ho)
          replace ho2 := ho2.grown grz69 (ho2.apartR ho)
          rw [HT.out] at noz70
          obtain ⟨A8, c8, rfl⟩ := OwnR.rdN noz70 (n := L + 1) HAS.out
          replace hB := below_grownR hB grz69 ho (by omega)
          replace h4 := h4.grown grz69 (ho.off h4 (by decide))
          replace h6 := h6.grown grz69 (ho.off h6 (by decide))
          replace hz54 := hz54.grown grz69 (ho.off hz54 (by decide))
          replace ho := noz70
          refine hK' _ _ ?_
          clear hK' K' grz69 hqz67
          go_frame
          refine ls_ex (some 3) (.slice A8 (L + 1) c8) rfl rfl (exec_assign _ rfl (.slice A8 (L + 1) c8) rfl) ?_
          go_frame
          refine wpList_nil ?_
          go_upto_region 10 with (fail)
          refine wp_region_lit ?_
          refine ls_ex (some 35) (.int .i64 (j + 1)) rfl rfl (exec_add _ _ _ _ rfl j 1 (j + 1) rfl rfl (IntWalk.i64_in _ (by omega))) ?_
          go_frame
          refine ls_ex (some 25) (.int .i64 (j + 1)) rfl rfl (exec_move _ rfl (.int .i64 (j + 1)) rfl) ?_
          go_frame
          refine wpList_nil ?_
          go_wp2_with fail
          go_roundw
          case rel => exact ⟨j + 1, _, by omega, by go_num, rfl, hB, h4, h6, ho, ho1, ho2⟩
          case measure => simp [intOf]; omega
        · have HF : Hid (allI P Q i (j) = allO P Q (i + 1)) := Lib.hid (by rw [show j = M2 by omega, ← HM2.out]; exact allI_all P Q i)
          rw [HF.out] at ho
          go_upto_region 7 with (fail)
          refine wp_region_lit ?_
          refine ls_ex (some 26) (.bool false) rfl rfl (exec_lss _ _ _ _ rfl j M2 rfl rfl false (decide_eq_false (by omega))) ?_
          go_frame
          refine wpList_nil ?_
          go_upto_region 11 with (fail)
          refine wp_region_lit ?_
          refine ls_ex (some 36) (.int .i64 (i + 1)) rfl rfl (exec_add _ _ _ _ rfl i 1 (i + 1) rfl rfl (IntWalk.i64_in _ (by omega))) ?_
          go_frame
          refine ls_ex (some 16) (.int .i64 (i + 1)) rfl rfl (exec_move _ rfl (.int .i64 (i + 1)) rfl) ?_
          go_frame
          refine wpList_nil ?_
          go_wp2_with fail
          go_roundw
          case rel => exact ⟨i + 1, _, by omega, by go_num, rfl, hB, h4, ho, ho1⟩
          case measure => simp [intOf]; omega
    · have HF : Hid (allO P Q (i) = allP P Q) := Lib.hid (by unfold allP; rw [show i = M1 by omega, HM1.out])
      rw [HF.out] at ho
      go_upto_region 4 with (fail)
      refine wp_region_lit ?_
      refine ls_ex (some 17) (.bool false) rfl rfl (exec_lss _ _ _ _ rfl i M1 rfl rfl false (decide_eq_false (by omega))) ?_
      go_frame
      refine wpList_nil ?_
      go_upto_region 12 with (fail)
      refine wp_region_lit ?_
      refine ls_ex (some 37) (v) rfl rfl (exec_move _ rfl (v) rfl) ?_
      go_frame
      refine ls_ex (some 2) (v) rfl rfl (exec_assign _ rfl (v) rfl) ?_
      go_frame
      refine wpList_nil ?_
      go_wp2_with fail
      go_ret
      exact ⟨_, rfl, ho, hB⟩
end Go.Proofs.Ytppenoincihoeaa
