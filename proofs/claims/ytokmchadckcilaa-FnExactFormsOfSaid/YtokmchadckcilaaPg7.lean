/-
  impl.nodesOf. (Made by mkpg7.py.)
-/
import Derived.Test.YtokmchadckcilaaPg6
namespace Go.Proofs.Ytokmchadckcilaa
open Go.RowKit
set_option maxRecDepth 100000
attribute [local irreducible] wpList
theorem pg_max2 {P : Program} {o : Oper} {a : Act} {w : World} (x y : Operand) (t : TypeId) (ho : o.op = .call { callee := .builtin .max, args := #[x, y], argTypes := #[t, t] }) (m0 m1 : Int) (hx : a.eval x = .int .i64 m0) (hy : a.eval y = .int .i64 m1) (r : Int)
    (hr : (if m0 < m1 then m1 else m0) = r) : (execOp a.eval o).run P w = .ok (.value (.int .i64 r)) w := by
  subst hr
  unfold execOp
  simp only [ho, hx, hy, resolve, invoke, builtin, Sem.run_bind, Sem.run_pure, Result.andThen_ok, List.map_toArray, List.map_cons, List.map_nil]
  simp [go_sem]
  rw [Int.max_def]
  split <;> split <;> omega
theorem nd_four {g M i : Nat} {F G : Nat → Nd} {x1 x2 x3 x4 : Nd} (h : ∀ j, updN F i x4 j = G j) : ndArr g M (updN (updN (updN (updN F i x1) i x2) i x3) i x4) = ndArr g M G :=
  ndArr_congr fun j _ => by rw [updN_updN, updN_updN, updN_updN]; exact h j
set_option maxHeartbeats 12800000 in
theorem nodesOf_c (p : Int) (N M : Nat) (As Ao : Option Addr) (cs co : Nat) (ss os : List (List Int)) (w : World) (hs : RdK 3 w As ss) (hM1 : N + ss.length ≤ M) (hM2 : M ≤ N + ss.length) (hN : N ≤ 30) (hl : ss.length ≤ 900) (hst : ∀ k (hk : k < ss.length), ∃ (L R : Nat) (f : Int), ss[k] = [(L : Int), (R : Int), f] ∧ L < N + k ∧ R < N + k ∧ L ≠ R) :
    Calls Try.prog 50 #[.agg #[.int .i64 p, .int .i64 (N : Int), .slice As ss.length cs, .slice Ao os.length co]] w (fun e w' => ∃ g, e = .returned (.slice (some ⟨g, 0, none⟩) M M) ∧ w.heap.size ≤ g ∧ At w' g (.cells (ndArr g M (ndOf N ss ss.length)) 77 (0, 0)) ∧ Below w.heap.size w w') := by
  have hB := Below.refl w.heap.size w
  have HSt := Lib.hid hst
  have hN9 : N ≤ 30 := hN
  clear hst hN
  go_enter Try.func50, Try.ntmps50
  go_upto_region 0 with (fail)
  refine wp_region_lit ?_
  refine ls_op rfl (fun K' hK' => ?_)
  have lz1 := hB.size
  refine wp_new (some 1) rfl (exec_box 36 _ rfl (#[.int .i64 p, .int .i64 (N : Int), .slice As ss.length cs, .slice Ao os.length co]) rfl) (fun Wz2 nnz3 => ?_)
  have bz4 := nnz3.below (Below.refl _ _) (Nat.le_refl _)
  replace hB := below_after hB bz4
  have hz5 : At Wz2 w.heap.size (.cells #[.int .i64 p, .int .i64 (N : Int), .slice As ss.length cs, .slice Ao os.length co] 36 (0, 0)) := nnz3.at_
  refine hK' _ _ ?_
  clear hK' K' nnz3 bz4
  go_frame
  refine ls_ex (some 2) (.slice none 0 0) rfl rfl (exec_assign _ rfl (.slice none 0 0) rfl) ?_
  go_frame
  refine wpList_nil ?_
  go_upto_region 1 with (fail)
  refine wp_region_lit ?_
  refine ls_ex (some 10) (.pointer (some ⟨w.heap.size, 1, none⟩)) rfl rfl (exec_fieldAddr 36 _ 1 rfl _ (by kernel_rfl)) ?_
  go_frame
  refine ls_ex (some 11) (.int .i64 (N : Int)) rfl rfl (exec_load_one 2 _ rfl w.heap.size 1 rfl (.int .i64 (N : Int)) _ Try.underlying2 rfl (hz5.at_ 1)) ?_
  go_frame
  refine ls_ex (some 12) (.pointer (some ⟨w.heap.size, 2, none⟩)) rfl rfl (exec_fieldAddr 36 _ 2 rfl _ (by kernel_rfl)) ?_
  go_frame
  refine ls_ex (some 13) (.slice As ss.length cs) rfl rfl (exec_load_one 33 _ rfl w.heap.size 2 rfl (.slice As ss.length cs) _ Try.underlying33 rfl (hz5.at_ 2)) ?_
  go_frame
  refine ls_ex (some 14) (.int .i64 ss.length) rfl rfl (exec_len _ 33 57 rfl As ss.length cs rfl Try.underlying33) ?_
  go_frame
  refine ls_ex (some 15) (.int .i64 (M : Int)) rfl rfl (exec_add _ _ _ _ rfl (N : Int) (ss.length : Int) (M : Int) rfl rfl (by rw [IntWalk.i64_in _ (by omega)]; omega)) ?_
  go_frame
  refine ls_op rfl (fun K' hK' => ?_)
  have lz6 := hB.size
  have lz7 := hz5.lt
  refine wp_make_nd (some 16) rfl _ _ rfl M rfl rfl (by omega) (fun Wz8 nnz9 => ?_)
  have bz10 := nnz9.below (Below.refl _ _) (Nat.le_refl _)
  replace hB := below_after hB bz10
  replace hz5 := hz5.after bz10
  have hN : At Wz8 Wz2.heap.size (.cells (ndArr Wz2.heap.size M (fun _ => ndZ)) 77 (0, 0)) := nnz9.at_
  refine hK' _ _ ?_
  clear hK' K' nnz9 bz10
  go_frame
  refine ls_ex (some 3) (.slice (some ⟨Wz2.heap.size, 0, none⟩) M M) rfl rfl (exec_assign _ rfl (.slice (some ⟨Wz2.heap.size, 0, none⟩) M M) rfl) ?_
  go_frame
  refine wpList_nil ?_
  go_upto_region 2 with (fail)
  refine wp_region_lit ?_
  refine ls_ex (some 17) (.slice (some ⟨Wz2.heap.size, 0, none⟩) M M) rfl rfl (exec_move _ rfl (.slice (some ⟨Wz2.heap.size, 0, none⟩) M M) rfl) ?_
  go_frame
  refine ls_ex (some 18) (.int .i64 M) rfl rfl (exec_len _ 73 77 rfl ((some ⟨Wz2.heap.size, 0, none⟩)) M M rfl Try.underlying73) ?_
  go_frame
  refine ls_ex (some 19) (.int .i64 0) rfl rfl (exec_move _ rfl (.int .i64 0) rfl) ?_
  go_frame
  refine wpList_nil ?_
  go_wp2_with fail
  go_loopw [19] (fun s19 wr => ∃ a : Nat, a ≤ M ∧ s19 = .int .i64 a ∧ Below w.heap.size w wr ∧ At wr w.heap.size (.cells #[.int .i64 p, .int .i64 (N : Int), .slice As ss.length cs, .slice Ao os.length co] 36 (0, 0)) ∧ At wr Wz2.heap.size (.cells (ndArr Wz2.heap.size M (ndA a)) 77 (0, 0))) (fun s19 _ => M - (intOf s19).toNat)
  case atStart => exact ⟨0, by omega, rfl, hB, hz5, hN⟩
  case round =>
    clear hB hz5 hN
    obtain ⟨a, ha, rfl, hB, h0, hN⟩ := hrel
    by_cases hlt : a < M
    · go_upto_region 3 with (fail)
      refine wp_region_lit ?_
      refine ls_ex (some 20) (.bool true) rfl rfl (exec_lss _ _ _ _ rfl a M rfl rfl true (decide_eq_true (by omega))) ?_
      go_frame
      refine wpList_nil ?_
      go_upto_region 4 with (fail)
      refine wp_region_lit ?_
      refine ls_ex (some 21) (.int .i64 a) rfl rfl (exec_move _ rfl (.int .i64 a) rfl) ?_
      go_frame
      refine ls_ex (some 4) (.int .i64 a) rfl rfl (exec_assign _ rfl (.int .i64 a) rfl) ?_
      go_frame
      refine wpList_nil ?_
      go_upto_region 5 with (fail)
      refine wp_region_lit ?_
      refine ls_ex (some 22) (.slice (some ⟨Wz2.heap.size, 0, none⟩) M M) rfl rfl (exec_move _ rfl (.slice (some ⟨Wz2.heap.size, 0, none⟩) M M) rfl) ?_
      go_frame
      refine ls_ex (some 23) (.int .i64 a) rfl rfl (exec_move _ rfl (.int .i64 a) rfl) ?_
      go_frame
      refine ls_ex (some 24) (.int .i64 a) rfl rfl (exec_move _ rfl (.int .i64 a) rfl) ?_
      go_frame
      refine ls_ex (some 25) (.pointer (some ⟨Wz2.heap.size, a * 7, none⟩)) rfl rfl (exec_ix0 _ 77 _ _ rfl Wz2.heap.size M M a 7 rfl rfl Try.underlying73 (by kernel_rfl) (by omega)) ?_
      go_frame
      refine ls_ex (some 26) (.pointer (some ⟨Wz2.heap.size, a * 7 + 3, none⟩)) rfl rfl (exec_fieldAddr 77 _ 3 rfl _ (by kernel_rfl)) ?_
      go_frame
      refine ls_op rfl (fun K' hK' => ?_)
      refine wp_store_nd 2 _ _ rfl rfl Wz2.heap.size M a 3 ((ndA a)) ⟨none, none, 0, (a : Int), 0, 0, false⟩ rfl (.int .i64 (a : Int)) rfl _ hN (by kernel_rfl) (by omega) (by omega) (by rw [show ndA a a = ndZ from if_neg (by omega)]; rfl) (by simp [ndC, ndP]) (fun Wz11 pz12 => ?_)
      replace hB := pz12.below hB (by omega)
      replace h0 := pz12.other h0 (by omega)
      replace hN : At Wz11 Wz2.heap.size (.cells (ndArr Wz2.heap.size M (updN ((ndA a)) a ⟨none, none, 0, (a : Int), 0, 0, false⟩)) 77 (0, 0)) := pz12.at_
      refine hK' _ _ ?_
      clear hK' K' pz12
      refine wpList_nil ?_
      go_upto_region 6 with (fail)
      refine wp_region_lit ?_
      refine ls_ex (some 27) (.int .i64 (a + 1)) rfl rfl (exec_add _ _ _ _ rfl a 1 (a + 1) rfl rfl (IntWalk.i64_in _ (by omega))) ?_
      go_frame
      refine ls_ex (some 19) (.int .i64 (a + 1)) rfl rfl (exec_move _ rfl (.int .i64 (a + 1)) rfl) ?_
      go_frame
      refine wpList_nil ?_
      go_wp2_with fail
      go_roundw
      case rel => exact ⟨a + 1, by omega, by go_num, hB, h0, by have h9 := hN; rwa [ndArr_congr (fun j _ => ndA_step a j)] at h9⟩
      case measure => simp [intOf]; omega
    · have hN2 : At wr Wz2.heap.size (.cells (ndArr Wz2.heap.size M (ndOf N ss 0)) 77 (0, 0)) := by have h9 := hN; rwa [show a = M by omega, ndArr_congr (ndOf_zero N ss M)] at h9
      clear hN
      rename At wr Wz2.heap.size (.cells (ndArr Wz2.heap.size M (ndOf N ss 0)) 77 (0, 0)) => hN
      go_upto_region 3 with (fail)
      refine wp_region_lit ?_
      refine ls_ex (some 20) (.bool false) rfl rfl (exec_lss _ _ _ _ rfl a M rfl rfl false (decide_eq_false (by omega))) ?_
      go_frame
      refine wpList_nil ?_
      go_upto_region 7 with (fail)
      refine wp_region_lit ?_
      refine ls_ex (some 28) (.pointer (some ⟨w.heap.size, 2, none⟩)) rfl rfl (exec_fieldAddr 36 _ 2 rfl _ (by kernel_rfl)) ?_
      go_frame
      refine ls_ex (some 29) (.slice As ss.length cs) rfl rfl (exec_load_one 33 _ rfl w.heap.size 2 rfl (.slice As ss.length cs) _ Try.underlying33 rfl (h0.at_ 2)) ?_
      go_frame
      refine ls_ex (some 30) (.int .i64 ss.length) rfl rfl (exec_len _ 33 57 rfl As ss.length cs rfl Try.underlying33) ?_
      go_frame
      refine ls_ex (some 31) (.int .i64 0) rfl rfl (exec_move _ rfl (.int .i64 0) rfl) ?_
      go_frame
      refine wpList_nil ?_
      go_wp2_with fail
      obtain ⟨we, rfl⟩ : ∃ x : World, x = wr := ⟨_, rfl⟩
      go_loopw [31] (fun s31 wr => ∃ k : Nat, k ≤ ss.length ∧ s31 = .int .i64 k ∧ Below w.heap.size w wr ∧ At wr w.heap.size (.cells #[.int .i64 p, .int .i64 (N : Int), .slice As ss.length cs, .slice Ao os.length co] 36 (0, 0)) ∧ At wr Wz2.heap.size (.cells (ndArr Wz2.heap.size M (ndOf N ss k)) 77 (0, 0))) (fun s31 _ => ss.length - (intOf s31).toNat)
      case atStart => exact ⟨0, by omega, rfl, hB, h0, hN⟩
      case round =>
        clear hB h0 hN
        obtain ⟨k, hk, rfl, hB, h0, hN⟩ := hrel
        by_cases hlt : k < ss.length
        · obtain ⟨b, off, rfl, hc⟩ := (hs.keep hB).at_ hlt
          clear hc
          obtain ⟨L, R, f, hq, hL, hR, hLR⟩ := HSt.out k hlt
          have Hq := Lib.hid hq
          have hLk : L ≠ N + k := by omega
          have hRk : R ≠ N + k := by omega
          have dL := depsL_b N ss k L
          have dR := depsL_b N ss k R
          obtain ⟨mx, hmx⟩ : ∃ mx, (if getI (depsL N ss k) L < getI (depsL N ss k) R then getI (depsL N ss k) R else getI (depsL N ss k) L) = mx := ⟨_, rfl⟩
          have hmb : 0 ≤ mx ∧ mx ≤ k := by rw [← hmx]; split <;> omega
          have HMx := Lib.hid hmx
          have HS : Hid (∀ j, updN (ndOf N ss k) (N + k) ⟨some L, some R, f, ((N + k : Nat) : Int), 0, 1 + mx, false⟩ j = ndOf N ss (k + 1) j) := Lib.hid (by have h := ndOf_step (N := N) hlt; rw [hq] at h; have hd : depV (depsL N ss k) [(L : Int), (R : Int), f] = 1 + mx := (by rw [← hmx]; rfl); rw [hd] at h; exact h)
          clear hq hmx
          go_upto_region 8 with (fail)
          refine wp_region_lit ?_
          refine ls_ex (some 32) (.bool true) rfl rfl (exec_lss _ _ _ _ rfl k ss.length rfl rfl true (decide_eq_true (by omega))) ?_
          go_frame
          refine wpList_nil ?_
          go_upto_region 9 with (fail)
          refine wp_region_lit ?_
          refine ls_ex (some 33) (.int .i64 k) rfl rfl (exec_move _ rfl (.int .i64 k) rfl) ?_
          go_frame
          refine ls_ex (some 34) (.pointer (some ⟨b, off + k * 3, none⟩)) rfl rfl (exec_index_slice _ 57 _ _ rfl b off ss.length cs k 3 rfl rfl Try.underlying33 (by kernel_rfl) (by omega)) ?_
          go_frame
          refine ls_ex (some 35) (.agg #[.int .i64 (L : Int), .int .i64 (R : Int), .int .i64 f]) rfl rfl (exec_load_3 57 _ rfl b (off + k * 3) rfl (L : Int) (R : Int) f _ (RdK.cells_3 (hs.keep hB) hlt Hq.out) Try.underlying57 rfl (by kernel_rfl)) ?_
          go_frame
          refine ls_op rfl (fun K' hK' => ?_)
          have lz13 := hB.size
          have lz14 := h0.lt
          have lz15 := hN.lt
          refine wp_new (some 6) rfl (al_impl_Step rfl) (fun Wz16 nnz17 => ?_)
          have bz18 := nnz17.below (Below.refl _ _) (Nat.le_refl _)
          replace hB := below_after hB bz18
          replace h0 := h0.after bz18
          replace hN := hN.after bz18
          have hz19 : At Wz16 wr.heap.size (.cells #[.int .i64 0, .int .i64 0, .int .i64 0] 57 (0, 0)) := nnz17.at_
          refine hK' _ _ ?_
          clear hK' K' nnz17 bz18
          go_frame
          refine ls_ex (some 5) (.int .i64 k) rfl rfl (exec_assign _ rfl (.int .i64 k) rfl) ?_
          go_frame
          refine ls_op rfl (fun K' hK' => ?_)
          refine wp_store_all 57 _ _ rfl rfl wr.heap.size rfl #[.int .i64 (L : Int), .int .i64 (R : Int), .int .i64 f] rfl _ _ hz19 3 (by kernel_rfl) rfl rfl (by intro x hx; simp at hx; rcases hx with rfl | rfl | rfl <;> rfl) (fun Wz20 pz21 => ?_)
          replace hB := pz21.below hB (by omega)
          replace h0 := pz21.other h0 (by omega)
          replace hN := pz21.other hN (by omega)
          replace hz19 : At Wz20 wr.heap.size (.cells #[.int .i64 (L : Int), .int .i64 (R : Int), .int .i64 f] 57 (0, 0)) := pz21.at_
          refine hK' _ _ ?_
          clear hK' K' pz21
          refine wpList_nil ?_
          go_upto_region 10 with (fail)
          refine wp_region_y (zs := []) (S := fun w' => Below w.heap.size w w' ∧ At w' wr.heap.size (.cells #[.int .i64 (L : Int), .int .i64 (R : Int), .int .i64 f] 57 (0, 0)) ∧ At w' w.heap.size (.cells #[.int .i64 p, .int .i64 (N : Int), .slice (some ⟨b, off, none⟩) ss.length cs, .slice Ao os.length co] 36 (0, 0))) (S2 := fun w' => True) (by kernel_rfl) ?_
          change wpAnyY _ _ _ _ _ _ _ _ _ _ (World.drew _)
          generalize hwdz22 : World.drew _ = wdz22
          replace hB : Below w.heap.size w wdz22 := by rw [← hwdz22]; exact hB.drew
          replace h0 : At wdz22 w.heap.size (.cells #[.int .i64 p, .int .i64 (N : Int), .slice (some ⟨b, off, none⟩) ss.length cs, .slice Ao os.length co] 36 (0, 0)) := by rw [← hwdz22]; exact h0
          replace hN : At wdz22 Wz2.heap.size (.cells (ndArr Wz2.heap.size M (ndOf N ss k)) 77 (0, 0)) := by rw [← hwdz22]; exact hN
          replace hz19 : At wdz22 wr.heap.size (.cells #[.int .i64 (L : Int), .int .i64 (R : Int), .int .i64 f] 57 (0, 0)) := by rw [← hwdz22]; exact hz19
          clear hwdz22
          refine y_yield 0 (some 36) (.slice (some ⟨Wz2.heap.size, 0, none⟩) M M) rfl (by kernel_rfl) (by kernel_rfl) (by kernel_rfl) (fun _ _ _ h => h) rfl rfl ⟨hB, hz19, h0⟩ (fun w' h' => exec_move _ rfl (.slice (some ⟨Wz2.heap.size, 0, none⟩) M M) rfl) ?_
          go_frame
          refine y_yield 1 (some 37) (.pointer (some ⟨wr.heap.size, 0, none⟩)) rfl (by kernel_rfl) (by kernel_rfl) (by kernel_rfl) (fun _ _ _ h => h) rfl rfl ⟨hB, hz19, h0⟩ (fun w' h' => exec_fieldAddr 57 _ 0 rfl _ (by kernel_rfl)) ?_
          go_frame
          refine y_yield 2 (some 38) (.int .i64 (L : Int)) rfl (by kernel_rfl) (by kernel_rfl) (by kernel_rfl) (fun _ _ _ h => h) rfl rfl ⟨hB, hz19, h0⟩ (fun w' h' => exec_load_one 2 _ rfl wr.heap.size 0 rfl (.int .i64 (L : Int)) _ Try.underlying2 rfl (h'.2.1.at_ 0)) ?_
          go_frame
          refine y_yield 3 (some 39) (.pointer (some ⟨Wz2.heap.size, L * 7, none⟩)) rfl (by kernel_rfl) (by kernel_rfl) (by kernel_rfl) (fun _ _ _ h => h) rfl rfl ⟨hB, hz19, h0⟩ (fun w' h' => exec_ix0 _ 77 _ _ rfl Wz2.heap.size M M L 7 rfl rfl Try.underlying73 (by kernel_rfl) (by omega)) ?_
          go_frame
          refine y_yield 4 (some 40) (.slice (some ⟨Wz2.heap.size, 0, none⟩) M M) rfl (by kernel_rfl) (by kernel_rfl) (by kernel_rfl) (fun _ _ _ h => h) rfl rfl ⟨hB, hz19, h0⟩ (fun w' h' => exec_move _ rfl (.slice (some ⟨Wz2.heap.size, 0, none⟩) M M) rfl) ?_
          go_frame
          refine y_yield 5 (some 41) (.pointer (some ⟨wr.heap.size, 1, none⟩)) rfl (by kernel_rfl) (by kernel_rfl) (by kernel_rfl) (fun _ _ _ h => h) rfl rfl ⟨hB, hz19, h0⟩ (fun w' h' => exec_fieldAddr 57 _ 1 rfl _ (by kernel_rfl)) ?_
          go_frame
          refine y_yield 6 (some 42) (.int .i64 (R : Int)) rfl (by kernel_rfl) (by kernel_rfl) (by kernel_rfl) (fun _ _ _ h => h) rfl rfl ⟨hB, hz19, h0⟩ (fun w' h' => exec_load_one 2 _ rfl wr.heap.size 1 rfl (.int .i64 (R : Int)) _ Try.underlying2 rfl (h'.2.1.at_ 1)) ?_
          go_frame
          refine y_yield 7 (some 43) (.pointer (some ⟨Wz2.heap.size, R * 7, none⟩)) rfl (by kernel_rfl) (by kernel_rfl) (by kernel_rfl) (fun _ _ _ h => h) rfl rfl ⟨hB, hz19, h0⟩ (fun w' h' => exec_ix0 _ 77 _ _ rfl Wz2.heap.size M M R 7 rfl rfl Try.underlying73 (by kernel_rfl) (by omega)) ?_
          go_frame
          refine y_yield 8 (some 44) (.slice (some ⟨Wz2.heap.size, 0, none⟩) M M) rfl (by kernel_rfl) (by kernel_rfl) (by kernel_rfl) (fun _ _ _ h => h) rfl rfl ⟨hB, hz19, h0⟩ (fun w' h' => exec_move _ rfl (.slice (some ⟨Wz2.heap.size, 0, none⟩) M M) rfl) ?_
          go_frame
          refine y_yield 9 (some 45) (.pointer (some ⟨w.heap.size, 1, none⟩)) rfl (by kernel_rfl) (by kernel_rfl) (by kernel_rfl) (fun _ _ _ h => h) rfl rfl ⟨hB, hz19, h0⟩ (fun w' h' => exec_fieldAddr 36 _ 1 rfl _ (by kernel_rfl)) ?_
          go_frame
          refine y_yield 10 (some 46) (.int .i64 (N : Int)) rfl (by kernel_rfl) (by kernel_rfl) (by kernel_rfl) (fun _ _ _ h => h) rfl rfl ⟨hB, hz19, h0⟩ (fun w' h' => exec_load_one 2 _ rfl w.heap.size 1 rfl (.int .i64 (N : Int)) _ Try.underlying2 rfl (h'.2.2.at_ 1)) ?_
          go_frame
          refine y_yield 11 (some 47) (.int .i64 k) rfl (by kernel_rfl) (by kernel_rfl) (by kernel_rfl) (fun _ _ _ h => h) rfl rfl ⟨hB, hz19, h0⟩ (fun w' h' => exec_move _ rfl (.int .i64 k) rfl) ?_
          go_frame
          refine y_yield 12 (some 48) (.int .i64 ((N + k : Nat) : Int)) rfl (by kernel_rfl) (by kernel_rfl) (by kernel_rfl) (fun _ _ _ h => h) rfl rfl ⟨hB, hz19, h0⟩ (fun w' h' => exec_add _ _ _ _ rfl (N : Int) (k : Int) ((N + k : Nat) : Int) rfl rfl (by rw [IntWalk.i64_in _ (by omega)]; omega)) ?_
          go_frame
          refine y_yield 13 (some 49) (.pointer (some ⟨Wz2.heap.size, ((N + k)) * 7, none⟩)) rfl (by kernel_rfl) (by kernel_rfl) (by kernel_rfl) (fun _ _ _ h => h) rfl rfl ⟨hB, hz19, h0⟩ (fun w' h' => exec_ix0 _ 77 _ _ rfl Wz2.heap.size M M ((N + k)) 7 rfl rfl Try.underlying73 (by kernel_rfl) (by omega)) ?_
          go_frame
          refine y_oper 14 (by kernel_rfl) rfl rfl (fun K' hK' => ?_)
          refine wp_exec (some 7) rfl (.pointer (some ⟨Wz2.heap.size, L * 7, none⟩)) (exec_assign _ rfl (.pointer (some ⟨Wz2.heap.size, L * 7, none⟩)) rfl) ?_
          refine hK' _ _ ⟨hB, hz19, h0⟩ (fun _ => trivial) ?_
          clear hK' K'
          go_frame
          refine y_oper 15 (by kernel_rfl) rfl rfl (fun K' hK' => ?_)
          refine wp_exec (some 8) rfl (.pointer (some ⟨Wz2.heap.size, R * 7, none⟩)) (exec_assign _ rfl (.pointer (some ⟨Wz2.heap.size, R * 7, none⟩)) rfl) ?_
          refine hK' _ _ ⟨hB, hz19, h0⟩ (fun _ => trivial) ?_
          clear hK' K'
          go_frame
          refine y_oper 16 (by kernel_rfl) rfl rfl (fun K' hK' => ?_)
          refine wp_exec (some 9) rfl (.pointer (some ⟨Wz2.heap.size, ((N + k)) * 7, none⟩)) (exec_assign _ rfl (.pointer (some ⟨Wz2.heap.size, ((N + k)) * 7, none⟩)) rfl) ?_
          refine hK' _ _ ⟨hB, hz19, h0⟩ (fun _ => trivial) ?_
          clear hK' K'
          go_frame
          refine y_done (by kernel_rfl) ?_ _
          go_upto_region 11 with (fail)
          refine wp_region_y (zs := []) (S := fun w' => Below w.heap.size w w' ∧ At w' wr.heap.size (.cells #[.int .i64 (L : Int), .int .i64 (R : Int), .int .i64 f] 57 (0, 0))) (S2 := fun w' => True) (by kernel_rfl) ?_
          change wpAnyY _ _ _ _ _ _ _ _ _ _ (World.drew _)
          generalize hwdz23 : World.drew _ = wdz23
          replace hB : Below w.heap.size w wdz23 := by rw [← hwdz23]; exact hB.drew
          replace h0 : At wdz23 w.heap.size (.cells #[.int .i64 p, .int .i64 (N : Int), .slice (some ⟨b, off, none⟩) ss.length cs, .slice Ao os.length co] 36 (0, 0)) := by rw [← hwdz23]; exact h0
          replace hN : At wdz23 Wz2.heap.size (.cells (ndArr Wz2.heap.size M (ndOf N ss k)) 77 (0, 0)) := by rw [← hwdz23]; exact hN
          replace hz19 : At wdz23 wr.heap.size (.cells #[.int .i64 (L : Int), .int .i64 (R : Int), .int .i64 f] 57 (0, 0)) := by rw [← hwdz23]; exact hz19
          clear hwdz23
          refine y_yield 0 (some 50) (.pointer (some ⟨Wz2.heap.size, ((N + k)) * 7, none⟩)) rfl (by kernel_rfl) (by kernel_rfl) (by kernel_rfl) (fun _ _ _ h => h) rfl rfl ⟨hB, hz19⟩ (fun w' h' => exec_move _ rfl (.pointer (some ⟨Wz2.heap.size, ((N + k)) * 7, none⟩)) rfl) ?_
          go_frame
          refine y_yield 1 (some 51) (.pointer (some ⟨Wz2.heap.size, ((N + k)) * 7, none⟩)) rfl (by kernel_rfl) (by kernel_rfl) (by kernel_rfl) (fun _ _ _ h => h) rfl rfl ⟨hB, hz19⟩ (fun w' h' => exec_move _ rfl (.pointer (some ⟨Wz2.heap.size, ((N + k)) * 7, none⟩)) rfl) ?_
          go_frame
          refine y_yield 2 (some 52) (.pointer (some ⟨Wz2.heap.size, ((N + k)) * 7, none⟩)) rfl (by kernel_rfl) (by kernel_rfl) (by kernel_rfl) (fun _ _ _ h => h) rfl rfl ⟨hB, hz19⟩ (fun w' h' => exec_move _ rfl (.pointer (some ⟨Wz2.heap.size, ((N + k)) * 7, none⟩)) rfl) ?_
          go_frame
          refine y_yield 3 (some 53) (.pointer (some ⟨Wz2.heap.size, L * 7, none⟩)) rfl (by kernel_rfl) (by kernel_rfl) (by kernel_rfl) (fun _ _ _ h => h) rfl rfl ⟨hB, hz19⟩ (fun w' h' => exec_move _ rfl (.pointer (some ⟨Wz2.heap.size, L * 7, none⟩)) rfl) ?_
          go_frame
          refine y_yield 4 (some 54) (.pointer (some ⟨Wz2.heap.size, R * 7, none⟩)) rfl (by kernel_rfl) (by kernel_rfl) (by kernel_rfl) (fun _ _ _ h => h) rfl rfl ⟨hB, hz19⟩ (fun w' h' => exec_move _ rfl (.pointer (some ⟨Wz2.heap.size, R * 7, none⟩)) rfl) ?_
          go_frame
          refine y_yield 5 (some 55) (.pointer (some ⟨wr.heap.size, 2, none⟩)) rfl (by kernel_rfl) (by kernel_rfl) (by kernel_rfl) (fun _ _ _ h => h) rfl rfl ⟨hB, hz19⟩ (fun w' h' => exec_fieldAddr 57 _ 2 rfl _ (by kernel_rfl)) ?_
          go_frame
          refine y_yield 6 (some 56) (.int .i64 f) rfl (by kernel_rfl) (by kernel_rfl) (by kernel_rfl) (fun _ _ _ h => h) rfl rfl ⟨hB, hz19⟩ (fun w' h' => exec_load_one 2 _ rfl wr.heap.size 2 rfl (.int .i64 f) _ Try.underlying2 rfl (h'.2.at_ 2)) ?_
          go_frame
          refine y_yield 7 (some 57) (.pointer (some ⟨Wz2.heap.size, ((N + k)) * 7, none⟩)) rfl (by kernel_rfl) (by kernel_rfl) (by kernel_rfl) (fun _ _ _ h => h) rfl rfl ⟨hB, hz19⟩ (fun w' h' => exec_nilCheck _ rfl ⟨Wz2.heap.size, ((N + k)) * 7, none⟩ rfl) ?_
          go_frame
          refine y_yield 8 (some 58) (.pointer (some ⟨Wz2.heap.size, ((N + k)) * 7, none⟩)) rfl (by kernel_rfl) (by kernel_rfl) (by kernel_rfl) (fun _ _ _ h => h) rfl rfl ⟨hB, hz19⟩ (fun w' h' => exec_fieldAddr 77 _ 0 rfl _ (by kernel_rfl)) ?_
          go_frame
          refine y_oper 9 (by kernel_rfl) rfl rfl (fun K' hK' => ?_)
          refine wp_store_nd 75 _ _ rfl rfl Wz2.heap.size M ((N + k)) 0 ((ndOf N ss k)) ⟨some L, none, 0, ((N + k : Nat) : Int), 0, 0, false⟩ rfl (.pointer (some ⟨Wz2.heap.size, L * 7, none⟩)) rfl _ hN (by kernel_rfl) (by omega) (by omega) (by rw [ndOf_new]; rfl) (by simp [ndC, ndP]) (fun Wz24 pz25 => ?_)
          replace hB := pz25.below hB (by omega)
          replace h0 := pz25.other h0 (by omega)
          replace hz19 := pz25.other hz19 (by omega)
          replace hN : At Wz24 Wz2.heap.size (.cells (ndArr Wz2.heap.size M (updN ((ndOf N ss k)) ((N + k)) ⟨some L, none, 0, ((N + k : Nat) : Int), 0, 0, false⟩)) 77 (0, 0)) := pz25.at_
          refine hK' _ _ ⟨hB, hz19⟩ (fun _ => trivial) ?_
          clear hK' K' pz25
          refine y_yield 10 (some 59) (.pointer (some ⟨Wz2.heap.size, ((N + k)) * 7, none⟩)) rfl (by kernel_rfl) (by kernel_rfl) (by kernel_rfl) (fun _ _ _ h => h) rfl rfl ⟨hB, hz19⟩ (fun w' h' => exec_nilCheck _ rfl ⟨Wz2.heap.size, ((N + k)) * 7, none⟩ rfl) ?_
          go_frame
          refine y_yield 11 (some 60) (.pointer (some ⟨Wz2.heap.size, ((N + k)) * 7 + 1, none⟩)) rfl (by kernel_rfl) (by kernel_rfl) (by kernel_rfl) (fun _ _ _ h => h) rfl rfl ⟨hB, hz19⟩ (fun w' h' => exec_fieldAddr 77 _ 1 rfl _ (by kernel_rfl)) ?_
          go_frame
          refine y_oper 12 (by kernel_rfl) rfl rfl (fun K' hK' => ?_)
          refine wp_store_nd 75 _ _ rfl rfl Wz2.heap.size M ((N + k)) 1 ((updN ((ndOf N ss k)) ((N + k)) ⟨some L, none, 0, ((N + k : Nat) : Int), 0, 0, false⟩)) ⟨some L, some R, 0, ((N + k : Nat) : Int), 0, 0, false⟩ rfl (.pointer (some ⟨Wz2.heap.size, R * 7, none⟩)) rfl _ hN (by kernel_rfl) (by omega) (by omega) (by rw [updN_self]; rfl) (by simp [ndC, ndP]) (fun Wz26 pz27 => ?_)
          replace hB := pz27.below hB (by omega)
          replace h0 := pz27.other h0 (by omega)
          replace hz19 := pz27.other hz19 (by omega)
          replace hN : At Wz26 Wz2.heap.size (.cells (ndArr Wz2.heap.size M (updN ((updN ((ndOf N ss k)) ((N + k)) ⟨some L, none, 0, ((N + k : Nat) : Int), 0, 0, false⟩)) ((N + k)) ⟨some L, some R, 0, ((N + k : Nat) : Int), 0, 0, false⟩)) 77 (0, 0)) := pz27.at_
          refine hK' _ _ ⟨hB, hz19⟩ (fun _ => trivial) ?_
          clear hK' K' pz27
          refine y_yield 13 (some 61) (.pointer (some ⟨Wz2.heap.size, ((N + k)) * 7, none⟩)) rfl (by kernel_rfl) (by kernel_rfl) (by kernel_rfl) (fun _ _ _ h => h) rfl rfl ⟨hB, hz19⟩ (fun w' h' => exec_nilCheck _ rfl ⟨Wz2.heap.size, ((N + k)) * 7, none⟩ rfl) ?_
          go_frame
          refine y_yield 14 (some 62) (.pointer (some ⟨Wz2.heap.size, ((N + k)) * 7 + 2, none⟩)) rfl (by kernel_rfl) (by kernel_rfl) (by kernel_rfl) (fun _ _ _ h => h) rfl rfl ⟨hB, hz19⟩ (fun w' h' => exec_fieldAddr 77 _ 2 rfl _ (by kernel_rfl)) ?_
          go_frame
          refine y_oper 15 (by kernel_rfl) rfl rfl (fun K' hK' => ?_)
          refine wp_store_nd 2 _ _ rfl rfl Wz2.heap.size M ((N + k)) 2 ((updN ((updN ((ndOf N ss k)) ((N + k)) ⟨some L, none, 0, ((N + k : Nat) : Int), 0, 0, false⟩)) ((N + k)) ⟨some L, some R, 0, ((N + k : Nat) : Int), 0, 0, false⟩)) ⟨some L, some R, f, ((N + k : Nat) : Int), 0, 0, false⟩ rfl (.int .i64 f) rfl _ hN (by kernel_rfl) (by omega) (by omega) (by rw [updN_self]; rfl) (by simp [ndC, ndP]) (fun Wz28 pz29 => ?_)
          replace hB := pz29.below hB (by omega)
          replace h0 := pz29.other h0 (by omega)
          replace hz19 := pz29.other hz19 (by omega)
          replace hN : At Wz28 Wz2.heap.size (.cells (ndArr Wz2.heap.size M (updN ((updN ((updN ((ndOf N ss k)) ((N + k)) ⟨some L, none, 0, ((N + k : Nat) : Int), 0, 0, false⟩)) ((N + k)) ⟨some L, some R, 0, ((N + k : Nat) : Int), 0, 0, false⟩)) ((N + k)) ⟨some L, some R, f, ((N + k : Nat) : Int), 0, 0, false⟩)) 77 (0, 0)) := pz29.at_
          refine hK' _ _ ⟨hB, hz19⟩ (fun _ => trivial) ?_
          clear hK' K' pz29
          refine y_done (by kernel_rfl) ?_ _
          go_upto_region 12 with (fail)
          refine wp_region_y (zs := [13]) (S := fun w' => Below w.heap.size w w') (S2 := fun w' => At w' Wz2.heap.size (.cells (ndArr Wz2.heap.size M (updN ((updN ((updN ((ndOf N ss k)) ((N + k)) ⟨some L, none, 0, ((N + k : Nat) : Int), 0, 0, false⟩)) ((N + k)) ⟨some L, some R, 0, ((N + k : Nat) : Int), 0, 0, false⟩)) ((N + k)) ⟨some L, some R, f, ((N + k : Nat) : Int), 0, 0, false⟩)) 77 (0, 0))) (by kernel_rfl) ?_
          change wpAnyY _ _ _ _ _ _ _ _ _ _ (World.drew _)
          generalize hwdz30 : World.drew _ = wdz30
          replace hB : Below w.heap.size w wdz30 := by rw [← hwdz30]; exact hB.drew
          replace h0 : At wdz30 w.heap.size (.cells #[.int .i64 p, .int .i64 (N : Int), .slice (some ⟨b, off, none⟩) ss.length cs, .slice Ao os.length co] 36 (0, 0)) := by rw [← hwdz30]; exact h0
          replace hN : At wdz30 Wz2.heap.size (.cells (ndArr Wz2.heap.size M (updN ((updN ((updN ((ndOf N ss k)) ((N + k)) ⟨some L, none, 0, ((N + k : Nat) : Int), 0, 0, false⟩)) ((N + k)) ⟨some L, some R, 0, ((N + k : Nat) : Int), 0, 0, false⟩)) ((N + k)) ⟨some L, some R, f, ((N + k : Nat) : Int), 0, 0, false⟩)) 77 (0, 0)) := by rw [← hwdz30]; exact hN
          replace hz19 : At wdz30 wr.heap.size (.cells #[.int .i64 (L : Int), .int .i64 (R : Int), .int .i64 f] 57 (0, 0)) := by rw [← hwdz30]; exact hz19
          clear hwdz30
          refine y_yield 0 (some 63) (.pointer (some ⟨Wz2.heap.size, ((N + k)) * 7, none⟩)) rfl (by kernel_rfl) (by kernel_rfl) (by kernel_rfl) (fun _ _ _ h => h) rfl rfl hB (fun w' h' => exec_move _ rfl (.pointer (some ⟨Wz2.heap.size, ((N + k)) * 7, none⟩)) rfl) ?_
          go_frame
          refine y_yield 1 (some 64) (.pointer (some ⟨Wz2.heap.size, L * 7, none⟩)) rfl (by kernel_rfl) (by kernel_rfl) (by kernel_rfl) (fun _ _ _ h => h) rfl rfl hB (fun w' h' => exec_move _ rfl (.pointer (some ⟨Wz2.heap.size, L * 7, none⟩)) rfl) ?_
          go_frame
          refine y_yield 2 (some 65) (.pointer (some ⟨Wz2.heap.size, L * 7, none⟩)) rfl (by kernel_rfl) (by kernel_rfl) (by kernel_rfl) (fun _ _ _ h => h) rfl rfl hB (fun w' h' => exec_nilCheck _ rfl ⟨Wz2.heap.size, L * 7, none⟩ rfl) ?_
          go_frame
          refine y_yield 3 (some 66) (.pointer (some ⟨Wz2.heap.size, L * 7 + 5, none⟩)) rfl (by kernel_rfl) (by kernel_rfl) (by kernel_rfl) (fun _ _ _ h => h) rfl rfl hB (fun w' h' => exec_fieldAddr 77 _ 5 rfl _ (by kernel_rfl)) ?_
          go_frame
          refine y_yield2 4 (some 67) (.int .i64 (getI (depsL N ss k) L)) rfl (by kernel_rfl) (by kernel_rfl) (by kernel_rfl) (by kernel_rfl) (fun _ _ _ h => h) rfl rfl hB hN (fun w' h' h2' => exec_load_one 2 _ rfl Wz2.heap.size (L * 7 + 5) rfl (.int .i64 (getI (depsL N ss k) L)) _ Try.underlying2 rfl (nd_cell h2' (show L < M by omega) 5 (by omega) _ (by rw [updN_ne hLk, updN_ne hLk, updN_ne hLk]; rfl))) ?_
          go_frame
          refine y_yield 5 (some 68) (.pointer (some ⟨Wz2.heap.size, R * 7, none⟩)) rfl (by kernel_rfl) (by kernel_rfl) (by kernel_rfl) (fun _ _ _ h => h) rfl rfl hB (fun w' h' => exec_move _ rfl (.pointer (some ⟨Wz2.heap.size, R * 7, none⟩)) rfl) ?_
          go_frame
          refine y_yield 6 (some 69) (.pointer (some ⟨Wz2.heap.size, R * 7, none⟩)) rfl (by kernel_rfl) (by kernel_rfl) (by kernel_rfl) (fun _ _ _ h => h) rfl rfl hB (fun w' h' => exec_nilCheck _ rfl ⟨Wz2.heap.size, R * 7, none⟩ rfl) ?_
          go_frame
          refine y_yield 7 (some 70) (.pointer (some ⟨Wz2.heap.size, R * 7 + 5, none⟩)) rfl (by kernel_rfl) (by kernel_rfl) (by kernel_rfl) (fun _ _ _ h => h) rfl rfl hB (fun w' h' => exec_fieldAddr 77 _ 5 rfl _ (by kernel_rfl)) ?_
          go_frame
          refine y_yield2 8 (some 71) (.int .i64 (getI (depsL N ss k) R)) rfl (by kernel_rfl) (by kernel_rfl) (by kernel_rfl) (by kernel_rfl) (fun _ _ _ h => h) rfl rfl hB hN (fun w' h' h2' => exec_load_one 2 _ rfl Wz2.heap.size (R * 7 + 5) rfl (.int .i64 (getI (depsL N ss k) R)) _ Try.underlying2 rfl (nd_cell h2' (show R < M by omega) 5 (by omega) _ (by rw [updN_ne hRk, updN_ne hRk, updN_ne hRk]; rfl))) ?_
          go_frame
          refine y_yield 9 (some 72) (.int .i64 mx) rfl (by kernel_rfl) (by kernel_rfl) (by kernel_rfl) (fun _ _ _ h => h) rfl rfl hB (fun w' h' => pg_max2 _ _ _ rfl (getI (depsL N ss k) L) (getI (depsL N ss k) R) rfl rfl mx HMx.out) ?_
          go_frame
          refine y_yield 10 (some 73) (.int .i64 (1 + mx)) rfl (by kernel_rfl) (by kernel_rfl) (by kernel_rfl) (fun _ _ _ h => h) rfl rfl hB (fun w' h' => exec_add _ _ _ _ rfl 1 mx (1 + mx) rfl rfl (IntWalk.i64_in _ (by omega))) ?_
          go_frame
          refine y_yield 11 (some 74) (.pointer (some ⟨Wz2.heap.size, ((N + k)) * 7, none⟩)) rfl (by kernel_rfl) (by kernel_rfl) (by kernel_rfl) (fun _ _ _ h => h) rfl rfl hB (fun w' h' => exec_nilCheck _ rfl ⟨Wz2.heap.size, ((N + k)) * 7, none⟩ rfl) ?_
          go_frame
          refine y_yield 12 (some 75) (.pointer (some ⟨Wz2.heap.size, ((N + k)) * 7 + 5, none⟩)) rfl (by kernel_rfl) (by kernel_rfl) (by kernel_rfl) (fun _ _ _ h => h) rfl rfl hB (fun w' h' => exec_fieldAddr 77 _ 5 rfl _ (by kernel_rfl)) ?_
          go_frame
          refine y_oper 13 (by kernel_rfl) rfl rfl (fun K' hK' => ?_)
          refine wp_store_nd 2 _ _ rfl rfl Wz2.heap.size M ((N + k)) 5 ((updN ((updN ((updN ((ndOf N ss k)) ((N + k)) ⟨some L, none, 0, ((N + k : Nat) : Int), 0, 0, false⟩)) ((N + k)) ⟨some L, some R, 0, ((N + k : Nat) : Int), 0, 0, false⟩)) ((N + k)) ⟨some L, some R, f, ((N + k : Nat) : Int), 0, 0, false⟩)) ⟨some L, some R, f, ((N + k : Nat) : Int), 0, 1 + mx, false⟩ rfl (.int .i64 (1 + mx)) rfl _ hN (by kernel_rfl) (by omega) (by omega) (by rw [updN_self]; rfl) (by simp [ndC, ndP]) (fun Wz31 pz32 => ?_)
          replace hB := pz32.below hB (by omega)
          replace h0 := pz32.other h0 (by omega)
          replace hz19 := pz32.other hz19 (by omega)
          replace hN : At Wz31 Wz2.heap.size (.cells (ndArr Wz2.heap.size M (updN ((updN ((updN ((updN ((ndOf N ss k)) ((N + k)) ⟨some L, none, 0, ((N + k : Nat) : Int), 0, 0, false⟩)) ((N + k)) ⟨some L, some R, 0, ((N + k : Nat) : Int), 0, 0, false⟩)) ((N + k)) ⟨some L, some R, f, ((N + k : Nat) : Int), 0, 0, false⟩)) ((N + k)) ⟨some L, some R, f, ((N + k : Nat) : Int), 0, 1 + mx, false⟩)) 77 (0, 0)) := pz32.at_
          refine hK' _ _ hB (fun h => absurd (by decide) h) ?_
          clear hK' K' pz32
          refine y_done (by kernel_rfl) ?_ _
          go_upto_region 13 with (fail)
          refine wp_region_lit ?_
          refine ls_ex (some 76) (.int .i64 (k + 1)) rfl rfl (exec_add _ _ _ _ rfl k 1 (k + 1) rfl rfl (IntWalk.i64_in _ (by omega))) ?_
          go_frame
          refine ls_ex (some 31) (.int .i64 (k + 1)) rfl rfl (exec_move _ rfl (.int .i64 (k + 1)) rfl) ?_
          go_frame
          refine wpList_nil ?_
          go_wp2_with fail
          go_roundw
          case rel => exact ⟨k + 1, by omega, by go_num, hB, h0, by have h9 := hN; rwa [nd_four HS.out] at h9⟩
          case measure => simp [intOf]; omega
        · have hN2 : At wr Wz2.heap.size (.cells (ndArr Wz2.heap.size M (ndOf N ss ss.length)) 77 (0, 0)) := by have h9 := hN; rwa [show k = ss.length by omega] at h9
          clear hN
          go_upto_region 8 with (fail)
          refine wp_region_lit ?_
          refine ls_ex (some 32) (.bool false) rfl rfl (exec_lss _ _ _ _ rfl k ss.length rfl rfl false (decide_eq_false (by omega))) ?_
          go_frame
          refine wpList_nil ?_
          go_upto_region 14 with (fail)
          refine wp_region_lit ?_
          refine ls_ex (some 77) (.slice (some ⟨Wz2.heap.size, 0, none⟩) M M) rfl rfl (exec_move _ rfl (.slice (some ⟨Wz2.heap.size, 0, none⟩) M M) rfl) ?_
          go_frame
          refine ls_ex (some 2) (.slice (some ⟨Wz2.heap.size, 0, none⟩) M M) rfl rfl (exec_assign _ rfl (.slice (some ⟨Wz2.heap.size, 0, none⟩) M M) rfl) ?_
          go_frame
          refine wpList_nil ?_
          go_wp2_with fail
          go_ret
          exact ⟨_, rfl, by omega, hN2, hB⟩
end Go.Proofs.Ytokmchadckcilaa
