/-
  spec.l09Form. (Made by mkk9.py.)
-/
import Derived.Test.YtopdfblfhdooaaaL2f
namespace Go.Proofs.Ytopdfblfhdooaaa
open Go.RowKit
set_option maxRecDepth 100000
attribute [local irreducible] wpList
/-- The first S places of the product of two rows, zeros behind them. -/
def kfP (p m : Nat) (f g : List Nat) (S : Nat) : List Nat := (List.range 9).map fun t => if t < S then f[t / m]?.getD 0 * g[t % m]?.getD 0 % p else 0
theorem kfP_len (p m : Nat) (f g : List Nat) (S : Nat) : (kfP p m f g S).length = 9 := by simp [kfP]
theorem kfP_zero (p m : Nat) (f g : List Nat) : kfP p m f g 0 = List.replicate 9 0 := by
  apply List.ext_getElem (by simp [kfP])
  intro i h1 h2
  rw [List.getElem_replicate]
  simp only [kfP, List.getElem_map, List.getElem_range]
  rw [if_neg (by omega)]
theorem kfP_all {p n m : Nat} {f g : List Nat} : kfP p m f g (n * m) = mulF p 1 n 1 m f g := by
  apply List.ext_getElem (by simp [kfP, mulF])
  intro t h1 h2
  simp only [kfP, mulF, List.getElem_map, List.getElem_range, Nat.one_mul]
  by_cases ht : t < n * m
  · rw [if_pos ht, if_pos ht]
    have e1 : plK n m 1 t = t / m := by unfold plK; rw [Nat.div_one, Nat.div_eq_of_lt ht, Nat.zero_mul, Nat.zero_add, Nat.mod_eq_of_lt ht]
    have e2 : inK n m 1 t = t % m := by unfold inK; rw [Nat.mod_one, Nat.zero_mul, Nat.zero_add, Nat.mod_eq_of_lt ht]
    unfold mulV
    rw [e1, e2]
  · rw [if_neg ht, if_neg ht]
theorem kf_step {p C2 : Nat} (f g : List Nat) {i j : Nat} (hj : j < C2) :
    (kfP p C2 f g (i * C2 + j)).set (i * C2 + j) (f[i]?.getD 0 * g[j]?.getD 0 % p) = kfP p C2 f g (i * C2 + (j + 1)) := by
  have hpos : 0 < C2 := by omega
  have d1 : (i * C2 + j) / C2 = i := by rw [Nat.mul_comm, Nat.mul_add_div hpos, Nat.div_eq_of_lt hj, Nat.add_zero]
  have d2 : (i * C2 + j) % C2 = j := by rw [Nat.mul_comm, Nat.mul_add_mod, Nat.mod_eq_of_lt hj]
  apply List.ext_getElem (by simp [kfP])
  intro t h1 h2
  rw [List.getElem_set]
  by_cases he : i * C2 + j = t
  · rw [if_pos he]
    simp only [kfP, List.getElem_map, List.getElem_range]
    rw [if_pos (by omega), ← he, d1, d2]
  · rw [if_neg he]
    simp only [kfP, List.getElem_map, List.getElem_range]
    by_cases hl : t < i * C2 + j
    · rw [if_pos hl, if_pos (by omega)]
    · rw [if_neg hl, if_neg (by omega)]
theorem alK_impl_Form {o : Oper} {a : Act} {w : World} (ho : o.op = .alloc 51) : (execOp a.eval o).run Try.prog w = .ok (.value (.pointer (some ⟨w.heap.size, 0, none⟩))) (w.alloc (.cells (u8s (List.replicate 9 0)) 51 (0, 0))) := by
  unfold execOp
  rw [ho]
  kernel_rfl
set_option maxHeartbeats 25600000 in
theorem l09Form_c (p C1 C2 : Nat) (f g : List Nat) (hf : Bytes 9 f) (hg : Bytes 9 g) (w : World) (hp : 2 ≤ p ∧ p ≤ 5) (hk1 : 1 ≤ C1) (hk2 : 1 ≤ C2) (hk : C1 * C2 ≤ 9) :
    Calls Try.prog 24 #[.int .i64 (p : Nat), .agg (u8s (f)), .int .i64 (C1 : Nat), .agg (u8s (g)), .int .i64 (C2 : Nat)] w (fun e w' => e = .returned (.agg (u8s (mulF p 1 C1 1 C2 f g))) ∧ Below w.heap.size w w') := by
  have hB := Below.refl w.heap.size w
  have g1 : C1 * 1 ≤ C1 * C2 := Nat.mul_le_mul_left _ (by omega)
  have g2 : 1 * C2 ≤ C1 * C2 := Nat.mul_le_mul_right _ (by omega)
  have hR9 : C1 ≤ 9 := by omega
  have hC9 : C2 ≤ 9 := by omega
  have HL : Hid (kfP p C2 f g (C1 * C2) = mulF p 1 C1 1 C2 f g) := Lib.hid (kfP_all)
  have neP : (p : Int) ≠ 0 := by omega
  obtain ⟨NN, hNN⟩ : ∃ n, C1 * C2 = n := ⟨_, rfl⟩
  rw [hNN] at hk
  clear g1 g2
  go_enter Try.func24, Try.ntmps24
  go_upto_region 0 with (fail)
  refine wp_region_lit ?_
  refine ls_op rfl (fun K' hK' => ?_)
  have lz1 := hB.size
  refine wp_new (some 6) rfl (exec_box 51 _ rfl (u8s (f)) rfl) (fun Wz2 nnz3 => ?_)
  have bz4 := nnz3.below (Below.refl _ _) (Nat.le_refl _)
  replace hB := below_after hB bz4
  have hz5 : At Wz2 w.heap.size (.cells (u8s (f)) 51 (0, 0)) := nnz3.at_
  refine hK' _ _ ?_
  clear hK' K' nnz3 bz4
  go_frame
  refine ls_op rfl (fun K' hK' => ?_)
  have lz6 := hB.size
  have lz7 := hz5.lt
  refine wp_new (some 8) rfl (exec_box 51 _ rfl (u8s (g)) rfl) (fun Wz8 nnz9 => ?_)
  have bz10 := nnz9.below (Below.refl _ _) (Nat.le_refl _)
  replace hB := below_after hB bz10
  replace hz5 := hz5.after bz10
  have hz11 : At Wz8 Wz2.heap.size (.cells (u8s (g)) 51 (0, 0)) := nnz9.at_
  refine hK' _ _ ?_
  clear hK' K' nnz9 bz10
  go_frame
  refine ls_op rfl (fun K' hK' => ?_)
  have lz12 := hB.size
  have lz13 := hz5.lt
  have lz14 := hz11.lt
  refine wp_new (some 10) rfl (alK_impl_Form rfl) (fun Wz15 nnz16 => ?_)
  have bz17 := nnz16.below (Below.refl _ _) (Nat.le_refl _)
  replace hB := below_after hB bz17
  replace hz5 := hz5.after bz17
  replace hz11 := hz11.after bz17
  have hz18 : At Wz15 Wz8.heap.size (.cells (u8s (List.replicate 9 0)) 51 (0, 0)) := nnz16.at_
  refine hK' _ _ ?_
  clear hK' K' nnz16 bz17
  go_frame
  refine wpList_nil ?_
  go_upto_region 1 with (fail)
  refine wp_region_lit ?_
  refine ls_ex (some 14) (.agg (u8s (List.replicate 9 0))) rfl rfl (exec_build_nil9 rfl) ?_
  go_frame
  refine ls_op rfl (fun K' hK' => ?_)
  have lz19 := hB.size
  have lz20 := hz5.lt
  have lz21 := hz11.lt
  have lz22 := hz18.lt
  refine wp_new (some 11) rfl (alK_impl_Form rfl) (fun Wz23 nnz24 => ?_)
  have bz25 := nnz24.below (Below.refl _ _) (Nat.le_refl _)
  replace hB := below_after hB bz25
  replace hz5 := hz5.after bz25
  replace hz11 := hz11.after bz25
  replace hz18 := hz18.after bz25
  have hz26 : At Wz23 Wz15.heap.size (.cells (u8s (List.replicate 9 0)) 51 (0, 0)) := nnz24.at_
  refine hK' _ _ ?_
  clear hK' K' nnz24 bz25
  go_frame
  refine ls_op rfl (fun K' hK' => ?_)
  refine wp_store_bytes 51 _ _ rfl rfl Wz15.heap.size rfl (List.replicate 9 0) rfl _ _ hz26 9 (by kernel_rfl) (by simp) (by simp) (fun Wz27 pz28 => ?_)
  replace hB := pz28.below hB (by omega)
  replace hz5 := pz28.other hz5 (by omega)
  replace hz11 := pz28.other hz11 (by omega)
  replace hz18 := pz28.other hz18 (by omega)
  replace hz26 : At Wz27 Wz15.heap.size (.cells (u8s (List.replicate 9 0)) 51 (0, 0)) := pz28.at_
  refine hK' _ _ ?_
  clear hK' K' pz28
  refine wpList_nil ?_
  go_upto_region 2 with (fail)
  refine wp_region_lit ?_
  refine ls_ex (some 12) (.int .i64 0) rfl rfl (exec_assign _ rfl (.int .i64 0) rfl) ?_
  go_frame
  refine wpList_nil ?_
  go_wp2_with fail
  go_loopw [12] (fun s12 wr => ∃ i : Nat, i ≤ C1 ∧ s12 = .int .i64 i ∧ Below w.heap.size w wr ∧ At wr w.heap.size (.cells (u8s (f)) 51 (0, 0)) ∧ At wr Wz2.heap.size (.cells (u8s (g)) 51 (0, 0)) ∧ At wr Wz8.heap.size (.cells (u8s (List.replicate 9 0)) 51 (0, 0)) ∧ At wr Wz15.heap.size (.cells (u8s (kfP p C2 f g (i * C2))) 51 (0, 0))) (fun s12 _ => C1 - (intOf s12).toNat)
  case atStart => exact ⟨0, by omega, rfl, hB, hz5, hz11, hz18, by rw [Nat.zero_mul, kfP_zero]; exact hz26⟩
  case round =>
    clear hB hz5 hz11 hz18 hz26
    obtain ⟨i, hlei, rfl, hB, h0, h1, h4, h5⟩ := hrel
    by_cases hlti : i < C1
    · go_upto_region 3 with (fail)
      refine wp_region_lit ?_
      refine ls_ex (some 15) (.int .i64 (i : Nat)) rfl rfl (exec_move _ rfl (.int .i64 (i : Nat)) rfl) ?_
      go_frame
      refine ls_ex (some 16) (.int .i64 (C1 : Nat)) rfl rfl (exec_move _ rfl (.int .i64 (C1 : Nat)) rfl) ?_
      go_frame
      refine ls_ex (some 17) (.bool true) rfl rfl (exec_lss _ _ _ _ rfl ((i : Nat)) ((C1 : Nat)) rfl rfl true (decide_eq_true (by omega))) ?_
      go_frame
      refine wpList_nil ?_
      go_upto_region 5 with (fail)
      refine wp_region_lit ?_
      refine ls_ex (some 13) (.int .i64 0) rfl rfl (exec_assign _ rfl (.int .i64 0) rfl) ?_
      go_frame
      refine wpList_nil ?_
      go_wp2_with fail
      go_loopw [13] (fun s13 wr => ∃ j : Nat, j ≤ C2 ∧ s13 = .int .i64 j ∧ Below w.heap.size w wr ∧ At wr w.heap.size (.cells (u8s (f)) 51 (0, 0)) ∧ At wr Wz2.heap.size (.cells (u8s (g)) 51 (0, 0)) ∧ At wr Wz8.heap.size (.cells (u8s (List.replicate 9 0)) 51 (0, 0)) ∧ At wr Wz15.heap.size (.cells (u8s (kfP p C2 f g (i * C2 + j))) 51 (0, 0))) (fun s13 _ => C2 - (intOf s13).toNat)
      case atStart => exact ⟨0, by omega, rfl, hB, h0, h1, h4, h5⟩
      case round =>
        clear hB h0 h1 h4 h5
        obtain ⟨j, hlej, rfl, hB, h0, h1, h4, h5⟩ := hrel
        by_cases hltj : j < C2
        · have hle := Nat.mul_le_mul_right C2 (show i + 1 ≤ C1 from hlti)
          rw [Nat.succ_mul, hNN] at hle
          obtain ⟨e1, he1⟩ : ∃ x, x = i * C2 := ⟨_, rfl⟩
          rw [← he1] at hle
          obtain ⟨u, hu⟩ : ∃ x, x = e1 + j := ⟨_, rfl⟩
          have li9 : i < 9 := by omega
          have lj9 : j < 9 := by omega
          have lu : u < 9 := by omega
          have HIS := kf_step (p := p) f g (i := i) (j := j) (C2 := C2) hltj
          rw [← he1, ← hu] at HIS
          have He1 : Hid (IntKind.i64.wrap ((i : Int) * (C2 : Int)) = (e1 : Int)) := Lib.hid (by rw [← Int.natCast_mul, ← he1]; exact IntWalk.i64_in _ (by omega))
          have Hu : Hid (IntKind.i64.wrap ((e1 : Int) + (j : Int)) = (u : Int)) := Lib.hid (by rw [IntWalk.i64_in _ (by omega)]; omega)
          have hx := hf.lt i
          have hy := hg.lt j
          obtain ⟨x, hxe⟩ : ∃ t, f[i]?.getD 0 = t := ⟨_, rfl⟩
          obtain ⟨y, hye⟩ : ∃ t, g[j]?.getD 0 = t := ⟨_, rfl⟩
          rw [hxe, hye] at HIS
          rw [hxe] at hx
          rw [hye] at hy
          have Hx := Lib.hid hxe
          have Hy := Lib.hid hye
          obtain ⟨xy, hxy⟩ : ∃ t, t = x * y := ⟨_, rfl⟩
          have bxy : xy ≤ 255 * 255 := by rw [hxy]; exact Nat.mul_le_mul (by omega) (by omega)
          have Hxy : Hid (IntKind.i64.wrap ((x : Int) * (y : Int)) = (xy : Int)) := Lib.hid (by rw [← Int.natCast_mul, ← hxy]; exact IntWalk.i64_in _ (by omega))
          obtain ⟨v, hv⟩ : ∃ t, t = xy % p := ⟨_, rfl⟩
          have bv : v < 5 := by rw [hv]; have := Nat.mod_lt xy (show 0 < p by omega); omega
          have hv256 : v < 256 := by omega
          have Hv : Hid ((xy : Int).tmod (p : Int) = (v : Int)) := Lib.hid (by rw [← Int.ofNat_tmod, ← hv])
          have HST : Hid ((kfP p C2 f g (i * C2 + j)).set (0 + u * 1) v = kfP p C2 f g (i * C2 + (j + 1))) := Lib.hid (by rw [Nat.zero_add, Nat.mul_one, ← he1, ← HIS, hv, hxy, ← hu])
          clear HIS hxy hv hxe hye hu he1 hle
          go_upto_region 6 with (fail)
          refine wp_region_lit ?_
          refine ls_ex (some 20) (.int .i64 (j : Nat)) rfl rfl (exec_move _ rfl (.int .i64 (j : Nat)) rfl) ?_
          go_frame
          refine ls_ex (some 21) (.int .i64 (C2 : Nat)) rfl rfl (exec_move _ rfl (.int .i64 (C2 : Nat)) rfl) ?_
          go_frame
          refine ls_ex (some 22) (.bool true) rfl rfl (exec_lss _ _ _ _ rfl ((j : Nat)) ((C2 : Nat)) rfl rfl true (decide_eq_true (by omega))) ?_
          go_frame
          refine wpList_nil ?_
          go_upto_region 8 with (fail)
          refine wp_region_y (zs := [18]) (S := fun w' => Below w.heap.size w w' ∧ At w' w.heap.size (.cells (u8s (f)) 51 (0, 0)) ∧ At w' Wz2.heap.size (.cells (u8s (g)) 51 (0, 0))) (S2 := fun w' => True) (by kernel_rfl) ?_
          change wpAnyY _ _ _ _ _ _ _ _ _ _ (World.drew _)
          generalize hwdz29 : World.drew _ = wdz29
          replace hB : Below w.heap.size w wdz29 := by rw [← hwdz29]; exact hB.drew
          replace h0 : At wdz29 w.heap.size (.cells (u8s (f)) 51 (0, 0)) := by rw [← hwdz29]; exact h0
          replace h1 : At wdz29 Wz2.heap.size (.cells (u8s (g)) 51 (0, 0)) := by rw [← hwdz29]; exact h1
          replace h4 : At wdz29 Wz8.heap.size (.cells (u8s (List.replicate 9 0)) 51 (0, 0)) := by rw [← hwdz29]; exact h4
          replace h5 : At wdz29 Wz15.heap.size (.cells (u8s (kfP p C2 f g (i * C2 + j))) 51 (0, 0)) := by rw [← hwdz29]; exact h5
          clear hwdz29
          refine y_yield 0 (some 25) (.int .i64 (i : Nat)) rfl (by kernel_rfl) (by kernel_rfl) (by kernel_rfl) (fun _ _ _ h => h) rfl rfl ⟨hB, h0, h1⟩ (fun w' h' => exec_move _ rfl (.int .i64 (i : Nat)) rfl) ?_
          go_frame
          refine y_yield 1 (some 26) (.int .i64 (C2 : Nat)) rfl (by kernel_rfl) (by kernel_rfl) (by kernel_rfl) (fun _ _ _ h => h) rfl rfl ⟨hB, h0, h1⟩ (fun w' h' => exec_move _ rfl (.int .i64 (C2 : Nat)) rfl) ?_
          go_frame
          refine y_yield 2 (some 27) (.int .i64 (e1 : Nat)) rfl (by kernel_rfl) (by kernel_rfl) (by kernel_rfl) (fun _ _ _ h => h) rfl rfl ⟨hB, h0, h1⟩ (fun w' h' => exec_mul _ _ _ _ rfl (i : Nat) (C2 : Nat) (e1 : Nat) rfl rfl He1.out) ?_
          go_frame
          refine y_yield 3 (some 28) (.int .i64 (j : Nat)) rfl (by kernel_rfl) (by kernel_rfl) (by kernel_rfl) (fun _ _ _ h => h) rfl rfl ⟨hB, h0, h1⟩ (fun w' h' => exec_move _ rfl (.int .i64 (j : Nat)) rfl) ?_
          go_frame
          refine y_yield 4 (some 29) (.int .i64 (u : Nat)) rfl (by kernel_rfl) (by kernel_rfl) (by kernel_rfl) (fun _ _ _ h => h) rfl rfl ⟨hB, h0, h1⟩ (fun w' h' => exec_add _ _ _ _ rfl (e1 : Nat) (j : Nat) (u : Nat) rfl rfl Hu.out) ?_
          go_frame
          refine y_yield 5 (some 30) (.int .i64 (i : Nat)) rfl (by kernel_rfl) (by kernel_rfl) (by kernel_rfl) (fun _ _ _ h => h) rfl rfl ⟨hB, h0, h1⟩ (fun w' h' => exec_move _ rfl (.int .i64 (i : Nat)) rfl) ?_
          go_frame
          refine y_yield 6 (some 31) (.pointer (some ⟨w.heap.size, 0 + i * 1, none⟩)) rfl (by kernel_rfl) (by kernel_rfl) (by kernel_rfl) (fun _ _ _ h => h) rfl rfl ⟨hB, h0, h1⟩ (fun w' h' => exec_index_arr 51 5 _ _ rfl w.heap.size 0 9 i 1 rfl rfl Try.underlying51 (by kernel_rfl) li9) ?_
          go_frame
          refine y_yield 7 (some 32) (.int .u8 (x : Nat)) rfl (by kernel_rfl) (by kernel_rfl) (by kernel_rfl) (fun _ _ _ h => h) rfl rfl ⟨hB, h0, h1⟩ (fun w' h' => exec_load_one 5 _ rfl w.heap.size (0 + i * 1) rfl (.int .u8 (x : Nat)) _ Try.underlying5 rfl (by rw [Nat.zero_add, Nat.mul_one, ← Hx.out]; exact h'.2.1.cell (i := i) (by rw [hf.len]; exact li9))) ?_
          go_frame
          refine y_yield 8 (some 33) (.int .i64 (x : Nat)) rfl (by kernel_rfl) (by kernel_rfl) (by kernel_rfl) (fun _ _ _ h => h) rfl rfl ⟨hB, h0, h1⟩ (fun w' h' => exec_conv _ rfl x rfl hx) ?_
          go_frame
          refine y_yield 9 (some 34) (.int .i64 (j : Nat)) rfl (by kernel_rfl) (by kernel_rfl) (by kernel_rfl) (fun _ _ _ h => h) rfl rfl ⟨hB, h0, h1⟩ (fun w' h' => exec_move _ rfl (.int .i64 (j : Nat)) rfl) ?_
          go_frame
          refine y_yield 10 (some 35) (.pointer (some ⟨Wz2.heap.size, 0 + j * 1, none⟩)) rfl (by kernel_rfl) (by kernel_rfl) (by kernel_rfl) (fun _ _ _ h => h) rfl rfl ⟨hB, h0, h1⟩ (fun w' h' => exec_index_arr 51 5 _ _ rfl Wz2.heap.size 0 9 j 1 rfl rfl Try.underlying51 (by kernel_rfl) lj9) ?_
          go_frame
          refine y_yield 11 (some 36) (.int .u8 (y : Nat)) rfl (by kernel_rfl) (by kernel_rfl) (by kernel_rfl) (fun _ _ _ h => h) rfl rfl ⟨hB, h0, h1⟩ (fun w' h' => exec_load_one 5 _ rfl Wz2.heap.size (0 + j * 1) rfl (.int .u8 (y : Nat)) _ Try.underlying5 rfl (by rw [Nat.zero_add, Nat.mul_one, ← Hy.out]; exact h'.2.2.cell (i := j) (by rw [hg.len]; exact lj9))) ?_
          go_frame
          refine y_yield 12 (some 37) (.int .i64 (y : Nat)) rfl (by kernel_rfl) (by kernel_rfl) (by kernel_rfl) (fun _ _ _ h => h) rfl rfl ⟨hB, h0, h1⟩ (fun w' h' => exec_conv _ rfl y rfl hy) ?_
          go_frame
          refine y_yield 13 (some 38) (.int .i64 (xy : Nat)) rfl (by kernel_rfl) (by kernel_rfl) (by kernel_rfl) (fun _ _ _ h => h) rfl rfl ⟨hB, h0, h1⟩ (fun w' h' => exec_mul _ _ _ _ rfl (x : Nat) (y : Nat) (xy : Nat) rfl rfl Hxy.out) ?_
          go_frame
          refine y_yield 14 (some 39) (.int .i64 (p : Nat)) rfl (by kernel_rfl) (by kernel_rfl) (by kernel_rfl) (fun _ _ _ h => h) rfl rfl ⟨hB, h0, h1⟩ (fun w' h' => exec_move _ rfl (.int .i64 (p : Nat)) rfl) ?_
          go_frame
          refine y_yield 15 (some 40) (.int .i64 (v : Nat)) rfl (by kernel_rfl) (by kernel_rfl) (by kernel_rfl) (fun _ _ _ h => h) rfl rfl ⟨hB, h0, h1⟩ (fun w' h' => exec_rem _ _ _ _ rfl (xy : Nat) (p : Nat) (v : Nat) rfl rfl neP Hv.out) ?_
          go_frame
          refine y_yield 16 (some 41) (.int .u8 (v : Nat)) rfl (by kernel_rfl) (by kernel_rfl) (by kernel_rfl) (fun _ _ _ h => h) rfl rfl ⟨hB, h0, h1⟩ (fun w' h' => exec_conv8l _ rfl (v : Nat) v rfl hv256 rfl) ?_
          go_frame
          refine y_yield 17 (some 42) (.pointer (some ⟨Wz15.heap.size, 0 + u * 1, none⟩)) rfl (by kernel_rfl) (by kernel_rfl) (by kernel_rfl) (fun _ _ _ h => h) rfl rfl ⟨hB, h0, h1⟩ (fun w' h' => exec_index_arr 51 5 _ _ rfl Wz15.heap.size 0 9 u 1 rfl rfl Try.underlying51 (by kernel_rfl) lu) ?_
          go_frame
          refine y_oper 18 (by kernel_rfl) rfl rfl (fun K' hK' => ?_)
          refine wp_store_b1l 5 _ _ rfl rfl Wz15.heap.size (0 + u * 1) rfl v rfl _ _ h5 (by kernel_rfl) (by rw [kfP_len]; omega) (fun Wz30 pz31 => ?_)
          replace hB := pz31.below hB (by omega)
          replace h0 := pz31.other h0 (by omega)
          replace h1 := pz31.other h1 (by omega)
          replace h4 := pz31.other h4 (by omega)
          replace h5 : At Wz30 Wz15.heap.size (.cells (u8s (kfP p C2 f g (i * C2 + (j + 1)))) 51 (0, 0)) := by have h9 := pz31.at_; rwa [HST.out] at h9
          refine hK' _ _ ⟨hB, h0, h1⟩ (fun h => absurd (by decide) h) ?_
          clear hK' K' pz31
          refine y_done (by kernel_rfl) ?_ _
          go_upto_region 7 with (fail)
          refine wp_region_lit ?_
          refine ls_ex (some 23) (.int .i64 (j : Nat)) rfl rfl (exec_move _ rfl (.int .i64 (j : Nat)) rfl) ?_
          go_frame
          refine ls_ex (some 24) (.int .i64 ((j + 1) : Nat)) rfl rfl (exec_add _ _ _ _ rfl (j : Nat) 1 ((j + 1 : Nat) : Int) rfl rfl (by rw [IntWalk.i64_in _ (by omega)]; omega)) ?_
          go_frame
          refine ls_ex (some 13) (.int .i64 ((j + 1) : Nat)) rfl rfl (exec_assign _ rfl (.int .i64 ((j + 1) : Nat)) rfl) ?_
          go_frame
          refine wpList_nil ?_
          go_wp2_with fail
          go_roundw
          case rel => exact ⟨j + 1, by omega, rfl, hB, h0, h1, h4, h5⟩
          case measure => simp [intOf]; omega
        · obtain rfl : j = C2 := by omega
          go_upto_region 6 with (fail)
          refine wp_region_lit ?_
          refine ls_ex (some 20) (.int .i64 (j : Nat)) rfl rfl (exec_move _ rfl (.int .i64 (j : Nat)) rfl) ?_
          go_frame
          refine ls_ex (some 21) (.int .i64 (j : Nat)) rfl rfl (exec_move _ rfl (.int .i64 (j : Nat)) rfl) ?_
          go_frame
          refine ls_ex (some 22) (.bool false) rfl rfl (exec_lss _ _ _ _ rfl ((j : Nat)) ((j : Nat)) rfl rfl false (decide_eq_false (by omega))) ?_
          go_frame
          refine wpList_nil ?_
          go_upto_region 4 with (fail)
          refine wp_region_lit ?_
          refine ls_ex (some 18) (.int .i64 (i : Nat)) rfl rfl (exec_move _ rfl (.int .i64 (i : Nat)) rfl) ?_
          go_frame
          refine ls_ex (some 19) (.int .i64 ((i + 1) : Nat)) rfl rfl (exec_add _ _ _ _ rfl (i : Nat) 1 ((i + 1 : Nat) : Int) rfl rfl (by rw [IntWalk.i64_in _ (by omega)]; omega)) ?_
          go_frame
          refine ls_ex (some 12) (.int .i64 ((i + 1) : Nat)) rfl rfl (exec_assign _ rfl (.int .i64 ((i + 1) : Nat)) rfl) ?_
          go_frame
          refine wpList_nil ?_
          go_wp2_with fail
          go_roundw
          case rel => exact ⟨i + 1, by omega, rfl, hB, h0, h1, h4, by rw [Nat.succ_mul]; exact h5⟩
          case measure => simp [intOf]; omega
    · have hiR : i = C1 := by omega
      rw [show i * C2 = C1 * C2 by rw [hiR], HL.out] at h5
      go_upto_region 3 with (fail)
      refine wp_region_lit ?_
      refine ls_ex (some 15) (.int .i64 (i : Nat)) rfl rfl (exec_move _ rfl (.int .i64 (i : Nat)) rfl) ?_
      go_frame
      refine ls_ex (some 16) (.int .i64 (C1 : Nat)) rfl rfl (exec_move _ rfl (.int .i64 (C1 : Nat)) rfl) ?_
      go_frame
      refine ls_ex (some 17) (.bool false) rfl rfl (exec_lss _ _ _ _ rfl ((i : Nat)) ((C1 : Nat)) rfl rfl false (decide_eq_false (by omega))) ?_
      go_frame
      refine wpList_nil ?_
      go_upto_region 9 with (fail)
      refine wp_region_lit ?_
      refine ls_ex (some 43) (.agg (u8s (mulF p 1 C1 1 C2 f g))) rfl rfl (exec_load_all 51 _ rfl Wz15.heap.size rfl _ _ _ h5 Try.underlying51 rfl 9 (by kernel_rfl) ((u8s_size _).trans (mulF_len _ _ _ _ _ _ _))) ?_
      go_frame
      refine ls_op rfl (fun K' hK' => ?_)
      refine wp_store_bytes 51 _ _ rfl rfl Wz8.heap.size rfl (mulF p 1 C1 1 C2 f g) rfl _ _ h4 9 (by kernel_rfl) (mulF_len _ _ _ _ _ _ _) (by simp) (fun Wz32 pz33 => ?_)
      replace hB := pz33.below hB (by omega)
      replace h0 := pz33.other h0 (by omega)
      replace h1 := pz33.other h1 (by omega)
      replace h5 := pz33.other h5 (by omega)
      replace h4 : At Wz32 Wz8.heap.size (.cells (u8s (mulF p 1 C1 1 C2 f g)) 51 (0, 0)) := pz33.at_
      refine hK' _ _ ?_
      clear hK' K' pz33
      refine wpList_nil ?_
      go_wp2_with fail
      refine bodyPost_ret (results_at rfl _ _ Wz8.heap.size _ _ _ rfl h4 Try.underlying51 rfl 9 (by kernel_rfl) ((u8s_size _).trans (mulF_len _ _ _ _ _ _ _))) rfl ?_
      exact ⟨rfl, hB⟩
end Go.Proofs.Ytopdfblfhdooaaa
