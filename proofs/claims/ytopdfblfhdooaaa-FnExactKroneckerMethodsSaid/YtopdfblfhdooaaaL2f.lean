/-
  spec.l02Form. (Made by mkl02f.py.)
-/
import Derived.Test.YtopdfblfhdooaaaMf0
import Derived.Test.YtopdfblfhdooaaaSx
namespace Go.Proofs.Ytopdfblfhdooaaa
open Go.RowKit
set_option maxRecDepth 100000
attribute [local irreducible] wpList
theorem exec_conv8l {o : Oper} {a : Act} {w : World} (x : Operand) (ho : o.op = .convert 2 5 x) (m : Int) (y : Nat) (hx : a.eval x = .int .i64 m) (hy : y < 256) (hm : m = (y : Int)) : (execOp a.eval o).run Try.prog w = .ok (.value (.int .u8 (y : Int))) w := by
  subst hm
  have hw : IntKind.u8.wrap (y : Int) = (y : Int) := by unfold IntKind.wrap; simp [IntKind.signed, IntKind.bits]; omega
  unfold execOp
  simp only [ho, hx]
  simp [go_sem, Try.underlying5, Try.underlying2, hw]
theorem wp_store_b1l {P : Program} {o : Oper} {a : Act} {w : World} {K : Act → World → Prop} {Q : Exit → Act → World → Prop} (ty : TypeId) (x y : Operand) (ho : o.op = .store ty x y) (hdst : o.dst = none) (g i : Nat) (hx : a.eval x = .pointer (some ⟨g, i, none⟩)) (n : Nat) (hy : a.eval y = .int .u8 (n : Int))
    (t : TypeId) (l : List Nat) (hg : At w g (.cells (u8s l) t (0, 0))) (hi : (P.info? ty).map (·.size) = some 1) (hle : i < l.length)
    (h : ∀ w', Put w w' g (.cells (u8s (l.set i n)) t (0, 0)) → K a w') : Oper.wp P o a w K Q := by
  refine wp_store_one ty x y ho hdst g i hx _ hy rfl rfl t (u8s l) hg hi (by rw [u8s_size]; exact hle) ?_
  rw [u8s_set]
  exact h
theorem exec_build_nil9 {o : Oper} {a : Act} {w : World} (ho : o.op = .build 51 #[]) : (execOp a.eval o).run Try.prog w = .ok (.value (.agg (u8s (List.replicate 9 0)))) w := by
  unfold execOp
  rw [ho]
  kernel_rfl
/-- The first S places of the product of two forms, zeros behind them. -/
def lfP (p c1 c2 r2 : Nat) (f g : List Nat) (S : Nat) : List Nat := (List.range 9).map fun t => if t < S then mulV p c1 c2 r2 f g t else 0
theorem lfP_len (p c1 c2 r2 : Nat) (f g : List Nat) (S : Nat) : (lfP p c1 c2 r2 f g S).length = 9 := by simp [lfP]
theorem lfP_zero (p c1 c2 r2 : Nat) (f g : List Nat) : lfP p c1 c2 r2 f g 0 = List.replicate 9 0 := by
  apply List.ext_getElem (by simp [lfP])
  intro i h1 h2
  rw [List.getElem_replicate]
  simp only [lfP, List.getElem_map, List.getElem_range]
  rw [if_neg (by omega)]
theorem lf_step {p R1 C1 R2 C2 : Nat} (hk : okK R1 C1 R2 C2 = true) (f g : List Nat) {i j : Nat} (hi : i < R1 * R2) (hj : j < C1 * C2) :
    C1 * C2 * i + j < 9 ∧ C1 * (i / R2) + j / C2 < 9 ∧ C2 * (i % R2) + j % C2 < 9 ∧ (lfP p C1 C2 R2 f g (i * (C1 * C2) + j)).set (C1 * C2 * i + j) (f[C1 * (i / R2) + j / C2]?.getD 0 * g[C2 * (i % R2) + j % C2]?.getD 0 % p) = lfP p C1 C2 R2 f g (i * (C1 * C2) + (j + 1)) := by
  obtain ⟨k1, k2, k3, k4, k5⟩ := okK_le hk
  have hN : R1 * R2 * (C1 * C2) = R1 * C1 * (R2 * C2) := Nat.mul_mul_mul_comm _ _ _ _
  have hlt : i * (C1 * C2) + j < R1 * C1 * (R2 * C2) := by
    rw [← hN]
    have := Nat.mul_le_mul_right (C1 * C2) (show i + 1 ≤ R1 * R2 from hi)
    rw [Nat.succ_mul] at this
    omega
  have hpos : 0 < C1 * C2 := by omega
  have d1 : (i * (C1 * C2) + j) / (C1 * C2) = i := by rw [Nat.mul_comm, Nat.mul_add_div hpos, Nat.div_eq_of_lt hj, Nat.add_zero]
  have d2 : (i * (C1 * C2) + j) % (C1 * C2) = j := by rw [Nat.mul_comm, Nat.mul_add_mod, Nat.mod_eq_of_lt hj]
  have e1 : plK C1 C2 R2 (i * (C1 * C2) + j) = C1 * (i / R2) + j / C2 := by unfold plK; rw [d1, d2, Nat.mul_comm C1]
  have e2 : inK C1 C2 R2 (i * (C1 * C2) + j) = C2 * (i % R2) + j % C2 := by unfold inK; rw [d1, d2, Nat.mul_comm C2]
  obtain ⟨a1, a2, _⟩ := okK_t hk hlt
  have u1 : R1 * C1 * 1 ≤ R1 * C1 * (R2 * C2) := Nat.mul_le_mul_left _ (Nat.mul_pos k3 k4)
  have u2 : 1 * (R2 * C2) ≤ R1 * C1 * (R2 * C2) := Nat.mul_le_mul_right _ (Nat.mul_pos k1 k2)
  rw [e1] at a1
  rw [e2] at a2
  have hu : C1 * C2 * i + j = i * (C1 * C2) + j := by rw [Nat.mul_comm]
  refine ⟨by omega, by omega, by omega, ?_⟩
  rw [hu]
  apply List.ext_getElem (by simp [lfP])
  intro t h1 h2
  rw [List.getElem_set]
  by_cases he : i * (C1 * C2) + j = t
  · rw [if_pos he]
    simp only [lfP, List.getElem_map, List.getElem_range]
    rw [if_pos (by omega), ← he]
    unfold mulV
    rw [e1, e2]
  · rw [if_neg he]
    simp only [lfP, List.getElem_map, List.getElem_range]
    by_cases hl : t < i * (C1 * C2) + j
    · rw [if_pos hl, if_pos (by omega)]
    · rw [if_neg hl, if_neg (by omega)]
theorem alL_impl_Form {o : Oper} {a : Act} {w : World} (ho : o.op = .alloc 51) : (execOp a.eval o).run Try.prog w = .ok (.value (.pointer (some ⟨w.heap.size, 0, none⟩))) (w.alloc (.cells (u8s (List.replicate 9 0)) 51 (0, 0))) := by
  unfold execOp
  rw [ho]
  kernel_rfl
set_option maxHeartbeats 25600000 in
theorem l02Form_c (p R1 C1 R2 C2 : Nat) (f g : List Nat) (hf : Bytes 9 f) (hg : Bytes 9 g) (w : World) (hp : 2 ≤ p ∧ p ≤ 5) (hk : okK R1 C1 R2 C2 = true) :
    Calls Try.prog 37 #[.int .i64 (p : Nat), .agg (u8s (f)), .agg (u8s (g)), .int .i64 (R1 : Nat), .int .i64 (C1 : Nat), .int .i64 (R2 : Nat), .int .i64 (C2 : Nat)] w (fun e w' => e = .returned (.agg (u8s (mulF p R1 C1 R2 C2 f g))) ∧ Below w.heap.size w w') := by
  have hB := Below.refl w.heap.size w
  obtain ⟨k1, k2, k3, k4, k5⟩ := okK_le hk
  obtain ⟨NR, hNR⟩ : ∃ n, R1 * R2 = n := ⟨_, rfl⟩
  obtain ⟨NC, hNC⟩ : ∃ n, C1 * C2 = n := ⟨_, rfl⟩
  have hN : NR * NC = R1 * C1 * (R2 * C2) := by rw [← hNR, ← hNC, Nat.mul_mul_mul_comm]
  have hb : NR * NC ≤ 9 := by rw [hN]; exact k5
  have gR1 : R1 * 1 ≤ NR := by rw [← hNR]; exact Nat.mul_le_mul_left _ k3
  have gR2 : 1 * R2 ≤ NR := by rw [← hNR]; exact Nat.mul_le_mul_right _ k1
  have gC1 : C1 * 1 ≤ NC := by rw [← hNC]; exact Nat.mul_le_mul_left _ k4
  have gC2 : 1 * C2 ≤ NC := by rw [← hNC]; exact Nat.mul_le_mul_right _ k2
  have g1 : NR * 1 ≤ NR * NC := Nat.mul_le_mul_left _ (by omega)
  have g2 : 1 * NC ≤ NR * NC := Nat.mul_le_mul_right _ (by omega)
  have hR9 : NR ≤ 9 := by omega
  have hC9 : NC ≤ 9 := by omega
  have HWR : Hid (IntKind.i64.wrap ((R1 : Int) * (R2 : Int)) = (NR : Int)) := Lib.hid (by rw [← Int.natCast_mul, hNR]; exact IntWalk.i64_in _ (by omega))
  have HWC : Hid (IntKind.i64.wrap ((C1 : Int) * (C2 : Int)) = (NC : Int)) := Lib.hid (by rw [← Int.natCast_mul, hNC]; exact IntWalk.i64_in _ (by omega))
  have HL : Hid (lfP p C1 C2 R2 f g (NR * NC) = mulF p R1 C1 R2 C2 f g) := Lib.hid (by rw [hN]; rfl)
  have neR : (R2 : Int) ≠ 0 := by omega
  have neC : (C2 : Int) ≠ 0 := by omega
  have neP : (p : Int) ≠ 0 := by omega
  have lR1 : R1 ≤ 9 := by omega
  have lR2 : R2 ≤ 9 := by omega
  have lC1 : C1 ≤ 9 := by omega
  have lC2 : C2 ≤ 9 := by omega
  clear hN hb g1 g2 gR1 gR2 gC1 gC2 k5
  go_enter Try.func37, Try.ntmps37
  go_upto_region 0 with (fail)
  refine wp_region_lit ?_
  refine ls_op rfl (fun K' hK' => ?_)
  have lz1 := hB.size
  refine wp_new (some 8) rfl (exec_box 51 _ rfl (u8s (f)) rfl) (fun Wz2 nnz3 => ?_)
  have bz4 := nnz3.below (Below.refl _ _) (Nat.le_refl _)
  replace hB := below_after hB bz4
  have hz5 : At Wz2 w.heap.size (.cells (u8s (f)) 51 (0, 0)) := nnz3.at_
  refine hK' _ _ ?_
  clear hK' K' nnz3 bz4
  go_frame
  refine ls_op rfl (fun K' hK' => ?_)
  have lz6 := hB.size
  have lz7 := hz5.lt
  refine wp_new (some 9) rfl (exec_box 51 _ rfl (u8s (g)) rfl) (fun Wz8 nnz9 => ?_)
  have bz10 := nnz9.below (Below.refl _ _) (Nat.le_refl _)
  replace hB := below_after hB bz10
  replace hz5 := hz5.after bz10
  have hz11 : At Wz8 Wz2.heap.size (.cells (u8s (g)) 51 (0, 0)) := nnz9.at_
  refine hK' _ _ ?_
  clear hK' K' nnz9 bz10
  go_frame
  refine ls_op rfl (fun K' hK' => ?_)
  have lz12 := hB.size
  have lz13 := hz5.lt
  have lz14 := hz11.lt
  refine wp_new (some 14) rfl (alL_impl_Form rfl) (fun Wz15 nnz16 => ?_)
  have bz17 := nnz16.below (Below.refl _ _) (Nat.le_refl _)
  replace hB := below_after hB bz17
  replace hz5 := hz5.after bz17
  replace hz11 := hz11.after bz17
  have hz18 : At Wz15 Wz8.heap.size (.cells (u8s (List.replicate 9 0)) 51 (0, 0)) := nnz16.at_
  refine hK' _ _ ?_
  clear hK' K' nnz16 bz17
  go_frame
  refine wpList_nil ?_
  go_upto_region 1 with (fail)
  refine wp_region_lit ?_
  refine ls_ex (some 18) (.agg (u8s (List.replicate 9 0))) rfl rfl (exec_build_nil9 rfl) ?_
  go_frame
  refine ls_op rfl (fun K' hK' => ?_)
  have lz19 := hB.size
  have lz20 := hz5.lt
  have lz21 := hz11.lt
  have lz22 := hz18.lt
  refine wp_new (some 15) rfl (alL_impl_Form rfl) (fun Wz23 nnz24 => ?_)
  have bz25 := nnz24.below (Below.refl _ _) (Nat.le_refl _)
  replace hB := below_after hB bz25
  replace hz5 := hz5.after bz25
  replace hz11 := hz11.after bz25
  replace hz18 := hz18.after bz25
  have hz26 : At Wz23 Wz15.heap.size (.cells (u8s (List.replicate 9 0)) 51 (0, 0)) := nnz24.at_
  refine hK' _ _ ?_
  clear hK' K' nnz24 bz25
  go_frame
  refine ls_op rfl (fun K' hK' => ?_)
  refine wp_store_bytes 51 _ _ rfl rfl Wz15.heap.size rfl (List.replicate 9 0) rfl _ _ hz26 9 (by kernel_rfl) (by simp) (by simp) (fun Wz27 pz28 => ?_)
  replace hB := pz28.below hB (by omega)
  replace hz5 := pz28.other hz5 (by omega)
  replace hz11 := pz28.other hz11 (by omega)
  replace hz18 := pz28.other hz18 (by omega)
  replace hz26 : At Wz27 Wz15.heap.size (.cells (u8s (List.replicate 9 0)) 51 (0, 0)) := pz28.at_
  refine hK' _ _ ?_
  clear hK' K' pz28
  refine wpList_nil ?_
  go_upto_region 2 with (fail)
  refine wp_region_lit ?_
  refine ls_ex (some 16) (.int .i64 0) rfl rfl (exec_assign _ rfl (.int .i64 0) rfl) ?_
  go_frame
  refine wpList_nil ?_
  go_wp2_with fail
  go_loopw [16] (fun s16 wr => ∃ i : Nat, i ≤ NR ∧ s16 = .int .i64 i ∧ Below w.heap.size w wr ∧ At wr w.heap.size (.cells (u8s (f)) 51 (0, 0)) ∧ At wr Wz2.heap.size (.cells (u8s (g)) 51 (0, 0)) ∧ At wr Wz8.heap.size (.cells (u8s (List.replicate 9 0)) 51 (0, 0)) ∧ At wr Wz15.heap.size (.cells (u8s (lfP p C1 C2 R2 f g (i * NC))) 51 (0, 0))) (fun s16 _ => NR - (intOf s16).toNat)
  case atStart => exact ⟨0, by omega, rfl, hB, hz5, hz11, hz18, by rw [Nat.zero_mul, lfP_zero]; exact hz26⟩
  case round =>
    clear hB hz5 hz11 hz18 hz26
    obtain ⟨i, hlei, rfl, hB, h0, h1, h4, h5⟩ := hrel
    by_cases hlti : i < NR
    · go_upto_region 3 with (fail)
      refine wp_region_lit ?_
      refine ls_ex (some 19) (.int .i64 (i : Nat)) rfl rfl (exec_move _ rfl (.int .i64 (i : Nat)) rfl) ?_
      go_frame
      refine ls_ex (some 20) (.int .i64 (R1 : Nat)) rfl rfl (exec_move _ rfl (.int .i64 (R1 : Nat)) rfl) ?_
      go_frame
      refine ls_ex (some 21) (.int .i64 (R2 : Nat)) rfl rfl (exec_move _ rfl (.int .i64 (R2 : Nat)) rfl) ?_
      go_frame
      refine ls_ex (some 22) (.int .i64 (NR : Nat)) rfl rfl (exec_mul _ _ _ _ rfl (R1 : Nat) (R2 : Nat) (NR : Nat) rfl rfl HWR.out) ?_
      go_frame
      refine ls_ex (some 23) (.bool true) rfl rfl (exec_lss _ _ _ _ rfl ((i : Nat)) ((NR : Nat)) rfl rfl true (decide_eq_true (by omega))) ?_
      go_frame
      refine wpList_nil ?_
      go_upto_region 5 with (fail)
      refine wp_region_lit ?_
      refine ls_ex (some 17) (.int .i64 0) rfl rfl (exec_assign _ rfl (.int .i64 0) rfl) ?_
      go_frame
      refine wpList_nil ?_
      go_wp2_with fail
      go_loopw [17] (fun s17 wr => ∃ j : Nat, j ≤ NC ∧ s17 = .int .i64 j ∧ Below w.heap.size w wr ∧ At wr w.heap.size (.cells (u8s (f)) 51 (0, 0)) ∧ At wr Wz2.heap.size (.cells (u8s (g)) 51 (0, 0)) ∧ At wr Wz8.heap.size (.cells (u8s (List.replicate 9 0)) 51 (0, 0)) ∧ At wr Wz15.heap.size (.cells (u8s (lfP p C1 C2 R2 f g (i * NC + j))) 51 (0, 0))) (fun s17 _ => NC - (intOf s17).toNat)
      case atStart => exact ⟨0, by omega, rfl, hB, h0, h1, h4, h5⟩
      case round =>
        clear hB h0 h1 h4 h5
        obtain ⟨j, hlej, rfl, hB, h0, h1, h4, h5⟩ := hrel
        by_cases hltj : j < NC
        · have HI := lf_step (p := p) hk f g (i := i) (j := j) (by rw [hNR]; exact hlti) (by rw [hNC]; exact hltj)
          rw [hNC] at HI
          obtain ⟨di, hdi⟩ : ∃ x, x = i / R2 := ⟨_, rfl⟩
          obtain ⟨dj, hdj⟩ : ∃ x, x = j / C2 := ⟨_, rfl⟩
          obtain ⟨mi, hmi⟩ : ∃ x, x = i % R2 := ⟨_, rfl⟩
          obtain ⟨mj, hmj⟩ : ∃ x, x = j % C2 := ⟨_, rfl⟩
          rw [← hdi, ← hdj, ← hmi, ← hmj] at HI
          have bdi : di ≤ 9 := by rw [hdi]; exact Nat.le_trans (Nat.div_le_self _ _) (by omega)
          have bdj : dj ≤ 9 := by rw [hdj]; exact Nat.le_trans (Nat.div_le_self _ _) (by omega)
          have bmi : mi ≤ 9 := by rw [hmi]; exact Nat.le_trans (Nat.mod_le _ _) (by omega)
          have bmj : mj ≤ 9 := by rw [hmj]; exact Nat.le_trans (Nat.mod_le _ _) (by omega)
          have Hdi : Hid (IntKind.i64.wrap ((i : Int).tdiv (R2 : Int)) = (di : Int)) := Lib.hid (by rw [← Int.ofNat_tdiv, ← hdi]; exact IntWalk.i64_in _ (by omega))
          have Hdj : Hid (IntKind.i64.wrap ((j : Int).tdiv (C2 : Int)) = (dj : Int)) := Lib.hid (by rw [← Int.ofNat_tdiv, ← hdj]; exact IntWalk.i64_in _ (by omega))
          have Hmi : Hid ((i : Int).tmod (R2 : Int) = (mi : Int)) := Lib.hid (by rw [← Int.ofNat_tmod, ← hmi])
          have Hmj : Hid ((j : Int).tmod (C2 : Int) = (mj : Int)) := Lib.hid (by rw [← Int.ofNat_tmod, ← hmj])
          obtain ⟨e1, he1⟩ : ∃ x, x = NC * i := ⟨_, rfl⟩
          obtain ⟨e2, he2⟩ : ∃ x, x = C1 * di := ⟨_, rfl⟩
          obtain ⟨e3, he3⟩ : ∃ x, x = C2 * mi := ⟨_, rfl⟩
          obtain ⟨u, hu⟩ : ∃ x, x = e1 + j := ⟨_, rfl⟩
          obtain ⟨s1, hs1⟩ : ∃ x, x = e2 + dj := ⟨_, rfl⟩
          obtain ⟨s2, hs2⟩ : ∃ x, x = e3 + mj := ⟨_, rfl⟩
          rw [← he1, ← he2, ← he3, ← hu, ← hs1, ← hs2] at HI
          obtain ⟨lu, ls1, ls2, HIS⟩ := HI
          have b1 : e1 ≤ 81 := by rw [he1]; exact (show NC * i ≤ 9 * 9 from Nat.mul_le_mul hC9 (by omega))
          have b2 : e2 ≤ 81 := by rw [he2]; exact (show C1 * di ≤ 9 * 9 from Nat.mul_le_mul lC1 bdi)
          have b3 : e3 ≤ 81 := by rw [he3]; exact (show C2 * mi ≤ 9 * 9 from Nat.mul_le_mul lC2 bmi)
          have He1 : Hid (IntKind.i64.wrap ((NC : Int) * (i : Int)) = (e1 : Int)) := Lib.hid (by rw [← Int.natCast_mul, ← he1]; exact IntWalk.i64_in _ (by omega))
          have He2 : Hid (IntKind.i64.wrap ((C1 : Int) * (di : Int)) = (e2 : Int)) := Lib.hid (by rw [← Int.natCast_mul, ← he2]; exact IntWalk.i64_in _ (by omega))
          have He3 : Hid (IntKind.i64.wrap ((C2 : Int) * (mi : Int)) = (e3 : Int)) := Lib.hid (by rw [← Int.natCast_mul, ← he3]; exact IntWalk.i64_in _ (by omega))
          have Hu : Hid (IntKind.i64.wrap ((e1 : Int) + (j : Int)) = (u : Int)) := Lib.hid (by rw [IntWalk.i64_in _ (by omega)]; omega)
          have Hs1 : Hid (IntKind.i64.wrap ((e2 : Int) + (dj : Int)) = (s1 : Int)) := Lib.hid (by rw [IntWalk.i64_in _ (by omega)]; omega)
          have Hs2 : Hid (IntKind.i64.wrap ((e3 : Int) + (mj : Int)) = (s2 : Int)) := Lib.hid (by rw [IntWalk.i64_in _ (by omega)]; omega)
          have hx := hf.lt s1
          have hy := hg.lt s2
          obtain ⟨x, hxe⟩ : ∃ t, f[s1]?.getD 0 = t := ⟨_, rfl⟩
          obtain ⟨y, hye⟩ : ∃ t, g[s2]?.getD 0 = t := ⟨_, rfl⟩
          rw [hxe] at HIS hx
          rw [hye] at HIS hy
          have Hx := Lib.hid hxe
          have Hy := Lib.hid hye
          obtain ⟨xy, hxy⟩ : ∃ t, t = x * y := ⟨_, rfl⟩
          have bxy : xy ≤ 255 * 255 := by rw [hxy]; exact Nat.mul_le_mul (by omega) (by omega)
          have Hxy : Hid (IntKind.i64.wrap ((x : Int) * (y : Int)) = (xy : Int)) := Lib.hid (by rw [← Int.natCast_mul, ← hxy]; exact IntWalk.i64_in _ (by omega))
          obtain ⟨v, hv⟩ : ∃ t, t = xy % p := ⟨_, rfl⟩
          have bv : v < 5 := by rw [hv]; have := Nat.mod_lt xy (show 0 < p by omega); omega
          have hv256 : v < 256 := by omega
          have Hv : Hid ((xy : Int).tmod (p : Int) = (v : Int)) := Lib.hid (by rw [← Int.ofNat_tmod, ← hv])
          have HST : Hid ((lfP p C1 C2 R2 f g (i * NC + j)).set (0 + u * 1) v = lfP p C1 C2 R2 f g (i * NC + (j + 1))) := Lib.hid (by rw [Nat.zero_add, Nat.mul_one, ← HIS, hv, hxy])
          clear HIS hxy hv hxe hye hu hs1 hs2 he1 he2 he3 hdi hdj hmi hmj
          go_upto_region 6 with (fail)
          refine wp_region_lit ?_
          refine ls_ex (some 26) (.int .i64 (j : Nat)) rfl rfl (exec_move _ rfl (.int .i64 (j : Nat)) rfl) ?_
          go_frame
          refine ls_ex (some 27) (.int .i64 (C1 : Nat)) rfl rfl (exec_move _ rfl (.int .i64 (C1 : Nat)) rfl) ?_
          go_frame
          refine ls_ex (some 28) (.int .i64 (C2 : Nat)) rfl rfl (exec_move _ rfl (.int .i64 (C2 : Nat)) rfl) ?_
          go_frame
          refine ls_ex (some 29) (.int .i64 (NC : Nat)) rfl rfl (exec_mul _ _ _ _ rfl (C1 : Nat) (C2 : Nat) (NC : Nat) rfl rfl HWC.out) ?_
          go_frame
          refine ls_ex (some 30) (.bool true) rfl rfl (exec_lss _ _ _ _ rfl ((j : Nat)) ((NC : Nat)) rfl rfl true (decide_eq_true (by omega))) ?_
          go_frame
          refine wpList_nil ?_
          go_upto_region 8 with (fail)
          refine wp_region_y (zs := [36]) (S := fun w' => Below w.heap.size w w' ∧ At w' w.heap.size (.cells (u8s (f)) 51 (0, 0)) ∧ At w' Wz2.heap.size (.cells (u8s (g)) 51 (0, 0))) (S2 := fun w' => True) (by kernel_rfl) ?_
          change wpAnyY _ _ _ _ _ _ _ _ _ _ (World.drew _)
          generalize hwdz29 : World.drew _ = wdz29
          replace hB : Below w.heap.size w wdz29 := by rw [← hwdz29]; exact hB.drew
          replace h0 : At wdz29 w.heap.size (.cells (u8s (f)) 51 (0, 0)) := by rw [← hwdz29]; exact h0
          replace h1 : At wdz29 Wz2.heap.size (.cells (u8s (g)) 51 (0, 0)) := by rw [← hwdz29]; exact h1
          replace h4 : At wdz29 Wz8.heap.size (.cells (u8s (List.replicate 9 0)) 51 (0, 0)) := by rw [← hwdz29]; exact h4
          replace h5 : At wdz29 Wz15.heap.size (.cells (u8s (lfP p C1 C2 R2 f g (i * NC + j))) 51 (0, 0)) := by rw [← hwdz29]; exact h5
          clear hwdz29
          refine y_yield 0 (some 33) (.int .i64 (C1 : Nat)) rfl (by kernel_rfl) (by kernel_rfl) (by kernel_rfl) (fun _ _ _ h => h) rfl rfl ⟨hB, h0, h1⟩ (fun w' h' => exec_move _ rfl (.int .i64 (C1 : Nat)) rfl) ?_
          go_frame
          refine y_yield 1 (some 34) (.int .i64 (C2 : Nat)) rfl (by kernel_rfl) (by kernel_rfl) (by kernel_rfl) (fun _ _ _ h => h) rfl rfl ⟨hB, h0, h1⟩ (fun w' h' => exec_move _ rfl (.int .i64 (C2 : Nat)) rfl) ?_
          go_frame
          refine y_yield 2 (some 35) (.int .i64 (NC : Nat)) rfl (by kernel_rfl) (by kernel_rfl) (by kernel_rfl) (fun _ _ _ h => h) rfl rfl ⟨hB, h0, h1⟩ (fun w' h' => exec_mul _ _ _ _ rfl (C1 : Nat) (C2 : Nat) (NC : Nat) rfl rfl HWC.out) ?_
          go_frame
          refine y_yield 3 (some 36) (.int .i64 (i : Nat)) rfl (by kernel_rfl) (by kernel_rfl) (by kernel_rfl) (fun _ _ _ h => h) rfl rfl ⟨hB, h0, h1⟩ (fun w' h' => exec_move _ rfl (.int .i64 (i : Nat)) rfl) ?_
          go_frame
          refine y_yield 4 (some 37) (.int .i64 (e1 : Nat)) rfl (by kernel_rfl) (by kernel_rfl) (by kernel_rfl) (fun _ _ _ h => h) rfl rfl ⟨hB, h0, h1⟩ (fun w' h' => exec_mul _ _ _ _ rfl (NC : Nat) (i : Nat) (e1 : Nat) rfl rfl He1.out) ?_
          go_frame
          refine y_yield 5 (some 38) (.int .i64 (j : Nat)) rfl (by kernel_rfl) (by kernel_rfl) (by kernel_rfl) (fun _ _ _ h => h) rfl rfl ⟨hB, h0, h1⟩ (fun w' h' => exec_move _ rfl (.int .i64 (j : Nat)) rfl) ?_
          go_frame
          refine y_yield 6 (some 39) (.int .i64 (u : Nat)) rfl (by kernel_rfl) (by kernel_rfl) (by kernel_rfl) (fun _ _ _ h => h) rfl rfl ⟨hB, h0, h1⟩ (fun w' h' => exec_add _ _ _ _ rfl (e1 : Nat) (j : Nat) (u : Nat) rfl rfl Hu.out) ?_
          go_frame
          refine y_yield 7 (some 40) (.int .i64 (C1 : Nat)) rfl (by kernel_rfl) (by kernel_rfl) (by kernel_rfl) (fun _ _ _ h => h) rfl rfl ⟨hB, h0, h1⟩ (fun w' h' => exec_move _ rfl (.int .i64 (C1 : Nat)) rfl) ?_
          go_frame
          refine y_yield 8 (some 41) (.int .i64 (i : Nat)) rfl (by kernel_rfl) (by kernel_rfl) (by kernel_rfl) (fun _ _ _ h => h) rfl rfl ⟨hB, h0, h1⟩ (fun w' h' => exec_move _ rfl (.int .i64 (i : Nat)) rfl) ?_
          go_frame
          refine y_yield 9 (some 42) (.int .i64 (R2 : Nat)) rfl (by kernel_rfl) (by kernel_rfl) (by kernel_rfl) (fun _ _ _ h => h) rfl rfl ⟨hB, h0, h1⟩ (fun w' h' => exec_move _ rfl (.int .i64 (R2 : Nat)) rfl) ?_
          go_frame
          refine y_yield 10 (some 43) (.int .i64 (di : Nat)) rfl (by kernel_rfl) (by kernel_rfl) (by kernel_rfl) (fun _ _ _ h => h) rfl rfl ⟨hB, h0, h1⟩ (fun w' h' => exec_quo _ _ _ _ rfl (i : Nat) (R2 : Nat) (di : Nat) rfl rfl neR Hdi.out) ?_
          go_frame
          refine y_yield 11 (some 44) (.int .i64 (e2 : Nat)) rfl (by kernel_rfl) (by kernel_rfl) (by kernel_rfl) (fun _ _ _ h => h) rfl rfl ⟨hB, h0, h1⟩ (fun w' h' => exec_mul _ _ _ _ rfl (C1 : Nat) (di : Nat) (e2 : Nat) rfl rfl He2.out) ?_
          go_frame
          refine y_yield 12 (some 45) (.int .i64 (j : Nat)) rfl (by kernel_rfl) (by kernel_rfl) (by kernel_rfl) (fun _ _ _ h => h) rfl rfl ⟨hB, h0, h1⟩ (fun w' h' => exec_move _ rfl (.int .i64 (j : Nat)) rfl) ?_
          go_frame
          refine y_yield 13 (some 46) (.int .i64 (C2 : Nat)) rfl (by kernel_rfl) (by kernel_rfl) (by kernel_rfl) (fun _ _ _ h => h) rfl rfl ⟨hB, h0, h1⟩ (fun w' h' => exec_move _ rfl (.int .i64 (C2 : Nat)) rfl) ?_
          go_frame
          refine y_yield 14 (some 47) (.int .i64 (dj : Nat)) rfl (by kernel_rfl) (by kernel_rfl) (by kernel_rfl) (fun _ _ _ h => h) rfl rfl ⟨hB, h0, h1⟩ (fun w' h' => exec_quo _ _ _ _ rfl (j : Nat) (C2 : Nat) (dj : Nat) rfl rfl neC Hdj.out) ?_
          go_frame
          refine y_yield 15 (some 48) (.int .i64 (s1 : Nat)) rfl (by kernel_rfl) (by kernel_rfl) (by kernel_rfl) (fun _ _ _ h => h) rfl rfl ⟨hB, h0, h1⟩ (fun w' h' => exec_add _ _ _ _ rfl (e2 : Nat) (dj : Nat) (s1 : Nat) rfl rfl Hs1.out) ?_
          go_frame
          refine y_yield 16 (some 49) (.pointer (some ⟨w.heap.size, 0 + s1 * 1, none⟩)) rfl (by kernel_rfl) (by kernel_rfl) (by kernel_rfl) (fun _ _ _ h => h) rfl rfl ⟨hB, h0, h1⟩ (fun w' h' => exec_index_arr 51 5 _ _ rfl w.heap.size 0 9 s1 1 rfl rfl Try.underlying51 (by kernel_rfl) ls1) ?_
          go_frame
          refine y_yield 17 (some 50) (.int .u8 (x : Nat)) rfl (by kernel_rfl) (by kernel_rfl) (by kernel_rfl) (fun _ _ _ h => h) rfl rfl ⟨hB, h0, h1⟩ (fun w' h' => exec_load_one 5 _ rfl w.heap.size (0 + s1 * 1) rfl (.int .u8 (x : Nat)) _ Try.underlying5 rfl (by rw [Nat.zero_add, Nat.mul_one, ← Hx.out]; exact h'.2.1.cell (i := s1) (by rw [hf.len]; exact ls1))) ?_
          go_frame
          refine y_yield 18 (some 51) (.int .i64 (x : Nat)) rfl (by kernel_rfl) (by kernel_rfl) (by kernel_rfl) (fun _ _ _ h => h) rfl rfl ⟨hB, h0, h1⟩ (fun w' h' => exec_conv _ rfl x rfl hx) ?_
          go_frame
          refine y_yield 19 (some 52) (.int .i64 (C2 : Nat)) rfl (by kernel_rfl) (by kernel_rfl) (by kernel_rfl) (fun _ _ _ h => h) rfl rfl ⟨hB, h0, h1⟩ (fun w' h' => exec_move _ rfl (.int .i64 (C2 : Nat)) rfl) ?_
          go_frame
          refine y_yield 20 (some 53) (.int .i64 (i : Nat)) rfl (by kernel_rfl) (by kernel_rfl) (by kernel_rfl) (fun _ _ _ h => h) rfl rfl ⟨hB, h0, h1⟩ (fun w' h' => exec_move _ rfl (.int .i64 (i : Nat)) rfl) ?_
          go_frame
          refine y_yield 21 (some 54) (.int .i64 (R2 : Nat)) rfl (by kernel_rfl) (by kernel_rfl) (by kernel_rfl) (fun _ _ _ h => h) rfl rfl ⟨hB, h0, h1⟩ (fun w' h' => exec_move _ rfl (.int .i64 (R2 : Nat)) rfl) ?_
          go_frame
          refine y_yield 22 (some 55) (.int .i64 (mi : Nat)) rfl (by kernel_rfl) (by kernel_rfl) (by kernel_rfl) (fun _ _ _ h => h) rfl rfl ⟨hB, h0, h1⟩ (fun w' h' => exec_rem _ _ _ _ rfl (i : Nat) (R2 : Nat) (mi : Nat) rfl rfl neR Hmi.out) ?_
          go_frame
          refine y_yield 23 (some 56) (.int .i64 (e3 : Nat)) rfl (by kernel_rfl) (by kernel_rfl) (by kernel_rfl) (fun _ _ _ h => h) rfl rfl ⟨hB, h0, h1⟩ (fun w' h' => exec_mul _ _ _ _ rfl (C2 : Nat) (mi : Nat) (e3 : Nat) rfl rfl He3.out) ?_
          go_frame
          refine y_yield 24 (some 57) (.int .i64 (j : Nat)) rfl (by kernel_rfl) (by kernel_rfl) (by kernel_rfl) (fun _ _ _ h => h) rfl rfl ⟨hB, h0, h1⟩ (fun w' h' => exec_move _ rfl (.int .i64 (j : Nat)) rfl) ?_
          go_frame
          refine y_yield 25 (some 58) (.int .i64 (C2 : Nat)) rfl (by kernel_rfl) (by kernel_rfl) (by kernel_rfl) (fun _ _ _ h => h) rfl rfl ⟨hB, h0, h1⟩ (fun w' h' => exec_move _ rfl (.int .i64 (C2 : Nat)) rfl) ?_
          go_frame
          refine y_yield 26 (some 59) (.int .i64 (mj : Nat)) rfl (by kernel_rfl) (by kernel_rfl) (by kernel_rfl) (fun _ _ _ h => h) rfl rfl ⟨hB, h0, h1⟩ (fun w' h' => exec_rem _ _ _ _ rfl (j : Nat) (C2 : Nat) (mj : Nat) rfl rfl neC Hmj.out) ?_
          go_frame
          refine y_yield 27 (some 60) (.int .i64 (s2 : Nat)) rfl (by kernel_rfl) (by kernel_rfl) (by kernel_rfl) (fun _ _ _ h => h) rfl rfl ⟨hB, h0, h1⟩ (fun w' h' => exec_add _ _ _ _ rfl (e3 : Nat) (mj : Nat) (s2 : Nat) rfl rfl Hs2.out) ?_
          go_frame
          refine y_yield 28 (some 61) (.pointer (some ⟨Wz2.heap.size, 0 + s2 * 1, none⟩)) rfl (by kernel_rfl) (by kernel_rfl) (by kernel_rfl) (fun _ _ _ h => h) rfl rfl ⟨hB, h0, h1⟩ (fun w' h' => exec_index_arr 51 5 _ _ rfl Wz2.heap.size 0 9 s2 1 rfl rfl Try.underlying51 (by kernel_rfl) ls2) ?_
          go_frame
          refine y_yield 29 (some 62) (.int .u8 (y : Nat)) rfl (by kernel_rfl) (by kernel_rfl) (by kernel_rfl) (fun _ _ _ h => h) rfl rfl ⟨hB, h0, h1⟩ (fun w' h' => exec_load_one 5 _ rfl Wz2.heap.size (0 + s2 * 1) rfl (.int .u8 (y : Nat)) _ Try.underlying5 rfl (by rw [Nat.zero_add, Nat.mul_one, ← Hy.out]; exact h'.2.2.cell (i := s2) (by rw [hg.len]; exact ls2))) ?_
          go_frame
          refine y_yield 30 (some 63) (.int .i64 (y : Nat)) rfl (by kernel_rfl) (by kernel_rfl) (by kernel_rfl) (fun _ _ _ h => h) rfl rfl ⟨hB, h0, h1⟩ (fun w' h' => exec_conv _ rfl y rfl hy) ?_
          go_frame
          refine y_yield 31 (some 64) (.int .i64 (xy : Nat)) rfl (by kernel_rfl) (by kernel_rfl) (by kernel_rfl) (fun _ _ _ h => h) rfl rfl ⟨hB, h0, h1⟩ (fun w' h' => exec_mul _ _ _ _ rfl (x : Nat) (y : Nat) (xy : Nat) rfl rfl Hxy.out) ?_
          go_frame
          refine y_yield 32 (some 65) (.int .i64 (p : Nat)) rfl (by kernel_rfl) (by kernel_rfl) (by kernel_rfl) (fun _ _ _ h => h) rfl rfl ⟨hB, h0, h1⟩ (fun w' h' => exec_move _ rfl (.int .i64 (p : Nat)) rfl) ?_
          go_frame
          refine y_yield 33 (some 66) (.int .i64 (v : Nat)) rfl (by kernel_rfl) (by kernel_rfl) (by kernel_rfl) (fun _ _ _ h => h) rfl rfl ⟨hB, h0, h1⟩ (fun w' h' => exec_rem _ _ _ _ rfl (xy : Nat) (p : Nat) (v : Nat) rfl rfl neP Hv.out) ?_
          go_frame
          refine y_yield 34 (some 67) (.int .u8 (v : Nat)) rfl (by kernel_rfl) (by kernel_rfl) (by kernel_rfl) (fun _ _ _ h => h) rfl rfl ⟨hB, h0, h1⟩ (fun w' h' => exec_conv8l _ rfl (v : Nat) v rfl hv256 rfl) ?_
          go_frame
          refine y_yield 35 (some 68) (.pointer (some ⟨Wz15.heap.size, 0 + u * 1, none⟩)) rfl (by kernel_rfl) (by kernel_rfl) (by kernel_rfl) (fun _ _ _ h => h) rfl rfl ⟨hB, h0, h1⟩ (fun w' h' => exec_index_arr 51 5 _ _ rfl Wz15.heap.size 0 9 u 1 rfl rfl Try.underlying51 (by kernel_rfl) lu) ?_
          go_frame
          refine y_oper 36 (by kernel_rfl) rfl rfl (fun K' hK' => ?_)
          refine wp_store_b1l 5 _ _ rfl rfl Wz15.heap.size (0 + u * 1) rfl v rfl _ _ h5 (by kernel_rfl) (by rw [lfP_len]; omega) (fun Wz30 pz31 => ?_)
          replace hB := pz31.below hB (by omega)
          replace h0 := pz31.other h0 (by omega)
          replace h1 := pz31.other h1 (by omega)
          replace h4 := pz31.other h4 (by omega)
          replace h5 : At Wz30 Wz15.heap.size (.cells (u8s (lfP p C1 C2 R2 f g (i * NC + (j + 1)))) 51 (0, 0)) := by have h9 := pz31.at_; rwa [HST.out] at h9
          refine hK' _ _ ⟨hB, h0, h1⟩ (fun h => absurd (by decide) h) ?_
          clear hK' K' pz31
          refine y_done (by kernel_rfl) ?_ _
          go_upto_region 7 with (fail)
          refine wp_region_lit ?_
          refine ls_ex (some 31) (.int .i64 (j : Nat)) rfl rfl (exec_move _ rfl (.int .i64 (j : Nat)) rfl) ?_
          go_frame
          refine ls_ex (some 32) (.int .i64 ((j + 1) : Nat)) rfl rfl (exec_add _ _ _ _ rfl (j : Nat) 1 ((j + 1 : Nat) : Int) rfl rfl (by rw [IntWalk.i64_in _ (by omega)]; omega)) ?_
          go_frame
          refine ls_ex (some 17) (.int .i64 ((j + 1) : Nat)) rfl rfl (exec_assign _ rfl (.int .i64 ((j + 1) : Nat)) rfl) ?_
          go_frame
          refine wpList_nil ?_
          go_wp2_with fail
          go_roundw
          case rel => exact ⟨j + 1, by omega, rfl, hB, h0, h1, h4, h5⟩
          case measure => simp [intOf]; omega
        · obtain rfl : j = NC := by omega
          go_upto_region 6 with (fail)
          refine wp_region_lit ?_
          refine ls_ex (some 26) (.int .i64 (j : Nat)) rfl rfl (exec_move _ rfl (.int .i64 (j : Nat)) rfl) ?_
          go_frame
          refine ls_ex (some 27) (.int .i64 (C1 : Nat)) rfl rfl (exec_move _ rfl (.int .i64 (C1 : Nat)) rfl) ?_
          go_frame
          refine ls_ex (some 28) (.int .i64 (C2 : Nat)) rfl rfl (exec_move _ rfl (.int .i64 (C2 : Nat)) rfl) ?_
          go_frame
          refine ls_ex (some 29) (.int .i64 (j : Nat)) rfl rfl (exec_mul _ _ _ _ rfl (C1 : Nat) (C2 : Nat) (j : Nat) rfl rfl HWC.out) ?_
          go_frame
          refine ls_ex (some 30) (.bool false) rfl rfl (exec_lss _ _ _ _ rfl ((j : Nat)) ((j : Nat)) rfl rfl false (decide_eq_false (by omega))) ?_
          go_frame
          refine wpList_nil ?_
          go_upto_region 4 with (fail)
          refine wp_region_lit ?_
          refine ls_ex (some 24) (.int .i64 (i : Nat)) rfl rfl (exec_move _ rfl (.int .i64 (i : Nat)) rfl) ?_
          go_frame
          refine ls_ex (some 25) (.int .i64 ((i + 1) : Nat)) rfl rfl (exec_add _ _ _ _ rfl (i : Nat) 1 ((i + 1 : Nat) : Int) rfl rfl (by rw [IntWalk.i64_in _ (by omega)]; omega)) ?_
          go_frame
          refine ls_ex (some 16) (.int .i64 ((i + 1) : Nat)) rfl rfl (exec_assign _ rfl (.int .i64 ((i + 1) : Nat)) rfl) ?_
          go_frame
          refine wpList_nil ?_
          go_wp2_with fail
          go_roundw
          case rel => exact ⟨i + 1, by omega, rfl, hB, h0, h1, h4, by rw [Nat.succ_mul]; exact h5⟩
          case measure => simp [intOf]; omega
    · have hiR : i = NR := by omega
      rw [show i * NC = NR * NC by rw [hiR], HL.out] at h5
      go_upto_region 3 with (fail)
      refine wp_region_lit ?_
      refine ls_ex (some 19) (.int .i64 (i : Nat)) rfl rfl (exec_move _ rfl (.int .i64 (i : Nat)) rfl) ?_
      go_frame
      refine ls_ex (some 20) (.int .i64 (R1 : Nat)) rfl rfl (exec_move _ rfl (.int .i64 (R1 : Nat)) rfl) ?_
      go_frame
      refine ls_ex (some 21) (.int .i64 (R2 : Nat)) rfl rfl (exec_move _ rfl (.int .i64 (R2 : Nat)) rfl) ?_
      go_frame
      refine ls_ex (some 22) (.int .i64 (NR : Nat)) rfl rfl (exec_mul _ _ _ _ rfl (R1 : Nat) (R2 : Nat) (NR : Nat) rfl rfl HWR.out) ?_
      go_frame
      refine ls_ex (some 23) (.bool false) rfl rfl (exec_lss _ _ _ _ rfl ((i : Nat)) ((NR : Nat)) rfl rfl false (decide_eq_false (by omega))) ?_
      go_frame
      refine wpList_nil ?_
      go_upto_region 9 with (fail)
      refine wp_region_lit ?_
      refine ls_ex (some 69) (.agg (u8s (mulF p R1 C1 R2 C2 f g))) rfl rfl (exec_load_all 51 _ rfl Wz15.heap.size rfl _ _ _ h5 Try.underlying51 rfl 9 (by kernel_rfl) ((u8s_size _).trans (mulF_len _ _ _ _ _ _ _))) ?_
      go_frame
      refine ls_op rfl (fun K' hK' => ?_)
      refine wp_store_bytes 51 _ _ rfl rfl Wz8.heap.size rfl (mulF p R1 C1 R2 C2 f g) rfl _ _ h4 9 (by kernel_rfl) (mulF_len _ _ _ _ _ _ _) (by simp) (fun Wz32 pz33 => ?_)
      replace hB := pz33.below hB (by omega)
      replace h0 := pz33.other h0 (by omega)
      replace h1 := pz33.other h1 (by omega)
      replace h5 := pz33.other h5 (by omega)
      replace h4 : At Wz32 Wz8.heap.size (.cells (u8s (mulF p R1 C1 R2 C2 f g)) 51 (0, 0)) := pz33.at_
      refine hK' _ _ ?_
      clear hK' K' pz33
      refine wpList_nil ?_
      go_wp2_with fail
      refine bodyPost_ret (results_at rfl _ _ Wz8.heap.size _ _ _ rfl h4 Try.underlying51 rfl 9 (by kernel_rfl) ((u8s_size _).trans (mulF_len _ _ _ _ _ _ _))) rfl ?_
      exact ⟨rfl, hB⟩
end Go.Proofs.Ytopdfblfhdooaaa
