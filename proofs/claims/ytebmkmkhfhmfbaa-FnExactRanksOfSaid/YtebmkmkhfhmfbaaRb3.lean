/-
  spec.l01Rank. (Made by mkrb3.py.)
-/
import Derived.Test.YtebmkmkhfhmfbaaRk3
import Derived.Test.YtebmkmkhfhmfbaaRbF
namespace Go.Proofs.Ytebmkmkhfhmfbaa
open Go.RowKit
set_option maxRecDepth 100000
set_option maxRecDepth 100000
theorem exec_convR {o : Oper} {a : Act} {w : World} (x : Operand) (ho : o.op = .convert 5 2 x) (y : Nat) (hx : a.eval x = .int .u8 (y : Int)) (hy : y < 256) : (execOp a.eval o).run Try.prog w = .ok (.value (.int .i64 (y : Int))) w := by
  have hw : IntKind.i64.wrap (y : Int) = (y : Int) := IntWalk.i64_in _ (by omega)
  unfold execOp
  simp only [ho, hx]
  simp [go_sem, hw]
attribute [local irreducible] wpList
theorem combS_stepA {p : Int} {C : Nat} {x y : List Int} {c k : Nat} {X : Int} (hk : k < C) (hl : x.length = C) (hx : ∃ z, x[k]? = some z ∧ 0 ≤ z ∧ z < p) (hX : (x[k]?.getD 0 - facS p x y c * y[k]?.getD 0) % p = X) : (combS p C x y c).take k ++ [X] = (combS p C x y c).take (k + 1) := by
  by_cases hf : facS p x y c = 0
  · obtain ⟨z, hz, hb⟩ := hx
    rw [hf, hz, Int.zero_mul, Int.sub_zero, Option.getD_some, Int.emod_eq_of_lt hb.1 hb.2] at hX
    unfold combS
    rw [if_pos hf, List.take_add_one, hz, hX]
    rfl
  · exact combS_step hk hf hX
theorem OutV.tab {w : World} {lo hi n C : Nat} {v : Value} {row : Nat → List Int} (h : OutV w lo hi v n row) (hl : ∀ i, i < n → (row i).length = C) (hn : 0 < n) :
    ∃ g cap cs, v = .slice (some ⟨g, 0, none⟩) n cap ∧ lo ≤ g ∧ At w g (.cells cs 49 (0, 0)) ∧ n ≤ cap ∧ TabS w hi g cs n C row := by
  obtain ⟨gs, caps, os, h⟩ := h
  obtain ⟨g, cap, cs, rfl, hg, hA, hc, hcs⟩ := ownS_open h.own (show (rowV gs caps row n).length = n by simp [rowV]) hn
  refine ⟨g, cap, cs, rfl, hg, hA, hc, fun i hi' => ⟨gs i, 0, caps i, ?_, h.hi9, h.top g rfl, (h.rowA i hi').2.2, fun e => ?_, .inr ⟨gs i, 0, rfl, fun t X hX => ?_⟩⟩⟩
  · have h1 := hcs i (.slice (some ⟨gs i, 0, none⟩) (row i).length (caps i)) (by simp [rowV, hi'])
    rw [hl i hi'] at h1
    exact h1
  · have h1 := (h.rowA i hi').1
    rw [e] at h1
    have h2 := hA.symm.trans h1
    simp only [Option.some.injEq, Obj.cells.injEq] at h2
    exact absurd h2.2.1 (by decide)
  · rw [Nat.zero_add]
    exact cellA (h.rowA i hi').1 (h.nums i hi' t X hX)
set_option maxHeartbeats 16000000 in
theorem rankF_c (p : Int) (n C : Nat) (f : List Nat) (w : World) (hp : primeB p = true) (hn : 1 ≤ n ∧ n ≤ 3) (hC : 1 ≤ C ∧ C ≤ 3) (hf : f.length = 9) (hfp : ∀ x ∈ f, (x : Int) < p) :
    Calls Try.prog 20 #[.int .i64 p, .agg (u8s f), .int .i64 n, .int .i64 C] w (fun e w' => e = .returned (.int .i64 ((frank p n C f : Nat) : Int)) ∧ Below w.heap.size w w') := by
  have hB := Below.refl w.heap.size w
  have hp5 := primeB_5 hp
  have HFl := Lib.hid hf
  have HN9 : Hid (n * C ≤ 9) := Lib.hid (Nat.mul_le_mul hn.2 hC.2)
  have HFp : Hid (∀ i : Nat, ((f[i]?.getD 0 : Nat) : Int) ≤ p) := Lib.hid (fun i => by
    rcases h9 : f[i]? with _ | x
    · simp; omega
    · have := hfp x (List.mem_of_getElem? h9)
      simp; omega)
  have HR00 : Rg p n C (fmR C f) := fmR_rg (by omega) hfp
  obtain ⟨R0, hR⟩ : ∃ z9, fmR C f = z9 := ⟨_, rfl⟩
  have HFr : Hid (frank p n C f = (rkS p n C R0 C).2) := Lib.hid (by unfold frank; rw [hR])
  have HRl : Hid (∀ i, (R0 i).length = C) := Lib.hid (fun i => by rw [← hR]; simp [fmR])
  have HFR := Lib.hid hR
  rw [hR] at HR00
  have HR0 := Lib.hid HR00
  clear hR hfp hf HR00
  go_enter Try.func20, Try.ntmps20
  go_upto_region 0 with (fail)
  refine wp_region_lit ?_
  refine ls_op rfl (fun K' hK' => ?_)
  have lz1 := hB.size
  refine wp_new (some 5) rfl (exec_box 45 _ rfl (u8s (f)) rfl) (fun Wz2 nnz3 => ?_)
  have bz4 := nnz3.below (Below.refl _ _) (Nat.le_refl _)
  replace hB := below_after hB bz4
  have hz5 : At Wz2 w.heap.size (.cells (u8s (f)) 45 (0, 0)) := nnz3.at_
  refine hK' _ _ ?_
  clear hK' K' nnz3 bz4
  go_frame
  refine ls_ex (some 8) (.int .i64 0) rfl rfl (exec_assign _ rfl (.int .i64 0) rfl) ?_
  go_frame
  refine wpList_nil ?_
  go_upto_region 1 with (fail)
  refine wp_region_lit ?_
  refine ls_op rfl (fun K' hK' => ?_)
  have lz6 := hB.size
  have lz7 := hz5.lt
  refine wp_new (some 22) rfl (exec_bs0M rfl) (fun Wz8 nnz9 => ?_)
  have bz10 := nnz9.below (Below.refl _ _) (Nat.le_refl _)
  replace hB := below_after hB bz10
  replace hz5 := hz5.after bz10
  have hk0 : At Wz8 Wz2.heap.size (.cells #[] 49 (0, 0)) := nnz9.at_
  refine hK' _ _ ?_
  clear hK' K' nnz9 bz10
  go_frame
  refine ls_ex (some 9) (.slice (some ⟨Wz2.heap.size, 0, none⟩) 0 0) rfl rfl (exec_assign _ rfl (.slice (some ⟨Wz2.heap.size, 0, none⟩) 0 0) rfl) ?_
  go_frame
  refine ls_ex (some 10) (.int .i64 0) rfl rfl (exec_assign _ rfl (.int .i64 0) rfl) ?_
  go_frame
  refine wpList_nil ?_
  go_upto_region 2 with (fail)
  refine wp_region_lit ?_
  refine ls_ex (some 11) (.int .i64 0) rfl rfl (exec_assign _ rfl (.int .i64 0) rfl) ?_
  go_frame
  refine wpList_nil ?_
  go_wp2_with fail
  go_loopw [9, 11, 12, 13] (fun s9 s11 s12 s13 wr => ∃ (i : Nat) (v : Value) (z8 : Nat), i ≤ n ∧ v = s9 ∧ s11 = .int .i64 i ∧ Below w.heap.size w wr ∧ At wr w.heap.size (.cells (u8s (f)) 45 (0, 0)) ∧ OutV wr w.heap.size (z8) v i R0) (fun _ s11 _ _ _ => n - (intOf s11).toNat)
  case atStart => exact ⟨0, _, _, by omega, rfl, rfl, hB, hz5, OutV.nil hk0 (by omega) _⟩
  case round =>
    clear hB hz5 hk0
    obtain ⟨i, v, z8, hle, rfl, rfl, hB, hF, hu⟩ := hrel
    by_cases hlt : i < n
    · have hin : i < n := hlt
      obtain ⟨IR, hIR⟩ : ∃ z9, i * C = z9 := ⟨_, rfl⟩
      have HIR := Lib.hid hIR
      have hIRb : IR ≤ 9 := by rw [← hIR]; exact Nat.le_trans (Nat.mul_le_mul_right C (show i ≤ n by omega)) HN9.out
      have HIRw : Hid (IntKind.i64.wrap ((i : Int) * (C : Int)) = ((IR : Nat) : Int)) := Lib.hid (by rw [← hIR, Int.natCast_mul]; exact IntWalk.i64_in _ (by rw [← Int.natCast_mul, hIR]; omega))
      clear hIR
      go_upto_region 3 with (fail)
      refine wp_region_lit ?_
      refine ls_ex (some 23) (.int .i64 i) rfl rfl (exec_move _ rfl (.int .i64 i) rfl) ?_
      go_frame
      refine ls_ex (some 24) (.int .i64 n) rfl rfl (exec_move _ rfl (.int .i64 n) rfl) ?_
      go_frame
      refine ls_ex (some 25) (.bool true) rfl rfl (exec_lss _ _ _ _ rfl i n rfl rfl true (decide_eq_true (by omega))) ?_
      go_frame
      refine wpList_nil ?_
      go_upto_region 5 with (fail)
      refine wp_region_lit ?_
      refine ls_op rfl (fun K' hK' => ?_)
      obtain ⟨zR, hzR⟩ : ∃ z9 : Nat, wr.heap.size = z9 := ⟨_, rfl⟩
      replace hu := hu.raise
      rw [hzR] at hu
      have lz11 := hB.size
      have lz12 := hF.lt
      have naz16 := hu.away_new
      refine wp_new (some 28) rfl (exec_bs0S rfl) (fun Wz13 nnz14 => ?_)
      have bz15 := nnz14.below (Below.refl _ _) (Nat.le_refl _)
      replace hB := below_after hB bz15
      replace hF := hF.after bz15
      replace hu := hu.below bz15
      have hk : At Wz13 wr.heap.size (.cells #[] 2 (0, 0)) := nnz14.at_
      refine hK' _ _ ?_
      clear hK' K' nnz14 bz15
      go_frame
      refine ls_ex (some 12) (.slice (some ⟨wr.heap.size, 0, none⟩) 0 0) rfl rfl (exec_assign _ rfl (.slice (some ⟨wr.heap.size, 0, none⟩) 0 0) rfl) ?_
      go_frame
      refine wpList_nil ?_
      go_upto_region 6 with (fail)
      refine wp_region_lit ?_
      refine ls_ex (some 13) (.int .i64 0) rfl rfl (exec_assign _ rfl (.int .i64 0) rfl) ?_
      go_frame
      refine wpList_nil ?_
      go_wp2_with fail
      go_loopw [12, 13] (fun s12 s13 wr => ∃ (k : Nat) (x9 : Value), k ≤ C ∧ x9 = s12 ∧ s13 = .int .i64 k ∧ Below w.heap.size w wr ∧ At wr w.heap.size (.cells (u8s (f)) 45 (0, 0)) ∧ OutV wr w.heap.size zR v i R0 ∧ OwnI wr zR x9 ((R0 i).take k)) (fun _ s13 _ => C - (intOf s13).toNat)
      case atStart => exact ⟨0, _, by omega, rfl, rfl, hB, hF, hu, by rw [List.take_zero]; exact own_nilS hk (by omega)⟩
      case round =>
        clear hB hF hu hk
        obtain ⟨k, x9, hle2, rfl, rfl, hB, hF, hu, ho⟩ := hrel
        by_cases hlt : k < C
        · obtain ⟨IX, hIX⟩ : ∃ z9, IR + k = z9 := ⟨_, rfl⟩
          have hIX9 : IX < 9 := by have h9 := Nat.mul_le_mul_right C (show i + 1 ≤ n by omega); rw [Nat.succ_mul] at h9; have h8 := HN9.out; have h7 := HIR.out; omega
          have HIX : Hid (IntKind.i64.wrap ((IR : Int) + (k : Int)) = ((IX : Nat) : Int)) := Lib.hid (by rw [← hIX]; rw [Int.natCast_add]; exact IntWalk.i64_in _ (by omega))
          obtain ⟨X, hX⟩ : ∃ z9 : Nat, f[IX]?.getD 0 = z9 := ⟨_, rfl⟩
          have hXb : X < 256 := by have h9 := HFp.out IX; rw [hX] at h9; omega
          have HXc : Hid ((u8s (f))[0 + IX * 1]? = some (.int .u8 ((X : Nat) : Int))) := Lib.hid (by rw [Nat.zero_add, Nat.mul_one, u8s_get (by rw [HFl.out]; exact hIX9), hX])
          have HT : Hid ((R0 i).take k ++ [((X : Nat) : Int)] = (R0 i).take (k + 1)) := Lib.hid (by rw [← HFR.out]; unfold fmR; rw [List.take_add_one]; simp only [List.getElem?_map, List.getElem?_range hlt, Option.map_some, Option.toList_some, List.append_cancel_left_eq, List.cons.injEq, and_true]; rw [HIR.out, hIX, hX])
          have HLen : Hid (((R0 i).take k).length ≤ 1000000) := Lib.hid (by simp; omega)
          clear hIX hX
          go_upto_region 7 with (fail)
          refine wp_region_lit ?_
          refine ls_ex (some 29) (.int .i64 k) rfl rfl (exec_move _ rfl (.int .i64 k) rfl) ?_
          go_frame
          refine ls_ex (some 30) (.int .i64 C) rfl rfl (exec_move _ rfl (.int .i64 C) rfl) ?_
          go_frame
          refine ls_ex (some 31) (.bool true) rfl rfl (exec_lss _ _ _ _ rfl k C rfl rfl true (decide_eq_true (by omega))) ?_
          go_frame
          refine wpList_nil ?_
          go_upto_region 9 with (fail)
          refine wp_region_lit ?_
          refine ls_ex (some 34) (x9) rfl rfl (exec_move _ rfl (x9) rfl) ?_
          go_frame
          refine ls_ex (some 35) (.int .i64 i) rfl rfl (exec_move _ rfl (.int .i64 i) rfl) ?_
          go_frame
          refine ls_ex (some 36) (.int .i64 C) rfl rfl (exec_move _ rfl (.int .i64 C) rfl) ?_
          go_frame
          refine ls_ex (some 37) (.int .i64 (IR : Nat)) rfl rfl (exec_mul _ _ _ _ rfl (i : Int) (C : Int) (IR : Int) rfl rfl HIRw.out) ?_
          go_frame
          refine ls_ex (some 38) (.int .i64 k) rfl rfl (exec_move _ rfl (.int .i64 k) rfl) ?_
          go_frame
          refine ls_ex (some 39) (.int .i64 (IX : Nat)) rfl rfl (exec_add _ _ _ _ rfl (IR : Int) (k : Int) (IX : Int) rfl rfl HIX.out) ?_
          go_frame
          refine ls_ex (some 40) (.pointer (some ⟨w.heap.size, 0 + IX * 1, none⟩)) rfl rfl (exec_index_arr _ 5 _ _ rfl w.heap.size 0 9 IX 1 rfl rfl Try.underlying45 (by kernel_rfl) hIX9) ?_
          go_frame
          refine ls_ex (some 41) (.int .u8 (X : Nat)) rfl rfl (exec_load_one 5 _ rfl w.heap.size (0 + IX * 1) rfl (.int .u8 ((X : Nat) : Int)) _ Try.underlying5 rfl (cellA hF HXc.out)) ?_
          go_frame
          refine ls_ex (some 42) (.int .i64 (X : Nat)) rfl rfl (exec_convR _ rfl X rfl hXb) ?_
          go_frame
          refine ls_op rfl (fun K' hK' => ?_)
          have lz17 := hB.size
          have lz18 := hF.lt
          have naz23 := hu.away_new
          have naz24 := ho.away_new
          refine wp_new (some 43) rfl (exec_bsi1 _ rfl ((X : Nat)) rfl) (fun Wz19 nnz20 => ?_)
          have bz21 := nnz20.below (Below.refl _ _) (Nat.le_refl _)
          replace hB := below_after hB bz21
          replace hF := hF.after bz21
          replace hu := hu.below bz21
          replace ho := ho.below bz21
          have hz22 : At Wz19 wr.heap.size (.cells #[.int .i64 (X : Nat)] 2 (0, 0)) := nnz20.at_
          refine hK' _ _ ?_
          clear hK' K' nnz20 bz21
          go_frame
          refine ls_op rfl (fun K' hK' => ?_)
          have lz28 := hB.size
          have lz29 := hF.lt
          have lz30 := hz22.lt
          have hz9 := hu.hiLe
          refine wp_appI1 (some 44) rfl _ _ rfl x9 ((R0 i).take k) ((X : Nat) : Int) rfl ho wr.heap.size rfl hz22 HLen.out (by omega) (fun x8 Wz25 noz27 grz26 => ?_)
          rw [HT.out] at noz27
          replace hB := below_grownI hB grz26 ho (by omega)
          replace hu := hu.grown grz26 (fun k9 hk9 => (ho.lt hk9).1) grz26.size
          replace hF := hF.grown grz26 (ho.off hF (by decide))
          replace ho := noz27
          refine hK' _ _ ?_
          clear hK' K' grz26 hz22 hz9
          go_frame
          refine ls_ex (some 12) (x8) rfl rfl (exec_assign _ rfl (x8) rfl) ?_
          go_frame
          refine wpList_nil ?_
          go_upto_region 8 with (fail)
          refine wp_region_lit ?_
          refine ls_ex (some 32) (.int .i64 k) rfl rfl (exec_move _ rfl (.int .i64 k) rfl) ?_
          go_frame
          refine ls_ex (some 33) (.int .i64 (k + 1)) rfl rfl (exec_add _ _ _ _ rfl k 1 (k + 1) rfl rfl (IntWalk.i64_in _ (by omega))) ?_
          go_frame
          refine ls_ex (some 13) (.int .i64 (k + 1)) rfl rfl (exec_assign _ rfl (.int .i64 (k + 1)) rfl) ?_
          go_frame
          refine wpList_nil ?_
          go_wp2_with fail
          go_roundw
          case rel => exact ⟨k + 1, x8, by omega, rfl, by go_num, hB, hF, hu, ho⟩
          case measure => simp [intOf] <;> omega
        · rw [show (R0 i).take k = R0 i by rw [show k = C by omega]; exact List.take_of_length_le (by rw [HRl.out i]; exact Nat.le_refl _)] at ho
          obtain ⟨g9, c9, D9, rfl, hg9l, _, hG9, _, hD9⟩ := ownI_openC ho (HRl.out i) (by omega)
          have HD9 := Lib.hid hD9
          clear ho hD9
          obtain ⟨wk, rfl⟩ : ∃ z : World, z = wr := ⟨_, rfl⟩
          go_upto_region 7 with (fail)
          refine wp_region_lit ?_
          refine ls_ex (some 29) (.int .i64 k) rfl rfl (exec_move _ rfl (.int .i64 k) rfl) ?_
          go_frame
          refine ls_ex (some 30) (.int .i64 C) rfl rfl (exec_move _ rfl (.int .i64 C) rfl) ?_
          go_frame
          refine ls_ex (some 31) (.bool false) rfl rfl (exec_lss _ _ _ _ rfl k C rfl rfl false (decide_eq_false (by omega))) ?_
          go_frame
          refine wpList_nil ?_
          go_upto_region 10 with (fail)
          refine wp_region_lit ?_
          refine ls_ex (some 45) (v) rfl rfl (exec_move _ rfl (v) rfl) ?_
          go_frame
          refine ls_ex (some 46) (.slice (some ⟨g9, 0, none⟩) C c9) rfl rfl (exec_move _ rfl (.slice (some ⟨g9, 0, none⟩) C c9) rfl) ?_
          go_frame
          refine ls_op rfl (fun K' hK' => ?_)
          have lz31 := hB.size
          have lz32 := hF.lt
          have lz33 := hG9.lt
          have naz38 := hu.away_new
          refine wp_new (some 47) rfl (exec_bsM1 _ rfl ((some ⟨g9, 0, none⟩)) C c9 rfl) (fun Wz34 nnz35 => ?_)
          have bz36 := nnz35.below (Below.refl _ _) (Nat.le_refl _)
          replace hB := below_after hB bz36
          replace hF := hF.after bz36
          replace hu := hu.below bz36
          replace hG9 := hG9.after bz36
          have hz37 : At Wz34 wk.heap.size (.cells #[.slice (some ⟨g9, 0, none⟩) C c9] 49 (0, 0)) := nnz35.at_
          refine hK' _ _ ?_
          clear hK' K' nnz35 bz36
          go_frame
          refine ls_op rfl (fun K' hK' => ?_)
          have lz42 := hB.size
          have lz43 := hF.lt
          have lz44 := hG9.lt
          have lz45 := hz37.lt
          have hz9 := hu.hiLe
          refine wp_appV (some 48) rfl _ _ rfl v i R0 rfl hu g9 c9 C D9 hG9 (by omega) (HRl.out i) HD9.out wk.heap.size rfl hz37 (by omega) (by omega) (fun v8 Wz39 noz41 grz40 => ?_)
          replace hB := hu.belowG hB grz40 (by omega)
          replace hF := hF.grown grz40 (hu.off hF (by decide))
          replace hu := noz41
          refine hK' _ _ ?_
          clear hK' K' grz40 hz37 hG9 hz9
          go_frame
          refine ls_ex (some 9) (v8) rfl rfl (exec_assign _ rfl (v8) rfl) ?_
          go_frame
          refine wpList_nil ?_
          go_upto_region 4 with (fail)
          refine wp_region_lit ?_
          refine ls_ex (some 26) (.int .i64 i) rfl rfl (exec_move _ rfl (.int .i64 i) rfl) ?_
          go_frame
          refine ls_ex (some 27) (.int .i64 (i + 1)) rfl rfl (exec_add _ _ _ _ rfl i 1 (i + 1) rfl rfl (IntWalk.i64_in _ (by omega))) ?_
          go_frame
          refine ls_ex (some 11) (.int .i64 (i + 1)) rfl rfl (exec_assign _ rfl (.int .i64 (i + 1)) rfl) ?_
          go_frame
          refine wpList_nil ?_
          go_wp2_with fail
          go_roundw
          case rel => exact ⟨i + 1, v8, _, by omega, rfl, by go_num, hB, hF, hu⟩
          case measure => simp [intOf] <;> omega
    · obtain ⟨wt, rfl⟩ : ∃ z : World, z = wr := ⟨_, rfl⟩
      rw [show i = n by omega] at hu
      obtain ⟨g, cap, cs, rfl, hgl, h5, hcap, hS⟩ := hu.tab (fun i _ => HRl.out i) (by omega)
      clear hu hF
      go_upto_region 3 with (fail)
      refine wp_region_lit ?_
      refine ls_ex (some 23) (.int .i64 i) rfl rfl (exec_move _ rfl (.int .i64 i) rfl) ?_
      go_frame
      refine ls_ex (some 24) (.int .i64 n) rfl rfl (exec_move _ rfl (.int .i64 n) rfl) ?_
      go_frame
      refine ls_ex (some 25) (.bool false) rfl rfl (exec_lss _ _ _ _ rfl i n rfl rfl false (decide_eq_false (by omega))) ?_
      go_frame
      refine wpList_nil ?_
      go_upto_region 11 with (fail)
      refine wp_region_lit ?_
      refine ls_ex (some 14) (.int .i64 0) rfl rfl (exec_assign _ rfl (.int .i64 0) rfl) ?_
      go_frame
      refine wpList_nil ?_
      go_wp2_with fail
      go_loopw [10, 14] (fun s10 s14 wr => ∃ (c r : Nat) (cs : Array Value) (hi : Nat) (R : Nat → List Int), c ≤ C ∧ s14 = .int .i64 c ∧ s10 = .int .i64 r ∧ Hid (rkS p n C R0 c = (R, r)) ∧ Below w.heap.size w wr ∧ At wr g (.cells cs 49 (0, 0)) ∧ TabS wr hi g cs n C (R)) (fun _ s14 _ => C - (intOf s14).toNat)
      case atStart => exact ⟨0, 0, _, _, _, by omega, rfl, rfl, Lib.hid rfl, hB, h5, hS⟩
      case round =>
        clear hB h5 hS
        obtain ⟨c, r, cs, hi, R, hle, rfl, rfl, HRk, hB, h5, hS⟩ := hrel
        by_cases hc : c < C
        · by_cases hpz : pv R n r c = n
          · obtain ⟨wv, rfl⟩ : ∃ z : World, z = wr := ⟨_, rfl⟩
            have HRg0 := Lib.hid (rkS_rg (C := C) (show 0 < p by omega) HR0.out c)
            rw [HRk.out] at HRg0
            have HRg : Hid (Rg p n C R) := Lib.hid HRg0.out.1
            have hrn : r ≤ n := HRg0.out.2
            have hPb := pv_bd (R := R) (c := c) hrn
            obtain ⟨P, hP⟩ : ∃ z9, pv R n r c = z9 := ⟨_, rfl⟩
            rw [hP] at hPb hpz
            have HPv : Hid (pvF R c (n - r) r = P) := Lib.hid hP
            obtain ⟨bz, oz, cz, hz9⟩ := hS.get (show 0 < n by omega)
            have HCz : Hid (cs[0 + 0 * 1]? = some (.slice (some ⟨bz, oz, none⟩) C cz)) := Lib.hid (by rw [Nat.zero_add, Nat.mul_one]; exact hz9)
            clear hz9
            clear HRg0
            have hPn : P = n := by omega
            have HR2 : Hid (rkS p n C R0 (c + 1) = (R, r)) := Lib.hid (by rw [rkS, HRk.out]; unfold stS; rw [if_pos (by rw [hP]; exact hPn)])
            clear hP
            go_upto_region 12 with (fail)
            refine wp_region_lit ?_
            refine ls_ex (some 49) (.int .i64 c) rfl rfl (exec_move _ rfl (.int .i64 c) rfl) ?_
            go_frame
            refine ls_ex (some 50) (.int .i64 C) rfl rfl (exec_move _ rfl (.int .i64 C) rfl) ?_
            go_frame
            refine ls_ex (some 51) (.bool true) rfl rfl (exec_lss _ _ _ _ rfl c C rfl rfl true (decide_eq_true (by omega))) ?_
            go_frame
            refine wpList_nil ?_
            go_upto_region 14 with (fail)
            refine wp_region_lit ?_
            refine ls_ex (some 54) (.int .i64 r) rfl rfl (exec_move _ rfl (.int .i64 r) rfl) ?_
            go_frame
            refine ls_ex (some 15) (.int .i64 r) rfl rfl (exec_assign _ rfl (.int .i64 r) rfl) ?_
            go_frame
            refine wpList_nil ?_
            go_wp2_with fail
            go_loopw [15] (fun s15 wr => ∃ b : Nat, r ≤ b ∧ b ≤ n ∧ s15 = .int .i64 b ∧ Hid (pvF R c (n - b) b = P) ∧ Below w.heap.size w wr ∧ At wr g (.cells cs 49 (0, 0)) ∧ TabS wr hi g cs n C (R)) (fun s15 _ => n - (intOf s15).toNat)
            case atStart => exact ⟨r, by omega, hrn, rfl, HPv, hB, h5, hS⟩
            case round =>
              clear hB h5 hS
              obtain ⟨b, hle1, hle2, rfl, HPf, hB, h5, hS⟩ := hrel
              by_cases hbl : b < n
              · by_cases hz : ent R b c = 0
                · have hbn : b < n := by omega
                  obtain ⟨bb, ob, cb, hb9⟩ := hS.get hbn
                  have HCb : Hid (cs[0 + b * 1]? = some (.slice (some ⟨bb, ob, none⟩) C cb)) := Lib.hid (by rw [Nat.zero_add, Nat.mul_one]; exact hb9)
                  clear hb9
                  have HE0 := Lib.hid (HRg.out.at_ hbn hc)
                  obtain ⟨E, hE, hEb⟩ := HE0.out
                  have HE := Lib.hid hE
                  have hEn : ent R b c = E := by unfold ent; rw [hE]; rfl
                  have HP2 : Hid (pvF R c (n - (b + 1)) (b + 1) = P) := Lib.hid (by rw [← HPf.out, pvF_zero hbn hz])
                  have HZ : Hid ((E == 0) = true) := Lib.hid (by simp; rw [← hEn]; exact hz)
                  clear hE hEn hz HE0
                  go_upto_region 15 with (fail)
                  refine wp_region_lit ?_
                  refine ls_ex (some 55) (.int .i64 b) rfl rfl (exec_move _ rfl (.int .i64 b) rfl) ?_
                  go_frame
                  refine ls_ex (some 56) (.int .i64 n) rfl rfl (exec_move _ rfl (.int .i64 n) rfl) ?_
                  go_frame
                  refine ls_ex (some 57) (.bool true) rfl rfl (exec_lss _ _ _ _ rfl b n rfl rfl true (decide_eq_true (by omega))) ?_
                  go_frame
                  refine ls_ex (some 58) (.bool true) rfl rfl (exec_move _ rfl (.bool true) rfl) ?_
                  go_frame
                  refine ls_ex_g (some 59) (.slice (some ⟨g, 0, none⟩) n cap) rfl rfl (exec_move _ rfl (.slice (some ⟨g, 0, none⟩) n cap) rfl) ?_
                  go_frame
                  refine ls_ex_g (some 60) (.int .i64 b) rfl rfl (exec_move _ rfl (.int .i64 b) rfl) ?_
                  go_frame
                  refine ls_ex_g (some 61) (.pointer (some ⟨g, 0 + b * 1, none⟩)) rfl rfl (exec_index_slice _ 49 _ _ rfl g 0 n cap b 1 rfl rfl Try.underlying26 (by kernel_rfl) (by omega)) ?_
                  go_frame
                  refine ls_ex_g (some 62) (.slice (some ⟨bb, ob, none⟩) C cb) rfl rfl (exec_load_one 49 _ rfl g (0 + b * 1) rfl (.slice (some ⟨bb, ob, none⟩) C cb) _ Try.underlying49 rfl (cellA h5 HCb.out)) ?_
                  go_frame
                  refine ls_ex_g (some 63) (.int .i64 c) rfl rfl (exec_move _ rfl (.int .i64 c) rfl) ?_
                  go_frame
                  refine ls_ex_g (some 64) (.pointer (some ⟨bb, ob + c * 1, none⟩)) rfl rfl (exec_index_slice _ 2 _ _ rfl bb ob C cb c 1 rfl rfl Try.underlying49 (by kernel_rfl) hc) ?_
                  go_frame
                  refine ls_ex_g (some 65) (.int .i64 E) rfl rfl (exec_load_one 2 _ rfl bb (ob + c * 1) rfl (.int .i64 E) _ Try.underlying2 rfl (RdI.c1K (((hS).rowR hbn HCb.out).rdI) HE.out)) ?_
                  go_frame
                  refine ls_ex_g (some 66) (.bool true) rfl rfl (exec_eql _ _ _ _ rfl E 0 rfl rfl true HZ.out) ?_
                  go_frame
                  refine ls_ex (some 67) (.bool true) rfl rfl (exec_pick _ _ _ rfl true rfl (.bool true) rfl) ?_
                  go_frame
                  refine wpList_nil ?_
                  go_upto_region 16 with (fail)
                  refine wp_region_lit ?_
                  refine ls_ex (some 68) (.int .i64 b) rfl rfl (exec_move _ rfl (.int .i64 b) rfl) ?_
                  go_frame
                  refine ls_ex (some 69) (.int .i64 (b + 1)) rfl rfl (exec_add _ _ _ _ rfl b 1 (b + 1) rfl rfl (IntWalk.i64_in _ (by omega))) ?_
                  go_frame
                  refine ls_ex (some 15) (.int .i64 (b + 1)) rfl rfl (exec_assign _ rfl (.int .i64 (b + 1)) rfl) ?_
                  go_frame
                  refine wpList_nil ?_
                  go_wp2_with fail
                  go_roundw
                  case rel => exact ⟨b + 1, by omega, by omega, by go_num, HP2, hB, h5, hS⟩
                  case measure => simp [intOf] <;> omega
                · exact absurd (show b = P by have h9 := HPf.out; rw [pvF_some hbl hz] at h9; exact h9) (by omega)
              · have hPb9 : b = P := by have h9 := HPf.out; rw [show b = n by omega, pvF_end] at h9; omega
                obtain ⟨wk, rfl⟩ : ∃ z : World, z = wr := ⟨_, rfl⟩
                go_upto_region 15 with (fail)
                refine wp_region_lit ?_
                refine ls_ex (some 55) (.int .i64 b) rfl rfl (exec_move _ rfl (.int .i64 b) rfl) ?_
                go_frame
                refine ls_ex (some 56) (.int .i64 n) rfl rfl (exec_move _ rfl (.int .i64 n) rfl) ?_
                go_frame
                refine ls_ex (some 57) (.bool false) rfl rfl (exec_lss _ _ _ _ rfl b n rfl rfl false (decide_eq_false (by omega))) ?_
                go_frame
                refine ls_ex (some 58) (.bool false) rfl rfl (exec_move _ rfl (.bool false) rfl) ?_
                go_frame
                refine ls_skip_g (some 59) rfl rfl ?_
                go_frame
                refine ls_skip_g (some 60) rfl rfl ?_
                go_frame
                refine ls_skip_g (some 61) rfl rfl ?_
                go_frame
                refine ls_skip_g (some 62) rfl rfl ?_
                go_frame
                refine ls_skip_g (some 63) rfl rfl ?_
                go_frame
                refine ls_skip_g (some 64) rfl rfl ?_
                go_frame
                refine ls_skip_g (some 65) rfl rfl ?_
                go_frame
                refine ls_skip_g (some 66) rfl rfl ?_
                go_frame
                refine ls_ex (some 67) (.bool false) rfl rfl (exec_pick _ _ _ rfl false rfl (.bool false) rfl) ?_
                go_frame
                refine wpList_nil ?_
                go_upto_region 17 with (fail)
                refine wp_region_lit ?_
                refine ls_ex (some 70) (.int .i64 b) rfl rfl (exec_move _ rfl (.int .i64 b) rfl) ?_
                go_frame
                refine ls_ex (some 71) (.int .i64 n) rfl rfl (exec_move _ rfl (.int .i64 n) rfl) ?_
                go_frame
                refine ls_ex (some 72) (.bool true) rfl rfl (exec_eql _ _ _ _ rfl b n rfl rfl true (decide_eq_true (by omega))) ?_
                go_frame
                refine wpList_nil ?_
                go_upto_region 13 with (fail)
                refine wp_region_lit ?_
                refine ls_ex (some 52) (.int .i64 c) rfl rfl (exec_move _ rfl (.int .i64 c) rfl) ?_
                go_frame
                refine ls_ex (some 53) (.int .i64 (c + 1)) rfl rfl (exec_add _ _ _ _ rfl c 1 (c + 1) rfl rfl (IntWalk.i64_in _ (by omega))) ?_
                go_frame
                refine ls_ex (some 14) (.int .i64 (c + 1)) rfl rfl (exec_assign _ rfl (.int .i64 (c + 1)) rfl) ?_
                go_frame
                refine wpList_nil ?_
                go_wp2_with fail
                go_roundw
                case rel => exact ⟨c + 1, r, cs, hi, R, by omega, by go_num, rfl, HR2, hB, h5, hS⟩
                case measure => simp [intOf] <;> omega
          · obtain ⟨wv, rfl⟩ : ∃ z : World, z = wr := ⟨_, rfl⟩
            have HRg0 := Lib.hid (rkS_rg (C := C) (show 0 < p by omega) HR0.out c)
            rw [HRk.out] at HRg0
            have HRg : Hid (Rg p n C R) := Lib.hid HRg0.out.1
            have hrn : r ≤ n := HRg0.out.2
            have hPb := pv_bd (R := R) (c := c) hrn
            obtain ⟨P, hP⟩ : ∃ z9, pv R n r c = z9 := ⟨_, rfl⟩
            rw [hP] at hPb hpz
            have HPv : Hid (pvF R c (n - r) r = P) := Lib.hid hP
            obtain ⟨bz, oz, cz, hz9⟩ := hS.get (show 0 < n by omega)
            have HCz : Hid (cs[0 + 0 * 1]? = some (.slice (some ⟨bz, oz, none⟩) C cz)) := Lib.hid (by rw [Nat.zero_add, Nat.mul_one]; exact hz9)
            clear hz9
            clear HRg0
            have hPn : P < n := by omega
            have hr : r < n := by omega
            have HR2 : Hid (rkS p n C R0 (c + 1) = (clS p C (swp R r P) r c n, r + 1)) := Lib.hid (by rw [rkS, HRk.out]; unfold stS; simp only [hP]; rw [if_neg (by omega)])
            obtain ⟨bo, oo, co, ho9⟩ := hS.get hPn
            have HCo : Hid (cs[0 + P * 1]? = some (.slice (some ⟨bo, oo, none⟩) C co)) := Lib.hid (by rw [Nat.zero_add, Nat.mul_one]; exact ho9)
            clear ho9
            obtain ⟨ba, oa, ca, ha9⟩ := hS.get hr
            have HCa : Hid (cs[0 + r * 1]? = some (.slice (some ⟨ba, oa, none⟩) C ca)) := Lib.hid (by rw [Nat.zero_add, Nat.mul_one]; exact ha9)
            clear ha9
            obtain ⟨R1, hR1⟩ : ∃ z9, swp R r P = z9 := ⟨_, rfl⟩
            rw [hR1] at HR2
            have HRg1 : Hid (Rg p n C R1) := Lib.hid (by rw [← hR1]; exact HRg.out.swp hr hPn)
            have hRr : R1 r = R P := by rw [← hR1]; exact swp_at
            obtain ⟨Y, hY, hYb⟩ := HRg1.out.at_ hr hc
            have hYn : Y ≠ 0 := by have h9 := hPb.2.2 hPn; unfold ent at h9; rw [← hRr, hY] at h9; exact h9
            have HY := Lib.hid hY
            obtain ⟨IV, hIV⟩ : ∃ z9, inv p Y = z9 := ⟨_, rfl⟩
            have hIVb := inv_range hp (a := Y) (by omega) hYb.2
            rw [hIV] at hIVb
            have HRr := Lib.hid hRr
            have HR1 := Lib.hid hR1
            have HIV := Lib.hid hIV
            have HSz1 : Hid (0 + P * 1 < cs.size) := Lib.hid (Array.getElem?_eq_some_iff.1 HCo.out).1
            clear hP hY hRr hR1
            go_upto_region 12 with (fail)
            refine wp_region_lit ?_
            refine ls_ex (some 49) (.int .i64 c) rfl rfl (exec_move _ rfl (.int .i64 c) rfl) ?_
            go_frame
            refine ls_ex (some 50) (.int .i64 C) rfl rfl (exec_move _ rfl (.int .i64 C) rfl) ?_
            go_frame
            refine ls_ex (some 51) (.bool true) rfl rfl (exec_lss _ _ _ _ rfl c C rfl rfl true (decide_eq_true (by omega))) ?_
            go_frame
            refine wpList_nil ?_
            go_upto_region 14 with (fail)
            refine wp_region_lit ?_
            refine ls_ex (some 54) (.int .i64 r) rfl rfl (exec_move _ rfl (.int .i64 r) rfl) ?_
            go_frame
            refine ls_ex (some 15) (.int .i64 r) rfl rfl (exec_assign _ rfl (.int .i64 r) rfl) ?_
            go_frame
            refine wpList_nil ?_
            go_wp2_with fail
            go_loopw [15] (fun s15 wr => ∃ b : Nat, r ≤ b ∧ b ≤ n ∧ s15 = .int .i64 b ∧ Hid (pvF R c (n - b) b = P) ∧ Below w.heap.size w wr ∧ At wr g (.cells cs 49 (0, 0)) ∧ TabS wr hi g cs n C (R)) (fun s15 _ => n - (intOf s15).toNat)
            case atStart => exact ⟨r, by omega, hrn, rfl, HPv, hB, h5, hS⟩
            case round =>
              clear hB h5 hS
              obtain ⟨b, hle1, hle2, rfl, HPf, hB, h5, hS⟩ := hrel
              by_cases hbl : b < n
              · by_cases hz : ent R b c = 0
                · have hbn : b < n := by omega
                  obtain ⟨bb, ob, cb, hb9⟩ := hS.get hbn
                  have HCb : Hid (cs[0 + b * 1]? = some (.slice (some ⟨bb, ob, none⟩) C cb)) := Lib.hid (by rw [Nat.zero_add, Nat.mul_one]; exact hb9)
                  clear hb9
                  have HE0 := Lib.hid (HRg.out.at_ hbn hc)
                  obtain ⟨E, hE, hEb⟩ := HE0.out
                  have HE := Lib.hid hE
                  have hEn : ent R b c = E := by unfold ent; rw [hE]; rfl
                  have HP2 : Hid (pvF R c (n - (b + 1)) (b + 1) = P) := Lib.hid (by rw [← HPf.out, pvF_zero hbn hz])
                  have HZ : Hid ((E == 0) = true) := Lib.hid (by simp; rw [← hEn]; exact hz)
                  clear hE hEn hz HE0
                  go_upto_region 15 with (fail)
                  refine wp_region_lit ?_
                  refine ls_ex (some 55) (.int .i64 b) rfl rfl (exec_move _ rfl (.int .i64 b) rfl) ?_
                  go_frame
                  refine ls_ex (some 56) (.int .i64 n) rfl rfl (exec_move _ rfl (.int .i64 n) rfl) ?_
                  go_frame
                  refine ls_ex (some 57) (.bool true) rfl rfl (exec_lss _ _ _ _ rfl b n rfl rfl true (decide_eq_true (by omega))) ?_
                  go_frame
                  refine ls_ex (some 58) (.bool true) rfl rfl (exec_move _ rfl (.bool true) rfl) ?_
                  go_frame
                  refine ls_ex_g (some 59) (.slice (some ⟨g, 0, none⟩) n cap) rfl rfl (exec_move _ rfl (.slice (some ⟨g, 0, none⟩) n cap) rfl) ?_
                  go_frame
                  refine ls_ex_g (some 60) (.int .i64 b) rfl rfl (exec_move _ rfl (.int .i64 b) rfl) ?_
                  go_frame
                  refine ls_ex_g (some 61) (.pointer (some ⟨g, 0 + b * 1, none⟩)) rfl rfl (exec_index_slice _ 49 _ _ rfl g 0 n cap b 1 rfl rfl Try.underlying26 (by kernel_rfl) (by omega)) ?_
                  go_frame
                  refine ls_ex_g (some 62) (.slice (some ⟨bb, ob, none⟩) C cb) rfl rfl (exec_load_one 49 _ rfl g (0 + b * 1) rfl (.slice (some ⟨bb, ob, none⟩) C cb) _ Try.underlying49 rfl (cellA h5 HCb.out)) ?_
                  go_frame
                  refine ls_ex_g (some 63) (.int .i64 c) rfl rfl (exec_move _ rfl (.int .i64 c) rfl) ?_
                  go_frame
                  refine ls_ex_g (some 64) (.pointer (some ⟨bb, ob + c * 1, none⟩)) rfl rfl (exec_index_slice _ 2 _ _ rfl bb ob C cb c 1 rfl rfl Try.underlying49 (by kernel_rfl) hc) ?_
                  go_frame
                  refine ls_ex_g (some 65) (.int .i64 E) rfl rfl (exec_load_one 2 _ rfl bb (ob + c * 1) rfl (.int .i64 E) _ Try.underlying2 rfl (RdI.c1K (((hS).rowR hbn HCb.out).rdI) HE.out)) ?_
                  go_frame
                  refine ls_ex_g (some 66) (.bool true) rfl rfl (exec_eql _ _ _ _ rfl E 0 rfl rfl true HZ.out) ?_
                  go_frame
                  refine ls_ex (some 67) (.bool true) rfl rfl (exec_pick _ _ _ rfl true rfl (.bool true) rfl) ?_
                  go_frame
                  refine wpList_nil ?_
                  go_upto_region 16 with (fail)
                  refine wp_region_lit ?_
                  refine ls_ex (some 68) (.int .i64 b) rfl rfl (exec_move _ rfl (.int .i64 b) rfl) ?_
                  go_frame
                  refine ls_ex (some 69) (.int .i64 (b + 1)) rfl rfl (exec_add _ _ _ _ rfl b 1 (b + 1) rfl rfl (IntWalk.i64_in _ (by omega))) ?_
                  go_frame
                  refine ls_ex (some 15) (.int .i64 (b + 1)) rfl rfl (exec_assign _ rfl (.int .i64 (b + 1)) rfl) ?_
                  go_frame
                  refine wpList_nil ?_
                  go_wp2_with fail
                  go_roundw
                  case rel => exact ⟨b + 1, by omega, by omega, by go_num, HP2, hB, h5, hS⟩
                  case measure => simp [intOf] <;> omega
                · have hbn : b < n := by omega
                  obtain ⟨bb, ob, cb, hb9⟩ := hS.get hbn
                  have HCb : Hid (cs[0 + b * 1]? = some (.slice (some ⟨bb, ob, none⟩) C cb)) := Lib.hid (by rw [Nat.zero_add, Nat.mul_one]; exact hb9)
                  clear hb9
                  have HE0 := Lib.hid (HRg.out.at_ hbn hc)
                  obtain ⟨E, hE, hEb⟩ := HE0.out
                  have HE := Lib.hid hE
                  have hEn : ent R b c = E := by unfold ent; rw [hE]; rfl
                  have hPb9 : b = P := by have h9 := HPf.out; rw [pvF_some hbn hz] at h9; exact h9
                  have HZ : Hid ((E == 0) = false) := Lib.hid (by simp; rw [← hEn]; exact hz)
                  clear hE hEn hz HE0
                  obtain ⟨wk, rfl⟩ : ∃ z : World, z = wr := ⟨_, rfl⟩
                  have hPb8 : P = b := hPb9.symm
                  subst hPb8
                  have hSo := hS.rowR hPn HCo.out
                  have hO : RdG wk hi g bo oo (R1 r) := by rw [HRr.out]; exact hSo
                  have hA := hS.rowR hr HCa.out
                  clear hSo hPb9
                  go_upto_region 15 with (fail)
                  refine wp_region_lit ?_
                  refine ls_ex (some 55) (.int .i64 P) rfl rfl (exec_move _ rfl (.int .i64 P) rfl) ?_
                  go_frame
                  refine ls_ex (some 56) (.int .i64 n) rfl rfl (exec_move _ rfl (.int .i64 n) rfl) ?_
                  go_frame
                  refine ls_ex (some 57) (.bool true) rfl rfl (exec_lss _ _ _ _ rfl P n rfl rfl true (decide_eq_true (by omega))) ?_
                  go_frame
                  refine ls_ex (some 58) (.bool true) rfl rfl (exec_move _ rfl (.bool true) rfl) ?_
                  go_frame
                  refine ls_ex_g (some 59) (.slice (some ⟨g, 0, none⟩) n cap) rfl rfl (exec_move _ rfl (.slice (some ⟨g, 0, none⟩) n cap) rfl) ?_
                  go_frame
                  refine ls_ex_g (some 60) (.int .i64 P) rfl rfl (exec_move _ rfl (.int .i64 P) rfl) ?_
                  go_frame
                  refine ls_ex_g (some 61) (.pointer (some ⟨g, 0 + P * 1, none⟩)) rfl rfl (exec_index_slice _ 49 _ _ rfl g 0 n cap P 1 rfl rfl Try.underlying26 (by kernel_rfl) hPn) ?_
                  go_frame
                  refine ls_ex_g (some 62) (.slice (some ⟨bb, ob, none⟩) C cb) rfl rfl (exec_load_one 49 _ rfl g (0 + P * 1) rfl (.slice (some ⟨bb, ob, none⟩) C cb) _ Try.underlying49 rfl (cellA h5 HCb.out)) ?_
                  go_frame
                  refine ls_ex_g (some 63) (.int .i64 c) rfl rfl (exec_move _ rfl (.int .i64 c) rfl) ?_
                  go_frame
                  refine ls_ex_g (some 64) (.pointer (some ⟨bb, ob + c * 1, none⟩)) rfl rfl (exec_index_slice _ 2 _ _ rfl bb ob C cb c 1 rfl rfl Try.underlying49 (by kernel_rfl) hc) ?_
                  go_frame
                  refine ls_ex_g (some 65) (.int .i64 E) rfl rfl (exec_load_one 2 _ rfl bb (ob + c * 1) rfl (.int .i64 E) _ Try.underlying2 rfl (RdI.c1K (((hS).rowR hPn HCb.out).rdI) HE.out)) ?_
                  go_frame
                  refine ls_ex_g (some 66) (.bool false) rfl rfl (exec_eql _ _ _ _ rfl E 0 rfl rfl false HZ.out) ?_
                  go_frame
                  refine ls_ex (some 67) (.bool false) rfl rfl (exec_pick _ _ _ rfl true rfl (.bool false) rfl) ?_
                  go_frame
                  refine wpList_nil ?_
                  go_upto_region 17 with (fail)
                  refine wp_region_lit ?_
                  refine ls_ex (some 70) (.int .i64 P) rfl rfl (exec_move _ rfl (.int .i64 P) rfl) ?_
                  go_frame
                  refine ls_ex (some 71) (.int .i64 n) rfl rfl (exec_move _ rfl (.int .i64 n) rfl) ?_
                  go_frame
                  refine ls_ex (some 72) (.bool false) rfl rfl (exec_eql _ _ _ _ rfl P n rfl rfl false (decide_eq_false (by omega))) ?_
                  go_frame
                  refine wpList_nil ?_
                  go_upto_region 18 with (fail)
                  refine wp_region_lit ?_
                  refine ls_ex (some 73) (.slice (some ⟨g, 0, none⟩) n cap) rfl rfl (exec_move _ rfl (.slice (some ⟨g, 0, none⟩) n cap) rfl) ?_
                  go_frame
                  refine ls_ex (some 74) (.int .i64 P) rfl rfl (exec_move _ rfl (.int .i64 P) rfl) ?_
                  go_frame
                  refine ls_ex (some 75) (.pointer (some ⟨g, 0 + P * 1, none⟩)) rfl rfl (exec_index_slice _ 49 _ _ rfl g 0 n cap P 1 rfl rfl Try.underlying26 (by kernel_rfl) hPn) ?_
                  go_frame
                  refine ls_ex (some 76) (.slice (some ⟨bo, oo, none⟩) C co) rfl rfl (exec_load_one 49 _ rfl g (0 + P * 1) rfl (.slice (some ⟨bo, oo, none⟩) C co) _ Try.underlying49 rfl (cellA h5 HCo.out)) ?_
                  go_frame
                  refine ls_ex (some 16) (.slice (some ⟨bo, oo, none⟩) C co) rfl rfl (exec_assign _ rfl (.slice (some ⟨bo, oo, none⟩) C co) rfl) ?_
                  go_frame
                  refine wpList_nil ?_
                  go_upto_region 19 with (fail)
                  refine wp_region_lit ?_
                  refine ls_ex (some 77) (.slice (some ⟨g, 0, none⟩) n cap) rfl rfl (exec_move _ rfl (.slice (some ⟨g, 0, none⟩) n cap) rfl) ?_
                  go_frame
                  refine ls_ex (some 78) (.int .i64 P) rfl rfl (exec_move _ rfl (.int .i64 P) rfl) ?_
                  go_frame
                  refine ls_ex (some 79) (.slice (some ⟨g, 0, none⟩) n cap) rfl rfl (exec_move _ rfl (.slice (some ⟨g, 0, none⟩) n cap) rfl) ?_
                  go_frame
                  refine ls_ex (some 80) (.int .i64 r) rfl rfl (exec_move _ rfl (.int .i64 r) rfl) ?_
                  go_frame
                  refine ls_ex (some 81) (.pointer (some ⟨g, 0 + r * 1, none⟩)) rfl rfl (exec_index_slice _ 49 _ _ rfl g 0 n cap r 1 rfl rfl Try.underlying26 (by kernel_rfl) (by omega)) ?_
                  go_frame
                  refine ls_ex (some 82) (.slice (some ⟨ba, oa, none⟩) C ca) rfl rfl (exec_load_one 49 _ rfl g (0 + r * 1) rfl (.slice (some ⟨ba, oa, none⟩) C ca) _ Try.underlying49 rfl (cellA h5 HCa.out)) ?_
                  go_frame
                  refine ls_ex (some 83) (.pointer (some ⟨g, 0 + P * 1, none⟩)) rfl rfl (exec_index_slice _ 49 _ _ rfl g 0 n cap P 1 rfl rfl Try.underlying26 (by kernel_rfl) hPn) ?_
                  go_frame
                  refine ls_op rfl (fun K' hK' => ?_)
                  have lz48 := hB.size
                  have lz49 := h5.lt
                  refine wp_store_one 49 _ _ rfl rfl g (0 + P * 1) rfl (.slice (some ⟨ba, oa, none⟩) C ca) rfl rfl rfl _ _ h5 (by kernel_rfl) HSz1.out (fun Wz46 pz47 => ?_)
                  have lS9 := hS.lts (show 0 < n by omega)
                  replace hB := pz47.below hB (by omega)
                  replace hS := hS.putg pz47
                  replace hO := hO.putg pz47
                  replace hA := hA.putg pz47
                  replace h5 := pz47.at_
                  replace hS := hS.setg hPn hA (HRg.out r hr).1 (c := ca) (by have := HSz1.out; omega)
                  obtain ⟨cs2, hcs2⟩ : ∃ z9, cs.setIfInBounds (0 + P * 1) (.slice (some ⟨ba, oa, none⟩) C ca) = z9 := ⟨_, rfl⟩
                  rw [show (cs.setIfInBounds P (.slice (some ⟨ba, oa, none⟩) C ca)) = cs2 by rw [← hcs2, Nat.zero_add, Nat.mul_one]] at hS
                  rw [hcs2] at h5
                  have HSz2 : Hid (0 + r * 1 < cs2.size) := Lib.hid (by rw [← hcs2, Array.size_setIfInBounds]; exact (Array.getElem?_eq_some_iff.1 HCa.out).1)
                  clear hcs2 hA
                  refine hK' _ _ ?_
                  clear hK' K' pz47
                  refine wpList_nil ?_
                  go_upto_region 20 with (fail)
                  refine wp_region_lit ?_
                  refine ls_ex (some 84) (.slice (some ⟨g, 0, none⟩) n cap) rfl rfl (exec_move _ rfl (.slice (some ⟨g, 0, none⟩) n cap) rfl) ?_
                  go_frame
                  refine ls_ex (some 85) (.int .i64 r) rfl rfl (exec_move _ rfl (.int .i64 r) rfl) ?_
                  go_frame
                  refine ls_ex (some 86) (.slice (some ⟨bo, oo, none⟩) C co) rfl rfl (exec_move _ rfl (.slice (some ⟨bo, oo, none⟩) C co) rfl) ?_
                  go_frame
                  refine ls_ex (some 87) (.pointer (some ⟨g, 0 + r * 1, none⟩)) rfl rfl (exec_index_slice _ 49 _ _ rfl g 0 n cap r 1 rfl rfl Try.underlying26 (by kernel_rfl) (by omega)) ?_
                  go_frame
                  refine ls_op rfl (fun K' hK' => ?_)
                  have lz52 := hB.size
                  have lz53 := h5.lt
                  refine wp_store_one 49 _ _ rfl rfl g (0 + r * 1) rfl (.slice (some ⟨bo, oo, none⟩) C co) rfl rfl rfl _ _ h5 (by kernel_rfl) HSz2.out (fun Wz50 pz51 => ?_)
                  have lS9 := hS.lts (show 0 < n by omega)
                  replace hB := pz51.below hB (by omega)
                  replace hS := hS.putg pz51
                  replace hO := hO.putg pz51
                  replace h5 := pz51.at_
                  replace hS := hS.setg hr hO (HRg1.out r hr).1 (c := co) (by have := HSz2.out; omega)
                  obtain ⟨cs3, hcs3⟩ : ∃ z9, cs2.setIfInBounds (0 + r * 1) (.slice (some ⟨bo, oo, none⟩) C co) = z9 := ⟨_, rfl⟩
                  rw [show (cs2.setIfInBounds r (.slice (some ⟨bo, oo, none⟩) C co)) = cs3 by rw [← hcs3, Nat.zero_add, Nat.mul_one], HRr.out, updR_swp, HR1.out] at hS
                  rw [hcs3] at h5
                  clear hcs3
                  refine hK' _ _ ?_
                  clear hK' K' pz51
                  refine wpList_nil ?_
                  go_upto_region 21 with (fail)
                  refine wp_region_lit ?_
                  refine ls_ex (some 88) (.int .i64 p) rfl rfl (exec_move _ rfl (.int .i64 p) rfl) ?_
                  go_frame
                  refine ls_ex (some 89) (.slice (some ⟨bo, oo, none⟩) C co) rfl rfl (exec_move _ rfl (.slice (some ⟨bo, oo, none⟩) C co) rfl) ?_
                  go_frame
                  refine ls_ex (some 90) (.int .i64 c) rfl rfl (exec_move _ rfl (.int .i64 c) rfl) ?_
                  go_frame
                  refine ls_ex (some 91) (.pointer (some ⟨bo, oo + c * 1, none⟩)) rfl rfl (exec_index_slice _ 2 _ _ rfl bo oo C co c 1 rfl rfl Try.underlying49 (by kernel_rfl) hc) ?_
                  go_frame
                  refine ls_ex (some 92) (.int .i64 Y) rfl rfl (exec_load_one 2 _ rfl bo (oo + c * 1) rfl (.int .i64 Y) _ Try.underlying2 rfl (RdI.c1K ((hO).rdI) HY.out)) ?_
                  go_frame
                  refine ls_op rfl (fun K' hK' => ?_)
                  have lz56 := hB.size
                  have lz57 := h5.lt
                  refine wp_call2 (some 93) rfl 45 _ _ _ rfl (fun args w => by kernel_rfl) _ _ rfl rfl _ (l01Inverse_c p Y _ hp (by omega) hYb.2) (fun e Wz54 h => ?_)
                  obtain ⟨rfl, rfl⟩ := h
                  rw [HIV.out]
                  refine ⟨_, rfl, ?_⟩
                  refine hK' _ _ ?_
                  clear hK' K'
                  go_frame
                  refine ls_ex (some 17) (.int .i64 IV) rfl rfl (exec_assign _ rfl (.int .i64 IV) rfl) ?_
                  go_frame
                  refine wpList_nil ?_
                  go_upto_region 22 with (fail)
                  refine wp_region_lit ?_
                  refine ls_ex (some 94) (.int .i64 r) rfl rfl (exec_move _ rfl (.int .i64 r) rfl) ?_
                  go_frame
                  refine ls_ex (some 95) (.int .i64 (r + 1)) rfl rfl (exec_add _ _ _ _ rfl r 1 (r + 1) rfl rfl (IntWalk.i64_in _ (by omega))) ?_
                  go_frame
                  refine ls_ex (some 18) (.int .i64 (r + 1)) rfl rfl (exec_assign _ rfl (.int .i64 (r + 1)) rfl) ?_
                  go_frame
                  refine wpList_nil ?_
                  go_wp2_with fail
                  go_loopw [18] (fun s18 wr => ∃ (i : Nat) (cs4 : Array Value) (h4 : Nat), r + 1 ≤ i ∧ i ≤ n ∧ s18 = .int .i64 i ∧ Below w.heap.size w wr ∧ At wr g (.cells cs4 49 (0, 0)) ∧ TabS wr h4 g cs4 n C (clS p C R1 r c i) ∧ RdG wr h4 g bo oo (R1 r)) (fun s18 _ => n - (intOf s18).toNat)
                  case atStart => exact ⟨r + 1, _, _, Nat.le_refl _, by omega, by go_num, hB, h5, by rw [clS_start]; exact hS, hO⟩
                  case round =>
                    clear hB h5 hS hO
                    obtain ⟨i, cs4, h4, hle1, hle2, rfl, hB, h5, hS, hO⟩ := hrel
                    by_cases hlt : i < n
                    · have hin : i < n := hlt
                      have hri : r < i := by omega
                      obtain ⟨bi, oi, ci, hi9⟩ := hS.get hin
                      have HCi : Hid (cs4[0 + i * 1]? = some (.slice (some ⟨bi, oi, none⟩) C ci)) := Lib.hid (by rw [Nat.zero_add, Nat.mul_one]; exact hi9)
                      clear hi9
                      have hRi : clS p C R1 r c i i = R1 i := by rw [clS, if_neg (by omega)]
                      have HT0 := Lib.hid (HRg1.out.at_ hin hc)
                      obtain ⟨T, hT, hTb⟩ := HT0.out
                      have HTg : Hid ((clS p C R1 r c i i)[c]? = some T) := Lib.hid (by rw [hRi]; exact hT)
                      obtain ⟨M1, hM1⟩ : ∃ z9, T * IV = z9 := ⟨_, rfl⟩
                      have hM1b := m4c (a := T) (b := IV) (by omega) (by omega)
                      rw [hM1] at hM1b
                      have HM1 : Hid (IntKind.i64.wrap (T * IV) = M1) := Lib.hid (by rw [hM1]; exact IntWalk.i64_in _ (by omega))
                      obtain ⟨F, hF⟩ : ∃ z9, M1 % p = z9 := ⟨_, rfl⟩
                      have HF : Hid (M1.tmod p = F) := Lib.hid (by rw [Int.tmod_eq_emod_of_nonneg (by omega)]; exact hF)
                      have hFb : 0 ≤ F ∧ F < p := by rw [← hF]; exact ⟨Int.emod_nonneg _ (by omega), Int.emod_lt_of_pos _ (by omega)⟩
                      have HFac : Hid (facS p (R1 i) (R1 r) c = F) := Lib.hid (by unfold facS; rw [hT, HY.out]; simp only [Option.getD_some]; rw [hIV, hM1, hF])
                      have HRs : Hid (updR (clS p C R1 r c i) i (combS p C (R1 i) (R1 r) c) = clS p C R1 r c (i + 1)) := Lib.hid (clS_step hri)
                      have HCl : Hid ((combS p C (R1 i) (R1 r) c).length = C) := Lib.hid (combS_len (HRg1.out i hin).1)
                      have HRi := Lib.hid hRi
                      obtain ⟨cs5, hcs5⟩ : ∃ z9 : Array Value → Array Value, z9 = z9 := ⟨fun x => x, rfl⟩
                      clear hT hM1 hF HT0 hRi hcs5 cs5
                      have HSz : Hid (0 + i * 1 < cs4.size) := Lib.hid (Array.getElem?_eq_some_iff.1 HCi.out).1
                      obtain ⟨we, rfl⟩ : ∃ x : World, x = wr := ⟨_, rfl⟩
                      go_upto_region 23 with (fail)
                      refine wp_region_lit ?_
                      refine ls_ex (some 96) (.int .i64 i) rfl rfl (exec_move _ rfl (.int .i64 i) rfl) ?_
                      go_frame
                      refine ls_ex (some 97) (.int .i64 n) rfl rfl (exec_move _ rfl (.int .i64 n) rfl) ?_
                      go_frame
                      refine ls_ex (some 98) (.bool true) rfl rfl (exec_lss _ _ _ _ rfl i n rfl rfl true (decide_eq_true (by omega))) ?_
                      go_frame
                      refine wpList_nil ?_
                      go_upto_region 25 with (fail)
                      refine wp_region_lit ?_
                      refine ls_ex (some 101) (.slice (some ⟨g, 0, none⟩) n cap) rfl rfl (exec_move _ rfl (.slice (some ⟨g, 0, none⟩) n cap) rfl) ?_
                      go_frame
                      refine ls_ex (some 102) (.int .i64 i) rfl rfl (exec_move _ rfl (.int .i64 i) rfl) ?_
                      go_frame
                      refine ls_ex (some 103) (.pointer (some ⟨g, 0 + i * 1, none⟩)) rfl rfl (exec_index_slice _ 49 _ _ rfl g 0 n cap i 1 rfl rfl Try.underlying26 (by kernel_rfl) (by omega)) ?_
                      go_frame
                      refine ls_ex (some 104) (.slice (some ⟨bi, oi, none⟩) C ci) rfl rfl (exec_load_one 49 _ rfl g (0 + i * 1) rfl (.slice (some ⟨bi, oi, none⟩) C ci) _ Try.underlying49 rfl (cellA h5 HCi.out)) ?_
                      go_frame
                      refine ls_ex (some 105) (.int .i64 c) rfl rfl (exec_move _ rfl (.int .i64 c) rfl) ?_
                      go_frame
                      refine ls_ex (some 106) (.pointer (some ⟨bi, oi + c * 1, none⟩)) rfl rfl (exec_index_slice _ 2 _ _ rfl bi oi C ci c 1 rfl rfl Try.underlying49 (by kernel_rfl) hc) ?_
                      go_frame
                      refine ls_ex (some 107) (.int .i64 T) rfl rfl (exec_load_one 2 _ rfl bi (oi + c * 1) rfl (.int .i64 T) _ Try.underlying2 rfl (RdI.c1K (((hS).rowR hin HCi.out).rdI) HTg.out)) ?_
                      go_frame
                      refine ls_ex (some 108) (.int .i64 IV) rfl rfl (exec_move _ rfl (.int .i64 IV) rfl) ?_
                      go_frame
                      refine ls_ex (some 109) (.int .i64 M1) rfl rfl (exec_mul _ _ _ _ rfl T IV M1 rfl rfl HM1.out) ?_
                      go_frame
                      refine ls_ex (some 110) (.int .i64 p) rfl rfl (exec_move _ rfl (.int .i64 p) rfl) ?_
                      go_frame
                      refine ls_ex (some 111) (.int .i64 F) rfl rfl (exec_rem _ _ _ _ rfl M1 p F rfl rfl (by omega) HF.out) ?_
                      go_frame
                      refine ls_op rfl (fun K' hK' => ?_)
                      obtain ⟨zR, hzR⟩ : ∃ z9 : Nat, we.heap.size = z9 := ⟨_, rfl⟩
                      replace hS := hS.raise
                      replace hO := hO.raise
                      rw [hzR] at hS hO
                      have lz58 := hB.size
                      have lz59 := h5.lt
                      refine wp_new (some 112) rfl (exec_bs0S rfl) (fun Wz60 nnz61 => ?_)
                      have bz62 := nnz61.below (Below.refl _ _) (Nat.le_refl _)
                      replace hB := below_after hB bz62
                      replace h5 := h5.after bz62
                      replace hS := hS.below bz62
                      replace hO := hO.below bz62
                      have hk : At Wz60 we.heap.size (.cells #[] 2 (0, 0)) := nnz61.at_
                      refine hK' _ _ ?_
                      clear hK' K' nnz61 bz62
                      go_frame
                      refine ls_ex (some 19) (.int .i64 F) rfl rfl (exec_assign _ rfl (.int .i64 F) rfl) ?_
                      go_frame
                      refine ls_ex (some 20) (.slice (some ⟨we.heap.size, 0, none⟩) 0 0) rfl rfl (exec_assign _ rfl (.slice (some ⟨we.heap.size, 0, none⟩) 0 0) rfl) ?_
                      go_frame
                      refine wpList_nil ?_
                      go_upto_region 26 with (fail)
                      refine wp_region_lit ?_
                      refine ls_ex (some 21) (.int .i64 0) rfl rfl (exec_assign _ rfl (.int .i64 0) rfl) ?_
                      go_frame
                      refine wpList_nil ?_
                      go_wp2_with fail
                      go_loopw [20, 21] (fun s20 s21 wr => ∃ (k : Nat) (x9 : Value), k ≤ C ∧ x9 = s20 ∧ s21 = .int .i64 k ∧ Below w.heap.size w wr ∧ At wr g (.cells cs4 49 (0, 0)) ∧ TabS wr zR g cs4 n C (clS p C R1 r c i) ∧ RdG wr zR g bo oo (R1 r) ∧ OwnI wr zR x9 ((combS p C (R1 i) (R1 r) c).take k)) (fun _ s21 _ => C - (intOf s21).toNat)
                      case atStart => exact ⟨0, _, by omega, rfl, rfl, hB, h5, hS, hO, by rw [List.take_zero]; exact own_nilS hk (by omega)⟩
                      case round =>
                        clear hB h5 hS hO hk
                        obtain ⟨k, x9, hle3, rfl, rfl, hB, h5, hS, hO, ho⟩ := hrel
                        by_cases hlt : k < C
                        · have HE0 := Lib.hid (HRg1.out.at_ hin hlt)
                          obtain ⟨E, hE, hEb⟩ := HE0.out
                          have HN0 := Lib.hid (HRg1.out.at_ hr hlt)
                          obtain ⟨N, hN, hNb⟩ := HN0.out
                          have HEg : Hid ((clS p C R1 r c i i)[k]? = some E) := Lib.hid (by rw [HRi.out]; exact hE)
                          have HNg := Lib.hid hN
                          obtain ⟨M2, hM2⟩ : ∃ z9, F * N = z9 := ⟨_, rfl⟩
                          have hM2b := m4c (a := F) (b := N) (by omega) (by omega)
                          rw [hM2] at hM2b
                          have HM2 : Hid (IntKind.i64.wrap (F * N) = M2) := Lib.hid (by rw [hM2]; exact IntWalk.i64_in _ (by omega))
                          obtain ⟨S2, hS2⟩ : ∃ z9, E - M2 = z9 := ⟨_, rfl⟩
                          have HS2 : Hid (IntKind.i64.wrap (E - M2) = S2) := Lib.hid (by rw [hS2]; exact IntWalk.i64_in _ (by omega))
                          obtain ⟨X, hX⟩ : ∃ z9, S2 % p = z9 := ⟨_, rfl⟩
                          have HX := Lib.hid hX
                          have HT : Hid ((combS p C (R1 i) (R1 r) c).take k ++ [X] = (combS p C (R1 i) (R1 r) c).take (k + 1)) := Lib.hid (combS_stepA hlt (HRg1.out i hin).1 (HRg1.out.at_ hin hlt) (by rw [hE, hN, HFac.out]; simp only [Option.getD_some]; rw [hM2, hS2, hX]))
                          have HLen : Hid (((combS p C (R1 i) (R1 r) c).take k).length ≤ 1000000) := Lib.hid (by simp; omega)
                          clear hE hN hM2 hS2 hX HE0 HN0
                          go_upto_region 27 with (fail)
                          refine wp_region_lit ?_
                          refine ls_ex (some 113) (.int .i64 k) rfl rfl (exec_move _ rfl (.int .i64 k) rfl) ?_
                          go_frame
                          refine ls_ex (some 114) (.int .i64 C) rfl rfl (exec_move _ rfl (.int .i64 C) rfl) ?_
                          go_frame
                          refine ls_ex (some 115) (.bool true) rfl rfl (exec_lss _ _ _ _ rfl k C rfl rfl true (decide_eq_true (by omega))) ?_
                          go_frame
                          refine wpList_nil ?_
                          go_upto_region 29 with (fail)
                          refine wp_region_y (zs := []) (S := fun w' => Below w.heap.size w w' ∧ At w' g (.cells cs4 49 (0, 0)) ∧ TabS w' zR g cs4 n C (clS p C R1 r c i) ∧ RdG w' zR g bo oo (R1 r)) (S2 := fun w' => True) (by kernel_rfl) ?_
                          change wpAnyY _ _ _ _ _ _ _ _ _ _ (World.drew _)
                          generalize hwdz63 : World.drew _ = wdz63
                          replace hB : Below w.heap.size w wdz63 := by rw [← hwdz63]; exact hB.drew
                          replace h5 : At wdz63 g (.cells cs4 49 (0, 0)) := by rw [← hwdz63]; exact h5
                          replace hS : TabS wdz63 zR g cs4 n C (clS p C R1 r c i) := by rw [← hwdz63]; exact hS.drewM
                          replace hO : RdG wdz63 zR g bo oo (R1 r) := by rw [← hwdz63]; exact hO.drewM
                          replace ho : OwnI wdz63 zR x9 ((combS p C (R1 i) (R1 r) c).take k) := by rw [← hwdz63]; exact ho.drew
                          clear hwdz63
                          refine y_yield 0 (some 118) (x9) rfl (by kernel_rfl) (by kernel_rfl) (by kernel_rfl) (fun _ _ _ h => h) rfl rfl ⟨hB, h5, hS, hO⟩ (fun w' h' => exec_move _ rfl (x9) rfl) ?_
                          go_frame
                          refine y_yield 1 (some 119) (.int .i64 p) rfl (by kernel_rfl) (by kernel_rfl) (by kernel_rfl) (fun _ _ _ h => h) rfl rfl ⟨hB, h5, hS, hO⟩ (fun w' h' => exec_move _ rfl (.int .i64 p) rfl) ?_
                          go_frame
                          refine y_yield 2 (some 120) (.slice (some ⟨g, 0, none⟩) n cap) rfl (by kernel_rfl) (by kernel_rfl) (by kernel_rfl) (fun _ _ _ h => h) rfl rfl ⟨hB, h5, hS, hO⟩ (fun w' h' => exec_move _ rfl (.slice (some ⟨g, 0, none⟩) n cap) rfl) ?_
                          go_frame
                          refine y_yield 3 (some 121) (.int .i64 i) rfl (by kernel_rfl) (by kernel_rfl) (by kernel_rfl) (fun _ _ _ h => h) rfl rfl ⟨hB, h5, hS, hO⟩ (fun w' h' => exec_move _ rfl (.int .i64 i) rfl) ?_
                          go_frame
                          refine y_yield 4 (some 122) (.pointer (some ⟨g, 0 + i * 1, none⟩)) rfl (by kernel_rfl) (by kernel_rfl) (by kernel_rfl) (fun _ _ _ h => h) rfl rfl ⟨hB, h5, hS, hO⟩ (fun w' h' => exec_index_slice _ 49 _ _ rfl g 0 n cap i 1 rfl rfl Try.underlying26 (by kernel_rfl) (by omega)) ?_
                          go_frame
                          refine y_yield 5 (some 123) (.slice (some ⟨bi, oi, none⟩) C ci) rfl (by kernel_rfl) (by kernel_rfl) (by kernel_rfl) (fun _ _ _ h => h) rfl rfl ⟨hB, h5, hS, hO⟩ (fun w' h' => exec_load_one 49 _ rfl g (0 + i * 1) rfl (.slice (some ⟨bi, oi, none⟩) C ci) _ Try.underlying49 rfl (cellA h'.2.1 HCi.out)) ?_
                          go_frame
                          refine y_yield 6 (some 124) (.int .i64 k) rfl (by kernel_rfl) (by kernel_rfl) (by kernel_rfl) (fun _ _ _ h => h) rfl rfl ⟨hB, h5, hS, hO⟩ (fun w' h' => exec_move _ rfl (.int .i64 k) rfl) ?_
                          go_frame
                          refine y_yield 7 (some 125) (.pointer (some ⟨bi, oi + k * 1, none⟩)) rfl (by kernel_rfl) (by kernel_rfl) (by kernel_rfl) (fun _ _ _ h => h) rfl rfl ⟨hB, h5, hS, hO⟩ (fun w' h' => exec_index_slice _ 2 _ _ rfl bi oi C ci k 1 rfl rfl Try.underlying49 (by kernel_rfl) hlt) ?_
                          go_frame
                          refine y_yield 8 (some 126) (.int .i64 E) rfl (by kernel_rfl) (by kernel_rfl) (by kernel_rfl) (fun _ _ _ h => h) rfl rfl ⟨hB, h5, hS, hO⟩ (fun w' h' => exec_load_one 2 _ rfl bi (oi + k * 1) rfl (.int .i64 E) _ Try.underlying2 rfl (RdI.c1K (((h'.2.2.1).rowR hin HCi.out).rdI) HEg.out)) ?_
                          go_frame
                          refine y_yield 9 (some 127) (.int .i64 F) rfl (by kernel_rfl) (by kernel_rfl) (by kernel_rfl) (fun _ _ _ h => h) rfl rfl ⟨hB, h5, hS, hO⟩ (fun w' h' => exec_move _ rfl (.int .i64 F) rfl) ?_
                          go_frame
                          refine y_yield 10 (some 128) (.slice (some ⟨bo, oo, none⟩) C co) rfl (by kernel_rfl) (by kernel_rfl) (by kernel_rfl) (fun _ _ _ h => h) rfl rfl ⟨hB, h5, hS, hO⟩ (fun w' h' => exec_move _ rfl (.slice (some ⟨bo, oo, none⟩) C co) rfl) ?_
                          go_frame
                          refine y_yield 11 (some 129) (.int .i64 k) rfl (by kernel_rfl) (by kernel_rfl) (by kernel_rfl) (fun _ _ _ h => h) rfl rfl ⟨hB, h5, hS, hO⟩ (fun w' h' => exec_move _ rfl (.int .i64 k) rfl) ?_
                          go_frame
                          refine y_yield 12 (some 130) (.pointer (some ⟨bo, oo + k * 1, none⟩)) rfl (by kernel_rfl) (by kernel_rfl) (by kernel_rfl) (fun _ _ _ h => h) rfl rfl ⟨hB, h5, hS, hO⟩ (fun w' h' => exec_index_slice _ 2 _ _ rfl bo oo C co k 1 rfl rfl Try.underlying49 (by kernel_rfl) hlt) ?_
                          go_frame
                          refine y_yield 13 (some 131) (.int .i64 N) rfl (by kernel_rfl) (by kernel_rfl) (by kernel_rfl) (fun _ _ _ h => h) rfl rfl ⟨hB, h5, hS, hO⟩ (fun w' h' => exec_load_one 2 _ rfl bo (oo + k * 1) rfl (.int .i64 N) _ Try.underlying2 rfl (RdI.c1K ((h'.2.2.2).rdI) HNg.out)) ?_
                          go_frame
                          refine y_yield 14 (some 132) (.int .i64 M2) rfl (by kernel_rfl) (by kernel_rfl) (by kernel_rfl) (fun _ _ _ h => h) rfl rfl ⟨hB, h5, hS, hO⟩ (fun w' h' => exec_mul _ _ _ _ rfl F N M2 rfl rfl HM2.out) ?_
                          go_frame
                          refine y_yield 15 (some 133) (.int .i64 S2) rfl (by kernel_rfl) (by kernel_rfl) (by kernel_rfl) (fun _ _ _ h => h) rfl rfl ⟨hB, h5, hS, hO⟩ (fun w' h' => exec_sub _ _ _ _ rfl E M2 S2 rfl rfl HS2.out) ?_
                          go_frame
                          refine y_oper 16 (by kernel_rfl) rfl rfl (fun K' hK' => ?_)
                          have lz66 := hB.size
                          have lz67 := h5.lt
                          refine wp_call2 (some 134) rfl 46 _ _ _ rfl (fun args w => by kernel_rfl) _ _ rfl rfl _ (l01Mod_c p S2 _ (by omega) (by omega)) (fun e Wz64 h => ?_)
                          obtain ⟨rfl, rfl⟩ := h
                          rw [HX.out]
                          refine ⟨_, rfl, ?_⟩
                          refine hK' _ _ ⟨hB, h5, hS, hO⟩ (fun _ => trivial) ?_
                          clear hK' K'
                          go_frame
                          refine y_oper 17 (by kernel_rfl) rfl rfl (fun K' hK' => ?_)
                          have lz68 := hB.size
                          have lz69 := h5.lt
                          have naz74 := ho.away_new
                          refine wp_new (some 135) rfl (exec_bsi1 _ rfl X rfl) (fun Wz70 nnz71 => ?_)
                          have bz72 := nnz71.below (Below.refl _ _) (Nat.le_refl _)
                          replace hB := below_after hB bz72
                          replace h5 := h5.after bz72
                          replace hS := hS.below bz72
                          replace hO := hO.below bz72
                          replace ho := ho.below bz72
                          have hz73 : At Wz70 wdz63.heap.size (.cells #[.int .i64 X] 2 (0, 0)) := nnz71.at_
                          refine hK' _ _ ⟨hB, h5, hS, hO⟩ (fun _ => trivial) ?_
                          clear hK' K' nnz71 bz72
                          go_frame
                          refine y_oper 18 (by kernel_rfl) rfl rfl (fun K' hK' => ?_)
                          have lz78 := hB.size
                          have lz79 := h5.lt
                          have lz80 := hz73.lt
                          refine wp_appI1 (some 136) rfl _ _ rfl x9 ((combS p C (R1 i) (R1 r) c).take k) X rfl ho wdz63.heap.size rfl hz73 HLen.out (by have := hS.lts (show 0 < n by omega); omega) (fun x8 Wz75 noz77 grz76 => ?_)
                          rw [HT.out] at noz77
                          have lz9 := hS.lts (show 0 < n by omega)
                          replace hB := below_grownI hB grz76 ho (by omega)
                          replace hS := hS.grown grz76 (fun k9 hk9 => (ho.lt hk9).1) grz76.size
                          replace hO := hO.grown grz76 (fun k9 hk9 => (ho.lt hk9).1) grz76.size
                          replace h5 := h5.grown grz76 (ho.off h5 (by decide))
                          replace ho := noz77
                          refine hK' _ _ ⟨hB, h5, hS, hO⟩ (fun _ => trivial) ?_
                          clear hK' K' grz76 hz73
                          go_frame
                          refine y_oper 19 (by kernel_rfl) rfl rfl (fun K' hK' => ?_)
                          refine wp_exec (some 20) rfl (x8) (exec_assign _ rfl (x8) rfl) ?_
                          refine hK' _ _ ⟨hB, h5, hS, hO⟩ (fun _ => trivial) ?_
                          clear hK' K'
                          go_frame
                          refine y_done (by kernel_rfl) ?_ _
                          go_upto_region 28 with (fail)
                          refine wp_region_lit ?_
                          refine ls_ex (some 116) (.int .i64 k) rfl rfl (exec_move _ rfl (.int .i64 k) rfl) ?_
                          go_frame
                          refine ls_ex (some 117) (.int .i64 (k + 1)) rfl rfl (exec_add _ _ _ _ rfl k 1 (k + 1) rfl rfl (IntWalk.i64_in _ (by omega))) ?_
                          go_frame
                          refine ls_ex (some 21) (.int .i64 (k + 1)) rfl rfl (exec_assign _ rfl (.int .i64 (k + 1)) rfl) ?_
                          go_frame
                          refine wpList_nil ?_
                          go_wp2_with fail
                          go_roundw
                          case rel => exact ⟨k + 1, x8, by omega, rfl, by go_num, hB, h5, hS, hO, ho⟩
                          case measure => simp [intOf] <;> omega
                        · obtain ⟨wy, rfl⟩ : ∃ x : World, x = wr := ⟨_, rfl⟩
                          rw [show (combS p C (R1 i) (R1 r) c).take k = (combS p C (R1 i) (R1 r) c) by rw [show k = C by omega]; exact List.take_of_length_le (by rw [HCl.out]; exact Nat.le_refl _)] at ho
                          obtain ⟨g9, c9, rfl, hc9, hg9⟩ := ho.openK HCl.out (by omega)
                          go_upto_region 27 with (fail)
                          refine wp_region_lit ?_
                          refine ls_ex (some 113) (.int .i64 k) rfl rfl (exec_move _ rfl (.int .i64 k) rfl) ?_
                          go_frame
                          refine ls_ex (some 114) (.int .i64 C) rfl rfl (exec_move _ rfl (.int .i64 C) rfl) ?_
                          go_frame
                          refine ls_ex (some 115) (.bool false) rfl rfl (exec_lss _ _ _ _ rfl k C rfl rfl false (decide_eq_false (by omega))) ?_
                          go_frame
                          refine wpList_nil ?_
                          go_upto_region 30 with (fail)
                          refine wp_region_lit ?_
                          refine ls_ex (some 137) (.slice (some ⟨g, 0, none⟩) n cap) rfl rfl (exec_move _ rfl (.slice (some ⟨g, 0, none⟩) n cap) rfl) ?_
                          go_frame
                          refine ls_ex (some 138) (.int .i64 i) rfl rfl (exec_move _ rfl (.int .i64 i) rfl) ?_
                          go_frame
                          refine ls_ex (some 139) (.slice (some ⟨g9, 0, none⟩) C c9) rfl rfl (exec_move _ rfl (.slice (some ⟨g9, 0, none⟩) C c9) rfl) ?_
                          go_frame
                          refine ls_ex (some 140) (.pointer (some ⟨g, 0 + i * 1, none⟩)) rfl rfl (exec_index_slice _ 49 _ _ rfl g 0 n cap i 1 rfl rfl Try.underlying26 (by kernel_rfl) (by omega)) ?_
                          go_frame
                          refine ls_op rfl (fun K' hK' => ?_)
                          have lz83 := hB.size
                          have lz84 := h5.lt
                          have lS9 := hS.lts (show 0 < n by omega)
                          refine wp_store_one 49 _ _ rfl rfl g (0 + i * 1) rfl (.slice (some ⟨g9, 0, none⟩) C c9) rfl rfl rfl _ _ h5 (by kernel_rfl) HSz.out (fun Wz81 pz82 => ?_)
                          replace hB := pz82.below hB (by omega)
                          replace hS := (hS.putg pz82).raise
                          replace hO := (hO.putg pz82).raise
                          replace ho := ho.put pz82 (ho.ne_lt (by omega))
                          replace h5 := pz82.at_
                          have lN9 : Wz81.heap.size = wy.heap.size := (pz82.size (n := wy.heap.size) rfl)
                          have hN9 : RdG Wz81 Wz81.heap.size g g9 0 (combS p C (R1 i) (R1 r) c) := ⟨Nat.le_refl _, by omega, by have h9 := (ho.lt (g := g9) rfl).2; omega, by omega, ho.rd'⟩
                          replace hS := hS.setg hin hN9 HCl.out (c := c9) (by have := HSz.out; omega)
                          rw [HRs.out] at hS
                          obtain ⟨cs5, hcs5⟩ : ∃ z9, cs4.setIfInBounds (0 + i * 1) (.slice (some ⟨g9, 0, none⟩) C c9) = z9 := ⟨_, rfl⟩
                          rw [show (cs4.setIfInBounds i (.slice (some ⟨g9, 0, none⟩) C c9)) = cs5 by rw [← hcs5, Nat.zero_add, Nat.mul_one]] at hS
                          rw [hcs5] at h5
                          clear hcs5 ho hN9
                          refine hK' _ _ ?_
                          clear hK' K' pz82
                          refine wpList_nil ?_
                          go_upto_region 24 with (fail)
                          refine wp_region_lit ?_
                          refine ls_ex (some 99) (.int .i64 i) rfl rfl (exec_move _ rfl (.int .i64 i) rfl) ?_
                          go_frame
                          refine ls_ex (some 100) (.int .i64 (i + 1)) rfl rfl (exec_add _ _ _ _ rfl i 1 (i + 1) rfl rfl (IntWalk.i64_in _ (by omega))) ?_
                          go_frame
                          refine ls_ex (some 18) (.int .i64 (i + 1)) rfl rfl (exec_assign _ rfl (.int .i64 (i + 1)) rfl) ?_
                          go_frame
                          refine wpList_nil ?_
                          go_wp2_with fail
                          go_roundw
                          case rel => exact ⟨i + 1, cs5, _, by omega, by omega, by go_num, hB, h5, hS, hO⟩
                          case measure => simp [intOf] <;> omega
                    · have hni : i = n := by omega
                      rw [hni] at hS
                      obtain ⟨wx, rfl⟩ : ∃ x : World, x = wr := ⟨_, rfl⟩
                      go_upto_region 23 with (fail)
                      refine wp_region_lit ?_
                      refine ls_ex (some 96) (.int .i64 i) rfl rfl (exec_move _ rfl (.int .i64 i) rfl) ?_
                      go_frame
                      refine ls_ex (some 97) (.int .i64 n) rfl rfl (exec_move _ rfl (.int .i64 n) rfl) ?_
                      go_frame
                      refine ls_ex (some 98) (.bool false) rfl rfl (exec_lss _ _ _ _ rfl i n rfl rfl false (decide_eq_false (by omega))) ?_
                      go_frame
                      refine wpList_nil ?_
                      go_upto_region 31 with (fail)
                      refine wp_region_lit ?_
                      refine ls_ex (some 141) (.int .i64 r) rfl rfl (exec_move _ rfl (.int .i64 r) rfl) ?_
                      go_frame
                      refine ls_ex (some 142) (.int .i64 (r + 1)) rfl rfl (exec_add _ _ _ _ rfl r 1 (r + 1) rfl rfl (IntWalk.i64_in _ (by omega))) ?_
                      go_frame
                      refine ls_ex (some 10) (.int .i64 (r + 1)) rfl rfl (exec_assign _ rfl (.int .i64 (r + 1)) rfl) ?_
                      go_frame
                      refine wpList_nil ?_
                      go_upto_region 13 with (fail)
                      refine wp_region_lit ?_
                      refine ls_ex (some 52) (.int .i64 c) rfl rfl (exec_move _ rfl (.int .i64 c) rfl) ?_
                      go_frame
                      refine ls_ex (some 53) (.int .i64 (c + 1)) rfl rfl (exec_add _ _ _ _ rfl c 1 (c + 1) rfl rfl (IntWalk.i64_in _ (by omega))) ?_
                      go_frame
                      refine ls_ex (some 14) (.int .i64 (c + 1)) rfl rfl (exec_assign _ rfl (.int .i64 (c + 1)) rfl) ?_
                      go_frame
                      refine wpList_nil ?_
                      go_wp2_with fail
                      go_roundw
                      case rel => exact ⟨c + 1, r + 1, cs4, h4, _, by omega, by go_num, by go_num, HR2, hB, h5, hS⟩
                      case measure => simp [intOf] <;> omega
              · exact absurd (by have h9 := HPf.out; rw [show b = n by omega, pvF_end] at h9; omega) (show ¬ P = n by omega)
        · have HRz : Hid ((rkS p n C R0 C).2 = r) := Lib.hid (by have h9 := HRk.out; rw [show c = C by omega] at h9; rw [h9])
          obtain ⟨bz, oz, cz, hz9⟩ := hS.get (show 0 < n by omega)
          have HCz : Hid (cs[0 + 0 * 1]? = some (.slice (some ⟨bz, oz, none⟩) C cz)) := Lib.hid (by rw [Nat.zero_add, Nat.mul_one]; exact hz9)
          clear hz9
          go_upto_region 12 with (fail)
          refine wp_region_lit ?_
          refine ls_ex (some 49) (.int .i64 c) rfl rfl (exec_move _ rfl (.int .i64 c) rfl) ?_
          go_frame
          refine ls_ex (some 50) (.int .i64 C) rfl rfl (exec_move _ rfl (.int .i64 C) rfl) ?_
          go_frame
          refine ls_ex (some 51) (.bool false) rfl rfl (exec_lss _ _ _ _ rfl c C rfl rfl false (decide_eq_false (by omega))) ?_
          go_frame
          refine wpList_nil ?_
          go_upto_region 32 with (fail)
          refine wp_region_lit ?_
          refine ls_ex (some 143) (.int .i64 r) rfl rfl (exec_move _ rfl (.int .i64 r) rfl) ?_
          go_frame
          refine ls_ex (some 8) (.int .i64 r) rfl rfl (exec_assign _ rfl (.int .i64 r) rfl) ?_
          go_frame
          refine wpList_nil ?_
          go_wp2_with fail
          go_ret
          exact ⟨by rw [HFr.out, HRz.out]; rfl, hB⟩
end Go.Proofs.Ytebmkmkhfhmfbaa
