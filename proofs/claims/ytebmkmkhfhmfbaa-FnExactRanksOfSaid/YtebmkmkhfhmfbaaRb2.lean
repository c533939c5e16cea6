/-
  slices.IndexFunc on rows; impl.rankOfRows at bytes. (Made by mkrb.py of Rk2.)
-/
import Derived.Test.YtebmkmkhfhmfbaaRb1
import Derived.Test.YtebmkmkhfhmfbaaRk2
namespace Go.Proofs.Ytebmkmkhfhmfbaa.B
open Go.RowKit
set_option maxRecDepth 100000
theorem elem_M : Try.prog.underlying 88 = some (.slice (Try.prog.elem 88)) := by kernel_rfl
theorem size_M (w : World) : (sizeOf (Try.prog.elem 88)).run Try.prog w = .ok 1 w := by kernel_rfl
theorem exec_sliceM1 {o : Oper} {a : Act} {w : World} (x y : Operand) (ho : o.op = .slice 88 x (some y) none none) (g n c r M : Nat) (hM : r + M = n) (hx : a.eval x = .slice (some ⟨g, 0, none⟩) n c) (hy : a.eval y = .int .i64 (r : Int)) :
    (execOp a.eval o).run Try.prog w = .ok (.value (.slice (some (offB g c r)) M (c - r))) w := by
  have h := run_slice_l (P := Try.prog) (w := w) 88 (some ⟨g, 0, none⟩) n c elem_M .i64 (r : Int) (by omega) (by omega)
  rw [size_M] at h
  unfold execOp
  simp only [ho, Option.map_some, Option.map_none, hx, hy, Instr.sliceAt, Sem.run_bind, run_underlying elem_M, Result.andThen_ok, h]
  simp only [sliced, Int.toNat_natCast, offB]
  rw [show n - r = M by omega]
  split
  · rfl
  · simp [Addr.add]
    omega
section
attribute [local irreducible] wpList
set_option maxHeartbeats 4000000 in
theorem pick1_c {tG : TypeId} (G o C c gb : Nat) (x : Int) (b : Bool) (hb0 : (x != 0) = b) (D : Array Value) (w : World) (hb : At w gb (.cells #[.int .i64 c] 2 (0, 0))) (hG : At w G (.cells D tG (0, 0))) (hD : D[o + c]? = some (.int .u8 x)) (hc : c < C) :
    Calls Try.prog 73 #[.slice (some ⟨G, o, none⟩) C C, .pointer (some ⟨gb, 0, none⟩)] w (fun e w' => e = .returned (.bool b) ∧ w = w') := by
  have hB := Below.refl w.heap.size w
  clear hB
  have HB := Lib.hid hb0
  have HD := Lib.hid hD
  clear hb0 hD
  go_enter Try.func73, Try.ntmps73
  go_upto_region 0 with (fail)
  refine wp_region_lit ?_
  refine ls_ex (some 3) (.bool false) rfl rfl (exec_assign _ rfl (.bool false) rfl) ?_
  go_frame
  refine wpList_nil ?_
  go_upto_region 1 with (fail)
  refine wp_region_lit ?_
  refine ls_ex (some 4) (.slice (some ⟨G, o, none⟩) C C) rfl rfl (exec_move _ rfl (.slice (some ⟨G, o, none⟩) C C) rfl) ?_
  go_frame
  refine ls_ex (some 5) (.int .i64 c) rfl rfl (exec_load_one 2 _ rfl gb 0 rfl (.int .i64 c) _ Try.underlying2 rfl (hb.at_ 0)) ?_
  go_frame
  refine ls_ex (some 6) (.pointer (some ⟨G, o + c * 1, none⟩)) rfl rfl (exec_index_slice _ 5 _ _ rfl G o C C c 1 rfl rfl Try.underlying90 (by kernel_rfl) hc) ?_
  go_frame
  refine ls_ex (some 7) (.int .u8 x) rfl rfl (exec_load_one 5 _ rfl G (o + c * 1) rfl (.int .u8 x) _ Try.underlying5 rfl (cellA hG (by rw [Nat.mul_one]; exact HD.out))) ?_
  go_frame
  refine ls_ex (some 8) (.bool b) rfl rfl (exec_neqB _ _ _ _ rfl x 0 rfl rfl b HB.out) ?_
  go_frame
  refine ls_ex (some 3) (.bool b) rfl rfl (exec_assign _ rfl (.bool b) rfl) ?_
  go_frame
  refine wpList_nil ?_
  go_wp2_with fail
  go_ret
  exact ⟨rfl, rfl⟩
end
set_option maxHeartbeats 1600000 in
theorem indexRk_c {tG : TypeId} (A2 : Option Addr) (g G n C r c gb M c2 : Nat) (of : Nat → Nat) (cs D : Array Value) (R : Nat → List Int) (w : World) (h5 : At w g (.cells cs 90 (0, 0))) (hG : At w G (.cells D tG (0, 0))) (hb : At w gb (.cells #[.int .i64 c] 2 (0, 0)))
    (hT : TabP cs D G of n C R) (hM : r + M = n) (hA2 : 0 < M → A2 = some ⟨g, r, none⟩) (hc : c < C) (hn : n ≤ 1000) (P : Nat) (hP : pv R n r c = P) :
    Calls Try.prog 72 #[.slice A2 M c2, .func (.func 73) #[] #[.pointer (some ⟨gb, 0, none⟩)]] w fun e w' => e = .returned (.int .i64 (pvV P n r)) ∧ w = w' := by
  have HT := Lib.hid hT
  have HP : Hid (pvF R c (n - (r + 0)) (r + 0) = P) := Lib.hid hP
  clear hT hP
  go_enter Try.func72, Try.ntmps72
  go_wp2_with fail
  go_loop [8] (fun v => ∃ a : Nat, a ≤ M ∧ v = .int .i64 a ∧ pvF R c (n - (r + a)) (r + a) = P) (fun v => M - (intOf v).toNat)
  case atStart => exact ⟨0, by omega, rfl, HP.out⟩
  case round =>
    obtain ⟨a, ha, rfl, hall⟩ := hrel
    have Hall := Lib.hid hall
    clear hall
    by_cases hlt : a < M
    · have hA := hA2 (by omega)
      subst hA
      obtain ⟨k, hk⟩ : ∃ z9, r + a = z9 := ⟨_, rfl⟩
      have hkn : k < n := by omega
      have hl := HT.out.len k hkn
      obtain ⟨x, hx⟩ : ∃ z9, (R k)[c]? = some z9 := ⟨_, List.getElem?_eq_getElem (by omega)⟩
      have he : ent R k c = x := by unfold ent; rw [hx]; rfl
      obtain ⟨o, ho⟩ : ∃ z9, of k = z9 := ⟨_, rfl⟩
      have hD := HT.out.num k hkn c x hx
      rw [ho] at hD
      have hx0 : w.cell? ⟨g, r + a, none⟩ = some (.slice (some ⟨G, o, none⟩) C C) := by rw [hk, ← ho]; exact cellA h5 (HT.out.cell k hkn)
      have HD := Lib.hid hD
      have Hk := Lib.hid hk
      have He := Lib.hid he
      clear hD ho hx he hl
      have e0 : IntKind.i64.wrap ((a : Int) + 1) = (a : Int) + 1 := IntWalk.i64_in _ (by omega)
      have hlt' : (a : Int) < (M : Int) := by omega
      by_cases hz : x = 0
      · have HC := Lib.hid (pick1_c G o C c gb x false (by simp [hz]) D w hb hG HD.out hc)
        have Hstep : Hid (pvF R c (n - (r + (a + 1))) (r + (a + 1)) = P) := Lib.hid (by rw [← Hall.out, Hk.out, pvF_zero hkn (by rw [He.out]; exact hz), ← Nat.add_assoc, Hk.out])
        clear hz hk
        go_wp2_with fail
        refine HC.out.mono ?_
        rintro e w' ⟨rfl, rfl⟩
        go_wp2_with fail
        exact ⟨⟨a + 1, by omega, by go_num, Hstep.out⟩, by simp [intOf]; omega⟩
      · have HC := Lib.hid (pick1_c G o C c gb x true (by simp [hz]) D w hb hG HD.out hc)
        have Hr : Hid (pvV P n r = (a : Int)) := Lib.hid (by
          have h9 := Hall.out
          rw [Hk.out, pvF_some hkn (by rw [He.out]; exact hz)] at h9
          rw [pvV, if_neg (by omega)]
          omega)
        clear hz hk
        go_wp2_with fail
        refine HC.out.mono ?_
        rintro e w' ⟨rfl, rfl⟩
        go_wp2_with fail
        go_ret
        exact ⟨by rw [Hr.out]; rfl, rfl⟩
    · have Hr : Hid (pvV P n r = -1) := Lib.hid (by
        have h9 := Hall.out
        rw [show r + a = n by omega, pvF_end] at h9
        rw [pvV, if_pos h9.symm])
      go_wp2_with fail
      go_ret
      exact ⟨by rw [Hr.out]; rfl, rfl⟩
attribute [local irreducible] wpList
set_option maxHeartbeats 4000000 in
theorem rankI_c {tG : TypeId} (p : Int) (g G n C cg L : Nat) (of0 : Nat → Nat) (cs D : Array Value) (R0 : Nat → List Int) (w : World) (hp5 : 2 ≤ p ∧ p ≤ 5) (h5 : At w g (.cells cs 90 (0, 0))) (hG : At w G (.cells D tG (0, 0))) (hgG : g ≠ G) (hT : TabP cs D G of0 n C R0) (hR : Rg p n C R0) (hn : n ≤ 1000) (hC : C ≤ 1000) (hcg : n ≤ cg) (hLg : L ≤ g) (hLG : L ≤ G) :
    Calls Try.prog 52 #[.int .u8 p, .slice (some ⟨g, 0, none⟩) n cg, .int .i64 C] w (fun e w' => e = .returned (.int .i64 ((rkI p n C R0 C).2 : Nat)) ∧ Below L w w') := by
  have hB := Below.refl w.heap.size w
  clear hB
  have hL := Below.refl L w
  have HR0 := Lib.hid hR
  have HT0 := Lib.hid hT
  clear hR hT
  go_enter Try.func52, Try.ntmps52
  go_upto_region 0 with (fail)
  refine wp_region_lit ?_
  refine ls_ex (some 6) (.int .i64 0) rfl rfl (exec_assign _ rfl (.int .i64 0) rfl) ?_
  go_frame
  refine wpList_nil ?_
  go_upto_region 1 with (fail)
  refine wp_region_lit ?_
  refine ls_ex (some 7) (.int .i64 0) rfl rfl (exec_assign _ rfl (.int .i64 0) rfl) ?_
  go_frame
  refine wpList_nil ?_
  go_upto_region 2 with (fail)
  refine wp_region_lit ?_
  refine ls_ex (some 11) (.int .i64 C) rfl rfl (exec_move _ rfl (.int .i64 C) rfl) ?_
  go_frame
  refine ls_ex (some 12) (.int .i64 0) rfl rfl (exec_move _ rfl (.int .i64 0) rfl) ?_
  go_frame
  refine wpList_nil ?_
  go_wp2_with fail
  go_loopw [7, 12] (fun s7 s12 wr => ∃ (c r : Nat) (cs1 D1 : Array Value) (of : Nat → Nat) (R : Nat → List Int), c ≤ C ∧ s12 = .int .i64 c ∧ s7 = .int .i64 r ∧ Hid (rkI p n C R0 c = (R, r)) ∧ Hid (TabP cs1 D1 G of n C R) ∧ Below L w wr ∧ At wr g (.cells cs1 90 (0, 0)) ∧ At wr G (.cells D1 tG (0, 0))) (fun _ s12 _ => C - (intOf s12).toNat)
  case atStart => exact ⟨0, 0, _, _, _, _, by omega, rfl, rfl, Lib.hid rfl, HT0, hL, h5, hG⟩
  case round =>
    clear hL h5 hG
    obtain ⟨c, r, cs1, D1, of, R, hle, rfl, rfl, HRk, HT1, hL, h5, hG⟩ := hrel
    by_cases hc : c < C
    · by_cases hpz : pv R n r c = n
      · obtain ⟨we, rfl⟩ : ∃ z : World, z = wr := ⟨_, rfl⟩
        have HRg := Lib.hid (rkI_rg (C := C) (show 0 < p by omega) HR0.out c)
        rw [HRk.out] at HRg
        have HR1 : Hid (Rg p n C R) := Lib.hid HRg.out.1
        have hrn : r ≤ n := HRg.out.2
        obtain ⟨M, hM⟩ : ∃ z9, r + z9 = n := ⟨n - r, by omega⟩
        obtain ⟨P, hP⟩ : ∃ z9, pv R n r c = z9 := ⟨_, rfl⟩
        have hPb := pv_bd (R := R) (c := c) hrn
        rw [hP] at hPb hpz
        have HPv := Lib.hid hP
        clear HRg hP
        have hPn : P = n := by omega
        obtain ⟨PV, hPV⟩ : ∃ z9 : Int, pvV P n r = z9 := ⟨_, rfl⟩
        have HIf := Lib.hid hPV
        have hPVv : PV = -1 := by rw [← hPV, pvV, if_pos hPn]
        clear hPV
        have HR2 : Hid (rkI p n C R0 (c + 1) = (R, r)) := Lib.hid (by rw [rkI, HRk.out]; unfold stI; rw [if_pos (by rw [HPv.out]; exact hPn)])
        go_upto_region 3 with (fail)
        refine wp_region_lit ?_
        refine ls_ex (some 13) (.bool true) rfl rfl (exec_lss _ _ _ _ rfl c C rfl rfl true (decide_eq_true (by omega))) ?_
        go_frame
        refine wpList_nil ?_
        go_upto_region 4 with (fail)
        refine wp_region_lit ?_
        refine ls_ex (some 14) (.int .i64 c) rfl rfl (exec_move _ rfl (.int .i64 c) rfl) ?_
        go_frame
        refine ls_op rfl (fun K' hK' => ?_)
        have lz1 := h5.lt
        have lz2 := hG.lt
        refine wp_new (some 8) rfl (alRk_int64 rfl) (fun Wz3 nnz4 => ?_)
        have bz5 := nnz4.below (Below.refl _ _) (Nat.le_refl _)
        replace hL := hL.trans (below_mono bz5 (by omega))
        replace h5 := h5.after bz5
        replace hG := hG.after bz5
        have hz6 : At Wz3 we.heap.size (.cells #[.int .i64 0] 2 (0, 0)) := nnz4.at_
        refine hK' _ _ ?_
        clear hK' K' nnz4 bz5
        go_frame
        refine ls_op rfl (fun K' hK' => ?_)
        refine wp_store_one 2 _ _ rfl rfl we.heap.size 0 rfl (.int .i64 c) rfl rfl rfl _ _ hz6 (by kernel_rfl) (by simp) (fun Wz7 pz8 => ?_)
        replace hL := pz8.below hL (by omega)
        replace h5 := pz8.other h5 (by omega)
        replace hG := pz8.other hG (by omega)
        replace hz6 : At Wz7 we.heap.size (.cells #[.int .i64 c] 2 (0, 0)) := pz8.at_
        refine hK' _ _ ?_
        clear hK' K' pz8
        refine wpList_nil ?_
        go_upto_region 5 with (fail)
        refine wp_region_lit ?_
        refine ls_ex (some 15) (.slice (some ⟨g, 0, none⟩) n cg) rfl rfl (exec_move _ rfl (.slice (some ⟨g, 0, none⟩) n cg) rfl) ?_
        go_frame
        refine ls_ex (some 16) (.int .i64 r) rfl rfl (exec_move _ rfl (.int .i64 r) rfl) ?_
        go_frame
        refine ls_ex (some 17) (.slice (some (offB g cg r)) M (cg - r)) rfl rfl (exec_sliceM1 _ _ rfl g n cg r M hM rfl rfl) ?_
        go_frame
        refine ls_ex (some 18) (.func (.func 73) #[] #[.pointer (some ⟨we.heap.size, 0, none⟩)]) rfl rfl (exec_mkfn1 _ _ rfl _ rfl) ?_
        go_frame
        refine ls_op rfl (fun K' hK' => ?_)
        have lz11 := h5.lt
        have lz12 := hG.lt
        have lz13 := hz6.lt
        refine wp_call2 (some 19) rfl 72 _ _ _ rfl (fun args w => by kernel_rfl) _ _ rfl rfl _ (indexRk_c (some (offB g cg r)) g G n C r c we.heap.size M (cg - r) of cs1 D1 R _ h5 hG hz6 HT1.out hM (fun h9 => offB_lt (by omega)) hc hn P HPv.out) (fun e Wz9 h => ?_)
        obtain ⟨rfl, rfl⟩ := h
        rw [HIf.out]
        refine ⟨_, rfl, ?_⟩
        refine hK' _ _ ?_
        clear hK' K'
        go_frame
        refine ls_ex (some 9) (.int .i64 PV) rfl rfl (exec_assign _ rfl (.int .i64 PV) rfl) ?_
        go_frame
        refine wpList_nil ?_
        go_upto_region 6 with (fail)
        refine wp_region_lit ?_
        refine ls_ex (some 20) (.int .i64 PV) rfl rfl (exec_move _ rfl (.int .i64 PV) rfl) ?_
        go_frame
        refine ls_ex (some 21) (.bool true) rfl rfl (exec_lss _ _ _ _ rfl PV 0 rfl rfl true (decide_eq_true (by omega))) ?_
        go_frame
        refine wpList_nil ?_
        go_upto_region 11 with (fail)
        refine wp_region_lit ?_
        refine ls_ex (some 52) (.int .i64 (c + 1)) rfl rfl (exec_add _ _ _ _ rfl c 1 (c + 1) rfl rfl (IntWalk.i64_in _ (by omega))) ?_
        go_frame
        refine ls_ex (some 12) (.int .i64 (c + 1)) rfl rfl (exec_move _ rfl (.int .i64 (c + 1)) rfl) ?_
        go_frame
        refine wpList_nil ?_
        go_wp2_with fail
        go_roundw
        case rel => exact ⟨c + 1, r, cs1, D1, of, R, by omega, by go_num, rfl, HR2, HT1, hL, h5, hG⟩
        case measure => simp [intOf] <;> omega
      · obtain ⟨we, rfl⟩ : ∃ z : World, z = wr := ⟨_, rfl⟩
        have HRg := Lib.hid (rkI_rg (C := C) (show 0 < p by omega) HR0.out c)
        rw [HRk.out] at HRg
        have HR1 : Hid (Rg p n C R) := Lib.hid HRg.out.1
        have hrn : r ≤ n := HRg.out.2
        obtain ⟨M, hM⟩ : ∃ z9, r + z9 = n := ⟨n - r, by omega⟩
        obtain ⟨P, hP⟩ : ∃ z9, pv R n r c = z9 := ⟨_, rfl⟩
        have hPb := pv_bd (R := R) (c := c) hrn
        rw [hP] at hPb hpz
        have HPv := Lib.hid hP
        clear HRg hP
        have hPn : P < n := by omega
        obtain ⟨PV, hPV⟩ : ∃ z9 : Int, pvV P n r = z9 := ⟨_, rfl⟩
        have HIf := Lib.hid hPV
        have hPVv : PV = (P : Int) - r := by rw [← hPV, pvV, if_neg (by omega)]
        clear hPV
        have hr : r < n := by omega
        obtain ⟨M2, hM2⟩ : ∃ z9, r + 1 + z9 = n := ⟨n - (r + 1), by omega⟩
        obtain ⟨oP, hoP⟩ : ∃ z9, of P = z9 := ⟨_, rfl⟩
        obtain ⟨oR, hoR⟩ : ∃ z9, of r = z9 := ⟨_, rfl⟩
        have HcP : Hid (cs1[0 + P * 1]? = some (.slice (some ⟨G, oP, none⟩) C C)) := Lib.hid (by rw [Nat.zero_add, Nat.mul_one, ← hoP]; exact HT1.out.cell P hPn)
        have HcR : Hid (cs1[0 + r * 1]? = some (.slice (some ⟨G, oR, none⟩) C C)) := Lib.hid (by rw [Nat.zero_add, Nat.mul_one, ← hoR]; exact HT1.out.cell r hr)
        obtain ⟨cs2, hcs2⟩ : ∃ z9, cs1.setIfInBounds (0 + r * 1) (.slice (some ⟨G, oP, none⟩) C C) = z9 := ⟨_, rfl⟩
        obtain ⟨cs3, hcs3⟩ : ∃ z9, cs2.setIfInBounds (0 + P * 1) (.slice (some ⟨G, oR, none⟩) C C) = z9 := ⟨_, rfl⟩
        have HSz1 : Hid (0 + r * 1 < cs1.size) := Lib.hid (Array.getElem?_eq_some_iff.1 HcR.out).1
        have HSz2 : Hid (0 + P * 1 < cs2.size) := Lib.hid (by rw [← hcs2, Array.size_setIfInBounds]; exact (Array.getElem?_eq_some_iff.1 HcP.out).1)
        obtain ⟨of2, hof2⟩ : ∃ z9 : Nat → Nat, (fun i => if i = P then of r else if i = r then of P else of i) = z9 := ⟨_, rfl⟩
        have HT2 : Hid (TabP cs3 D1 G of2 n C (swp R r P)) := Lib.hid (by have h9 := HT1.out.swap hr hPn; rw [hof2, hoP, hoR] at h9; rw [← hcs3, ← hcs2]; simpa only [Nat.zero_add, Nat.mul_one] using h9)
        have HoR2 : Hid (of2 r = oP) := Lib.hid (by rw [← hof2]; exact swpN_at hoP)
        have HcR2 : Hid (cs3[0 + r * 1]? = some (.slice (some ⟨G, oP, none⟩) C C)) := Lib.hid (by rw [Nat.zero_add, Nat.mul_one, ← HoR2.out]; exact HT2.out.cell r hr)
        have HRg2 : Hid (Rg p n C (swp R r P)) := Lib.hid (HR1.out.swp hr hPn)
        have HPw : Hid (IntKind.i64.wrap ((r : Int) + PV) = (P : Int)) := Lib.hid (by rw [hPVv, IntWalk.i64_in _ (by omega)]; omega)
        have HR2 : Hid (rkI p n C R0 (c + 1) = (clI p C (swp R r P) r c n, r + 1)) := Lib.hid (by rw [rkI, HRk.out]; unfold stI; simp only [HPv.out]; rw [if_neg (by omega)])
        have Hcs2 := Lib.hid hcs2
        have Hcs3 := Lib.hid hcs3
        clear hoP hoR hcs2 hcs3 hof2
        go_upto_region 3 with (fail)
        refine wp_region_lit ?_
        refine ls_ex (some 13) (.bool true) rfl rfl (exec_lss _ _ _ _ rfl c C rfl rfl true (decide_eq_true (by omega))) ?_
        go_frame
        refine wpList_nil ?_
        go_upto_region 4 with (fail)
        refine wp_region_lit ?_
        refine ls_ex (some 14) (.int .i64 c) rfl rfl (exec_move _ rfl (.int .i64 c) rfl) ?_
        go_frame
        refine ls_op rfl (fun K' hK' => ?_)
        have lz14 := h5.lt
        have lz15 := hG.lt
        refine wp_new (some 8) rfl (alRk_int64 rfl) (fun Wz16 nnz17 => ?_)
        have bz18 := nnz17.below (Below.refl _ _) (Nat.le_refl _)
        replace hL := hL.trans (below_mono bz18 (by omega))
        replace h5 := h5.after bz18
        replace hG := hG.after bz18
        have hz19 : At Wz16 we.heap.size (.cells #[.int .i64 0] 2 (0, 0)) := nnz17.at_
        refine hK' _ _ ?_
        clear hK' K' nnz17 bz18
        go_frame
        refine ls_op rfl (fun K' hK' => ?_)
        refine wp_store_one 2 _ _ rfl rfl we.heap.size 0 rfl (.int .i64 c) rfl rfl rfl _ _ hz19 (by kernel_rfl) (by simp) (fun Wz20 pz21 => ?_)
        replace hL := pz21.below hL (by omega)
        replace h5 := pz21.other h5 (by omega)
        replace hG := pz21.other hG (by omega)
        replace hz19 : At Wz20 we.heap.size (.cells #[.int .i64 c] 2 (0, 0)) := pz21.at_
        refine hK' _ _ ?_
        clear hK' K' pz21
        refine wpList_nil ?_
        go_upto_region 5 with (fail)
        refine wp_region_lit ?_
        refine ls_ex (some 15) (.slice (some ⟨g, 0, none⟩) n cg) rfl rfl (exec_move _ rfl (.slice (some ⟨g, 0, none⟩) n cg) rfl) ?_
        go_frame
        refine ls_ex (some 16) (.int .i64 r) rfl rfl (exec_move _ rfl (.int .i64 r) rfl) ?_
        go_frame
        refine ls_ex (some 17) (.slice (some (offB g cg r)) M (cg - r)) rfl rfl (exec_sliceM1 _ _ rfl g n cg r M hM rfl rfl) ?_
        go_frame
        refine ls_ex (some 18) (.func (.func 73) #[] #[.pointer (some ⟨we.heap.size, 0, none⟩)]) rfl rfl (exec_mkfn1 _ _ rfl _ rfl) ?_
        go_frame
        refine ls_op rfl (fun K' hK' => ?_)
        have lz24 := h5.lt
        have lz25 := hG.lt
        have lz26 := hz19.lt
        refine wp_call2 (some 19) rfl 72 _ _ _ rfl (fun args w => by kernel_rfl) _ _ rfl rfl _ (indexRk_c (some (offB g cg r)) g G n C r c we.heap.size M (cg - r) of cs1 D1 R _ h5 hG hz19 HT1.out hM (fun h9 => offB_lt (by omega)) hc hn P HPv.out) (fun e Wz22 h => ?_)
        obtain ⟨rfl, rfl⟩ := h
        rw [HIf.out]
        refine ⟨_, rfl, ?_⟩
        refine hK' _ _ ?_
        clear hK' K'
        go_frame
        refine ls_ex (some 9) (.int .i64 PV) rfl rfl (exec_assign _ rfl (.int .i64 PV) rfl) ?_
        go_frame
        refine wpList_nil ?_
        go_upto_region 6 with (fail)
        refine wp_region_lit ?_
        refine ls_ex (some 20) (.int .i64 PV) rfl rfl (exec_move _ rfl (.int .i64 PV) rfl) ?_
        go_frame
        refine ls_ex (some 21) (.bool false) rfl rfl (exec_lss _ _ _ _ rfl PV 0 rfl rfl false (decide_eq_false (by omega))) ?_
        go_frame
        refine wpList_nil ?_
        go_upto_region 7 with (fail)
        refine wp_region_lit ?_
        refine ls_ex (some 22) (.int .i64 r) rfl rfl (exec_move _ rfl (.int .i64 r) rfl) ?_
        go_frame
        refine ls_ex (some 23) (.int .i64 PV) rfl rfl (exec_move _ rfl (.int .i64 PV) rfl) ?_
        go_frame
        refine ls_ex (some 24) (.int .i64 P) rfl rfl (exec_add _ _ _ _ rfl r PV P rfl rfl HPw.out) ?_
        go_frame
        refine ls_ex (some 10) (.int .i64 P) rfl rfl (exec_assign _ rfl (.int .i64 P) rfl) ?_
        go_frame
        refine wpList_nil ?_
        go_upto_region 8 with (fail)
        refine wp_region_y (zs := [13, 15]) (S := fun w' => True) (S2 := fun w' => At w' g (.cells cs1 90 (0, 0))) (by kernel_rfl) ?_
        change wpAnyY _ _ _ _ _ _ _ _ _ _ (World.drew _)
        generalize hwdz27 : World.drew _ = wdz27
        replace hL : Below L w wdz27 := by rw [← hwdz27]; exact hL.drew
        replace h5 : At wdz27 g (.cells cs1 90 (0, 0)) := by rw [← hwdz27]; exact h5
        replace hG : At wdz27 G (.cells D1 tG (0, 0)) := by rw [← hwdz27]; exact hG
        replace hz19 : At wdz27 we.heap.size (.cells #[.int .i64 c] 2 (0, 0)) := by rw [← hwdz27]; exact hz19
        clear hwdz27
        refine y_yield 0 (some 25) (.slice (some ⟨g, 0, none⟩) n cg) rfl (by kernel_rfl) (by kernel_rfl) (by kernel_rfl) (fun _ _ _ h => h) rfl rfl trivial (fun w' h' => exec_move _ rfl (.slice (some ⟨g, 0, none⟩) n cg) rfl) ?_
        go_frame
        refine y_yield 1 (some 26) (.int .i64 r) rfl (by kernel_rfl) (by kernel_rfl) (by kernel_rfl) (fun _ _ _ h => h) rfl rfl trivial (fun w' h' => exec_move _ rfl (.int .i64 r) rfl) ?_
        go_frame
        refine y_yield 2 (some 27) (.slice (some ⟨g, 0, none⟩) n cg) rfl (by kernel_rfl) (by kernel_rfl) (by kernel_rfl) (fun _ _ _ h => h) rfl rfl trivial (fun w' h' => exec_move _ rfl (.slice (some ⟨g, 0, none⟩) n cg) rfl) ?_
        go_frame
        refine y_yield 3 (some 28) (.int .i64 P) rfl (by kernel_rfl) (by kernel_rfl) (by kernel_rfl) (fun _ _ _ h => h) rfl rfl trivial (fun w' h' => exec_move _ rfl (.int .i64 P) rfl) ?_
        go_frame
        refine y_yield 4 (some 29) (.slice (some ⟨g, 0, none⟩) n cg) rfl (by kernel_rfl) (by kernel_rfl) (by kernel_rfl) (fun _ _ _ h => h) rfl rfl trivial (fun w' h' => exec_move _ rfl (.slice (some ⟨g, 0, none⟩) n cg) rfl) ?_
        go_frame
        refine y_yield 5 (some 30) (.int .i64 P) rfl (by kernel_rfl) (by kernel_rfl) (by kernel_rfl) (fun _ _ _ h => h) rfl rfl trivial (fun w' h' => exec_move _ rfl (.int .i64 P) rfl) ?_
        go_frame
        refine y_yield 6 (some 31) (.pointer (some ⟨g, 0 + P * 1, none⟩)) rfl (by kernel_rfl) (by kernel_rfl) (by kernel_rfl) (fun _ _ _ h => h) rfl rfl trivial (fun w' h' => exec_index_slice _ 90 _ _ rfl g 0 n cg P 1 rfl rfl Try.underlying88 (by kernel_rfl) (by omega)) ?_
        go_frame
        refine y_yield3 7 (some 32) (.slice (some ⟨G, oP, none⟩) C C) rfl 16 (by kernel_rfl) (by kernel_rfl) (by kernel_rfl) (by kernel_rfl) (by kernel_rfl) (fun _ _ _ h => h) rfl rfl trivial h5 (fun w' h' h2' => exec_load_one 90 _ rfl g (0 + P * 1) rfl (.slice (some ⟨G, oP, none⟩) C C) _ Try.underlying90 rfl (cellA h2' HcP.out)) ?_
        go_frame
        refine y_yield 8 (some 33) (.slice (some ⟨g, 0, none⟩) n cg) rfl (by kernel_rfl) (by kernel_rfl) (by kernel_rfl) (fun _ _ _ h => h) rfl rfl trivial (fun w' h' => exec_move _ rfl (.slice (some ⟨g, 0, none⟩) n cg) rfl) ?_
        go_frame
        refine y_yield 9 (some 34) (.int .i64 r) rfl (by kernel_rfl) (by kernel_rfl) (by kernel_rfl) (fun _ _ _ h => h) rfl rfl trivial (fun w' h' => exec_move _ rfl (.int .i64 r) rfl) ?_
        go_frame
        refine y_yield 10 (some 35) (.pointer (some ⟨g, 0 + r * 1, none⟩)) rfl (by kernel_rfl) (by kernel_rfl) (by kernel_rfl) (fun _ _ _ h => h) rfl rfl trivial (fun w' h' => exec_index_slice _ 90 _ _ rfl g 0 n cg r 1 rfl rfl Try.underlying88 (by kernel_rfl) (by omega)) ?_
        go_frame
        refine y_yield3 11 (some 36) (.slice (some ⟨G, oR, none⟩) C C) rfl 16 (by kernel_rfl) (by kernel_rfl) (by kernel_rfl) (by kernel_rfl) (by kernel_rfl) (fun _ _ _ h => h) rfl rfl trivial h5 (fun w' h' h2' => exec_load_one 90 _ rfl g (0 + r * 1) rfl (.slice (some ⟨G, oR, none⟩) C C) _ Try.underlying90 rfl (cellA h2' HcR.out)) ?_
        go_frame
        refine y_yield 12 (some 37) (.pointer (some ⟨g, 0 + r * 1, none⟩)) rfl (by kernel_rfl) (by kernel_rfl) (by kernel_rfl) (fun _ _ _ h => h) rfl rfl trivial (fun w' h' => exec_index_slice _ 90 _ _ rfl g 0 n cg r 1 rfl rfl Try.underlying88 (by kernel_rfl) (by omega)) ?_
        go_frame
        refine y_oper 13 (by kernel_rfl) rfl rfl (fun K' hK' => ?_)
        have lz30 := h5.lt
        have lz31 := hG.lt
        have lz32 := hz19.lt
        refine wp_store_one 90 _ _ rfl rfl g (0 + r * 1) rfl (.slice (some ⟨G, oP, none⟩) C C) rfl rfl rfl _ _ h5 (by kernel_rfl) HSz1.out (fun Wz28 pz29 => ?_)
        replace hL := pz29.below hL (by omega)
        replace hG := pz29.other hG (by omega)
        replace hz19 := pz29.other hz19 (by omega)
        replace h5 := pz29.at_
        rw [Hcs2.out] at h5
        refine hK' _ _ trivial (fun h => absurd (by decide) h) ?_
        clear hK' K' pz29
        refine y_yield 14 (some 38) (.pointer (some ⟨g, 0 + P * 1, none⟩)) rfl (by kernel_rfl) (by kernel_rfl) (by kernel_rfl) (fun _ _ _ h => h) rfl rfl trivial (fun w' h' => exec_index_slice _ 90 _ _ rfl g 0 n cg P 1 rfl rfl Try.underlying88 (by kernel_rfl) (by omega)) ?_
        go_frame
        refine y_oper 15 (by kernel_rfl) rfl rfl (fun K' hK' => ?_)
        have lz35 := h5.lt
        have lz36 := hG.lt
        have lz37 := hz19.lt
        refine wp_store_one 90 _ _ rfl rfl g (0 + P * 1) rfl (.slice (some ⟨G, oR, none⟩) C C) rfl rfl rfl _ _ h5 (by kernel_rfl) HSz2.out (fun Wz33 pz34 => ?_)
        replace hL := pz34.below hL (by omega)
        replace hG := pz34.other hG (by omega)
        replace hz19 := pz34.other hz19 (by omega)
        replace h5 := pz34.at_
        rw [Hcs3.out] at h5
        refine hK' _ _ trivial (fun h => absurd (by decide) h) ?_
        clear hK' K' pz34
        refine y_done (by kernel_rfl) ?_ _
        go_upto_region 9 with (fail)
        refine wp_region_y (zs := [10]) (S := fun w' => At w' g (.cells cs3 90 (0, 0)) ∧ At w' we.heap.size (.cells #[.int .i64 c] 2 (0, 0))) (S2 := fun w' => True) (by kernel_rfl) ?_
        change wpAnyY _ _ _ _ _ _ _ _ _ _ (World.drew _)
        generalize hwdz38 : World.drew _ = wdz38
        replace hL : Below L w wdz38 := by rw [← hwdz38]; exact hL.drew
        replace h5 : At wdz38 g (.cells cs3 90 (0, 0)) := by rw [← hwdz38]; exact h5
        replace hG : At wdz38 G (.cells D1 tG (0, 0)) := by rw [← hwdz38]; exact hG
        replace hz19 : At wdz38 we.heap.size (.cells #[.int .i64 c] 2 (0, 0)) := by rw [← hwdz38]; exact hz19
        clear hwdz38
        refine y_yield 0 (some 39) (.int .u8 p) rfl (by kernel_rfl) (by kernel_rfl) (by kernel_rfl) (fun _ _ _ h => h) rfl rfl ⟨h5, hz19⟩ (fun w' h' => exec_move _ rfl (.int .u8 p) rfl) ?_
        go_frame
        refine y_yield 1 (some 40) (.slice (some ⟨g, 0, none⟩) n cg) rfl (by kernel_rfl) (by kernel_rfl) (by kernel_rfl) (fun _ _ _ h => h) rfl rfl ⟨h5, hz19⟩ (fun w' h' => exec_move _ rfl (.slice (some ⟨g, 0, none⟩) n cg) rfl) ?_
        go_frame
        refine y_yield 2 (some 41) (.int .i64 r) rfl (by kernel_rfl) (by kernel_rfl) (by kernel_rfl) (fun _ _ _ h => h) rfl rfl ⟨h5, hz19⟩ (fun w' h' => exec_move _ rfl (.int .i64 r) rfl) ?_
        go_frame
        refine y_yield 3 (some 42) (.pointer (some ⟨g, 0 + r * 1, none⟩)) rfl (by kernel_rfl) (by kernel_rfl) (by kernel_rfl) (fun _ _ _ h => h) rfl rfl ⟨h5, hz19⟩ (fun w' h' => exec_index_slice _ 90 _ _ rfl g 0 n cg r 1 rfl rfl Try.underlying88 (by kernel_rfl) (by omega)) ?_
        go_frame
        refine y_yield 4 (some 43) (.slice (some ⟨G, oP, none⟩) C C) rfl (by kernel_rfl) (by kernel_rfl) (by kernel_rfl) (fun _ _ _ h => h) rfl rfl ⟨h5, hz19⟩ (fun w' h' => exec_load_one 90 _ rfl g (0 + r * 1) rfl (.slice (some ⟨G, oP, none⟩) C C) _ Try.underlying90 rfl (cellA h'.1 HcR2.out)) ?_
        go_frame
        refine y_yield 5 (some 44) (.slice (some ⟨g, 0, none⟩) n cg) rfl (by kernel_rfl) (by kernel_rfl) (by kernel_rfl) (fun _ _ _ h => h) rfl rfl ⟨h5, hz19⟩ (fun w' h' => exec_move _ rfl (.slice (some ⟨g, 0, none⟩) n cg) rfl) ?_
        go_frame
        refine y_yield 6 (some 45) (.int .i64 r) rfl (by kernel_rfl) (by kernel_rfl) (by kernel_rfl) (fun _ _ _ h => h) rfl rfl ⟨h5, hz19⟩ (fun w' h' => exec_move _ rfl (.int .i64 r) rfl) ?_
        go_frame
        refine y_yield 7 (some 46) (.int .i64 (r + 1 : Nat)) rfl (by kernel_rfl) (by kernel_rfl) (by kernel_rfl) (fun _ _ _ h => h) rfl rfl ⟨h5, hz19⟩ (fun w' h' => exec_add _ _ _ _ rfl r 1 (r + 1 : Nat) rfl rfl (IntWalk.i64_in _ (by omega))) ?_
        go_frame
        refine y_yield 8 (some 47) (.slice (some (offB g cg (r + 1))) M2 (cg - (r + 1))) rfl (by kernel_rfl) (by kernel_rfl) (by kernel_rfl) (fun _ _ _ h => h) rfl rfl ⟨h5, hz19⟩ (fun w' h' => exec_sliceM1 _ _ rfl g n cg (r + 1) M2 hM2 rfl rfl) ?_
        go_frame
        refine y_yield 9 (some 48) (.int .i64 c) rfl (by kernel_rfl) (by kernel_rfl) (by kernel_rfl) (fun _ _ _ h => h) rfl rfl ⟨h5, hz19⟩ (fun w' h' => exec_load_one 2 _ rfl we.heap.size 0 rfl (.int .i64 c) _ Try.underlying2 rfl (h'.2.at_ 0)) ?_
        go_frame
        refine y_oper 10 (by kernel_rfl) rfl rfl (fun K' hK' => ?_)
        have lz41 := h5.lt
        have lz42 := hG.lt
        have lz43 := hz19.lt
        refine wp_call4 (some 49) rfl 74 _ _ _ _ _ rfl (fun args w => by kernel_rfl) _ _ _ _ rfl rfl rfl rfl _ (clear_c p g G n C r c oP of2 (some (offB g cg (r + 1))) M2 (cg - (r + 1)) cs3 D1 (swp R r P) _ hp5 h5 hG hgG HT2.out HRg2.out hr HoR2.out hc hM2 (fun h9 => offB_lt (by omega)) hn hC) (fun e Wz39 h => ?_)
        obtain ⟨rfl, D3, pz40, hT3⟩ := h
        have HT3 := Lib.hid hT3
        clear hT3
        replace hL := pz40.below hL (by omega)
        replace h5 := pz40.other h5 (by omega)
        replace hz19 := pz40.other hz19 (by omega)
        replace hG := pz40.at_
        refine ⟨_, rfl, ?_⟩
        refine hK' _ _ ⟨h5, hz19⟩ (fun h => absurd (by decide) h) ?_
        clear hK' K' pz40
        go_frame
        refine y_done (by kernel_rfl) ?_ _
        go_upto_region 10 with (fail)
        refine wp_region_lit ?_
        refine ls_ex (some 50) (.int .i64 r) rfl rfl (exec_move _ rfl (.int .i64 r) rfl) ?_
        go_frame
        refine ls_ex (some 51) (.int .i64 (r + 1)) rfl rfl (exec_add _ _ _ _ rfl r 1 (r + 1) rfl rfl (IntWalk.i64_in _ (by omega))) ?_
        go_frame
        refine ls_ex (some 7) (.int .i64 (r + 1)) rfl rfl (exec_assign _ rfl (.int .i64 (r + 1)) rfl) ?_
        go_frame
        refine wpList_nil ?_
        go_upto_region 11 with (fail)
        refine wp_region_lit ?_
        refine ls_ex (some 52) (.int .i64 (c + 1)) rfl rfl (exec_add _ _ _ _ rfl c 1 (c + 1) rfl rfl (IntWalk.i64_in _ (by omega))) ?_
        go_frame
        refine ls_ex (some 12) (.int .i64 (c + 1)) rfl rfl (exec_move _ rfl (.int .i64 (c + 1)) rfl) ?_
        go_frame
        refine wpList_nil ?_
        go_wp2_with fail
        go_roundw
        case rel => exact ⟨c + 1, r + 1, cs3, D3, of2, _, by omega, by go_num, by go_num, HR2, HT3, hL, h5, hG⟩
        case measure => simp [intOf] <;> omega
    · have HRz : Hid ((rkI p n C R0 C).2 = r) := Lib.hid (by have h9 := HRk.out; rw [show c = C by omega] at h9; rw [h9])
      go_upto_region 3 with (fail)
      refine wp_region_lit ?_
      refine ls_ex (some 13) (.bool false) rfl rfl (exec_lss _ _ _ _ rfl c C rfl rfl false (decide_eq_false (by omega))) ?_
      go_frame
      refine wpList_nil ?_
      go_upto_region 12 with (fail)
      refine wp_region_lit ?_
      refine ls_ex (some 53) (.int .i64 r) rfl rfl (exec_move _ rfl (.int .i64 r) rfl) ?_
      go_frame
      refine ls_ex (some 6) (.int .i64 r) rfl rfl (exec_assign _ rfl (.int .i64 r) rfl) ?_
      go_frame
      refine wpList_nil ?_
      go_wp2_with fail
      go_ret
      exact ⟨by rw [HRz.out]; rfl, hL⟩
end Go.Proofs.Ytebmkmkhfhmfbaa.B
