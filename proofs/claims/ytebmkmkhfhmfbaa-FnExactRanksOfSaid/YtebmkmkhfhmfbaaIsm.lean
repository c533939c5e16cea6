/-
  impl.isMatrix: slices.ContainsFunc over rows by its literal. (Made by mkism.py.)
-/
import Derived.Test.YtebmkmkhfhmfbaaMat1
import Derived.Test.YtebmkmkhfhmfbaaTen3
import Derived.Test.YtebmkmkhfhmfbaaAre
namespace Go.Proofs.Ytebmkmkhfhmfbaa
open Go.RowKit
set_option maxRecDepth 100000
attribute [local irreducible] wpList
set_option maxHeartbeats 4000000 in
theorem isMatrix1_c (p n m : Int) (gp gs : Nat) (A : Option Addr) (c : Nat) (xs : List Int) (w : World) (hgp : At w gp (.cells #[.int .i64 p] 2 (0, 0))) (hgs : At w gs (.cells #[.int .i64 n, .int .i64 m] 52 (0, 0))) (hr : RdI w A xs) (hn : xs.length ≤ 1048576) :
    Calls Try.prog 58 #[.slice A xs.length c, .pointer (some ⟨gp, 0, none⟩), .pointer (some ⟨gs, 0, none⟩)] w (fun e w' => e = .returned (.bool (!listB p m xs)) ∧ Below w.heap.size w w') := by
  have hB := Below.refl w.heap.size w
  skip
  go_enter Try.func58, Try.ntmps58
  go_upto_region 0 with (fail)
  refine wp_region_lit ?_
  refine ls_ex (some 4) (.bool false) rfl rfl (exec_assign _ rfl (.bool false) rfl) ?_
  go_frame
  refine wpList_nil ?_
  go_upto_region 1 with (fail)
  refine wp_region_lit ?_
  refine ls_ex (some 5) (.int .i64 p) rfl rfl (exec_load_one 2 _ rfl gp 0 rfl (.int .i64 p) _ Try.underlying2 rfl (hgp.at_ 0)) ?_
  go_frame
  refine ls_ex (some 6) (.pointer (some ⟨gs, 1, none⟩)) rfl rfl (exec_fieldAddr 52 _ 1 rfl _ (by kernel_rfl)) ?_
  go_frame
  refine ls_ex (some 7) (.int .i64 m) rfl rfl (exec_load_one 2 _ rfl gs 1 rfl (.int .i64 m) _ Try.underlying2 rfl (hgs.at_ 1)) ?_
  go_frame
  refine ls_ex (some 8) (.slice A xs.length c) rfl rfl (exec_move _ rfl (.slice A xs.length c) rfl) ?_
  go_frame
  refine ls_op rfl (fun K' hK' => ?_)
  have lz3 := hB.size
  have lz4 := hgp.lt
  have lz5 := hgs.lt
  refine wp_call3 (some 9) rfl 59 _ _ _ _ rfl (fun args w => by kernel_rfl) _ _ _ rfl rfl rfl _ (isList_c A c p m xs _ (hr.keep hB) hn) (fun e Wz1 h => ?_)
  obtain ⟨rfl, bz2⟩ := h
  replace hB := below_after hB bz2
  replace hgp := hgp.after bz2
  replace hgs := hgs.after bz2
  clear bz2
  refine ⟨_, rfl, ?_⟩
  refine hK' _ _ ?_
  clear hK' K'
  go_frame
  refine ls_ex (some 10) (.bool (!(listB p m xs))) rfl rfl (exec_not _ _ rfl ((listB p m xs)) rfl) ?_
  go_frame
  refine ls_ex (some 4) (.bool (!(listB p m xs))) rfl rfl (exec_assign _ rfl (.bool (!(listB p m xs))) rfl) ?_
  go_frame
  refine wpList_nil ?_
  go_wp2_with fail
  go_ret
  exact ⟨rfl, hB⟩
def rowsL (p m : Int) (row : Nat → List Int) (a : Nat) : Bool := (List.range a).all fun i => listB p m (row i)
/-- Where a list has a row that is none, or -1. -/
def IdxRow (p m : Int) (N : Nat) (row : Nat → List Int) (r : Int) : Prop := (r = -1 ∧ rowsL p m row N = true) ∨ (0 ≤ r ∧ rowsL p m row N = false)
theorem rowsL_step {p m : Int} {row : Nat → List Int} {a : Nat} (h1 : rowsL p m row a = true) (h2 : listB p m (row a) = true) : rowsL p m row (a + 1) = true := by
  unfold rowsL at *
  rw [List.range_succ, List.all_append, h1]
  simp [h2]
theorem rowsL_no {p m : Int} {N : Nat} {row : Nat → List Int} {i : Nat} (hi : i < N) (h : listB p m (row i) = false) : rowsL p m row N = false := by
  unfold rowsL
  rw [List.all_eq_false]
  exact ⟨i, List.mem_range.2 hi, by simp [h]⟩
set_option maxHeartbeats 1600000 in
theorem indexRow_c (p n m : Int) (gp gs : Nat) (A : Option Addr) (c N : Nat) (row : Nat → List Int) (w : World) (hr : RdM w A N row) (hN : N ≤ 1048576) (hrow : ∀ i, i < N → (row i).length ≤ 1048576) (hgp : At w gp (.cells #[.int .i64 p] 2 (0, 0))) (hgs : At w gs (.cells #[.int .i64 n, .int .i64 m] 52 (0, 0))) :
    Calls Try.prog 60 #[.slice A N c, .func (.func 58) #[] #[.pointer (some ⟨gp, 0, none⟩), .pointer (some ⟨gs, 0, none⟩)]] w fun e w' => ∃ r, e = .returned (.int .i64 r) ∧ IdxRow p m N row r ∧ Below w.heap.size w w' := by
  go_enter Try.func60, Try.ntmps60
  go_wp2_with fail
  go_loopw [8] (fun v wr => ∃ a : Nat, a ≤ N ∧ v = .int .i64 a ∧ Hid (rowsL p m row a = true) ∧ Below w.heap.size w wr) (fun v _ => N - (intOf v).toNat)
  case atStart => exact ⟨0, by omega, rfl, Lib.hid rfl, Below.refl _ _⟩
  case round =>
    obtain ⟨a, ha, rfl, HO, hB⟩ := hrel
    by_cases hlt : a < N
    · obtain ⟨b, off, B, cB, rfl, hc, hI⟩ := (hr.keep hB).at_ hlt
      have e0 : IntKind.i64.wrap ((a : Int) + 1) = (a : Int) + 1 := IntWalk.i64_in _ (by omega)
      have hlt' : (a : Int) < (N : Int) := by omega
      have HC := Lib.hid (isMatrix1_c p n m gp gs B cB (row a) wr (hgp.after hB) (hgs.after hB) hI (hrow a hlt))
      cases hb : listB p m (row a) with
      | false =>
        have Hno : Hid (IdxRow p m N row a) := Lib.hid (.inr ⟨by omega, rowsL_no hlt hb⟩)
        rw [hb] at HC
        clear hb hr hgp hgs hI
        go_wp2_with fail
        refine HC.out.mono ?_
        rintro e w' ⟨rfl, b1⟩
        go_wp2_with fail
        go_ret
        exact ⟨_, rfl, Hno.out, below_after hB b1⟩
      | true =>
        have Hstep : Hid (rowsL p m row (a + 1) = true) := Lib.hid (rowsL_step HO.out hb)
        rw [hb] at HC
        clear hb hr hgp hgs hI
        go_wp2_with fail
        refine HC.out.mono ?_
        rintro e w' ⟨rfl, b1⟩
        go_wp2_with fail
        exact ⟨⟨a + 1, by omega, by go_num, Hstep, below_after hB b1⟩, by simp [intOf]; omega⟩
    · have Hyes : Hid (IdxRow p m N row (-1)) := Lib.hid (.inl ⟨rfl, by have h := HO.out; rw [show a = N by omega] at h; exact h⟩)
      have hlt' : ¬ (a : Int) < (N : Int) := by omega
      clear hr hgp hgs
      go_wp2_with fail
      go_ret
      exact ⟨_, rfl, Hyes.out, hB⟩
theorem containsRow_c (p n m : Int) (gp gs : Nat) (A : Option Addr) (c N : Nat) (row : Nat → List Int) (w : World) (hr : RdM w A N row) (hN : N ≤ 1048576) (hrow : ∀ i, i < N → (row i).length ≤ 1048576) (hgp : At w gp (.cells #[.int .i64 p] 2 (0, 0))) (hgs : At w gs (.cells #[.int .i64 n, .int .i64 m] 52 (0, 0))) :
    Calls Try.prog 57 #[.slice A N c, .func (.func 58) #[] #[.pointer (some ⟨gp, 0, none⟩), .pointer (some ⟨gs, 0, none⟩)]] w fun e w' => e = .returned (.bool (!(rowsL p m row N))) ∧ Below w.heap.size w w' := by
  have HC := Lib.hid (indexRow_c p n m gp gs A c N row w hr hN hrow hgp hgs)
  clear hr hgp hgs
  go_enter Try.func57, Try.ntmps57
  go_wp2_with fail
  refine HC.out.mono ?_
  rintro e w' ⟨r, rfl, hr, b1⟩
  rcases hr with ⟨rfl, hb⟩ | ⟨h0, hb⟩
  · have Hb := Lib.hid hb
    clear hb
    go_wp2_with fail
    go_ret
    exact ⟨by rw [Hb.out]; rfl, b1⟩
  · have Hb := Lib.hid hb
    have hd : decide (0 ≤ r) = true := by simp only [decide_eq_true_eq]; exact h0
    clear hb h0
    go_wp2_with fail
    go_ret
    exact ⟨by rw [Hb.out]; rfl, b1⟩
set_option maxHeartbeats 4000000 in
theorem isMatrixR_no (p n m : Int) (A : Option Addr) (c N : Nat) (row : Nat → List Int) (w : World) (hr : RdM w A N row) (hN : N ≤ 1048576) (hrow : ∀ i, i < N → (row i).length ≤ 1048576) (hn : (N : Int) ≠ n) :
    Calls Try.prog 39 #[.int .i64 p, .agg #[.int .i64 n, .int .i64 m], .slice A N c] w (fun e w' => e = .returned (.bool (decide ((N : Int) = n) && rowsL p m row N)) ∧ Below w.heap.size w w') := by
  have hB := Below.refl w.heap.size w
  have HV : Hid ((decide ((N : Int) = n) && rowsL p m row N) = false) := Lib.hid (by simp [hn])
  have Hne : Hid ((((N : Nat) : Int) != n) = true) := Lib.hid (by simp [hn])
  clear hn hr
  go_enter Try.func39, Try.ntmps39
  go_upto_region 0 with (fail)
  refine wp_region_lit ?_
  refine ls_op rfl (fun K' hK' => ?_)
  have lz1 := hB.size
  refine wp_new (some 3) rfl (exec_box 2 _ rfl (#[.int .i64 p]) rfl) (fun Wz2 nnz3 => ?_)
  have bz4 := nnz3.below (Below.refl _ _) (Nat.le_refl _)
  replace hB := below_after hB bz4
  have hz5 : At Wz2 w.heap.size (.cells #[.int .i64 p] 2 (0, 0)) := nnz3.at_
  refine hK' _ _ ?_
  clear hK' K' nnz3 bz4
  go_frame
  refine ls_op rfl (fun K' hK' => ?_)
  have lz6 := hB.size
  have lz7 := hz5.lt
  refine wp_new (some 4) rfl (exec_box 52 _ rfl (#[.int .i64 n, .int .i64 m]) rfl) (fun Wz8 nnz9 => ?_)
  have bz10 := nnz9.below (Below.refl _ _) (Nat.le_refl _)
  replace hB := below_after hB bz10
  replace hz5 := hz5.after bz10
  have hz11 : At Wz8 Wz2.heap.size (.cells #[.int .i64 n, .int .i64 m] 52 (0, 0)) := nnz9.at_
  refine hK' _ _ ?_
  clear hK' K' nnz9 bz10
  go_frame
  refine ls_ex (some 6) (.bool false) rfl rfl (exec_assign _ rfl (.bool false) rfl) ?_
  go_frame
  refine wpList_nil ?_
  go_upto_region 1 with (fail)
  refine wp_region_lit ?_
  refine ls_ex (some 7) (.slice A N c) rfl rfl (exec_move _ rfl (.slice A N c) rfl) ?_
  go_frame
  refine ls_ex (some 8) (.int .i64 N) rfl rfl (exec_len _ 26 49 rfl A N c rfl Try.underlying26) ?_
  go_frame
  refine ls_ex (some 9) (.pointer (some ⟨Wz2.heap.size, 0, none⟩)) rfl rfl (exec_fieldAddr 52 _ 0 rfl _ (by kernel_rfl)) ?_
  go_frame
  refine ls_ex (some 10) (.int .i64 n) rfl rfl (exec_load_one 2 _ rfl Wz2.heap.size 0 rfl (.int .i64 n) _ Try.underlying2 rfl (hz11.at_ 0)) ?_
  go_frame
  refine ls_ex (some 11) (.bool true) rfl rfl (exec_neq _ _ _ _ rfl N n rfl rfl true Hne.out) ?_
  go_frame
  refine wpList_nil ?_
  go_upto_region 2 with (fail)
  refine wp_region_lit ?_
  refine ls_ex (some 6) (.bool false) rfl rfl (exec_assign _ rfl (.bool false) rfl) ?_
  go_frame
  refine wpList_nil ?_
  go_wp2_with fail
  go_ret
  exact ⟨by rw [HV.out]; rfl, hB⟩
set_option maxHeartbeats 4000000 in
theorem isMatrixR_yes (p n m : Int) (A : Option Addr) (c N : Nat) (row : Nat → List Int) (w : World) (hr : RdM w A N row) (hN : N ≤ 1048576) (hrow : ∀ i, i < N → (row i).length ≤ 1048576) (hn : (N : Int) = n) :
    Calls Try.prog 39 #[.int .i64 p, .agg #[.int .i64 n, .int .i64 m], .slice A N c] w (fun e w' => e = .returned (.bool (decide ((N : Int) = n) && rowsL p m row N)) ∧ Below w.heap.size w w') := by
  have hB := Below.refl w.heap.size w
  have HV : Hid ((decide ((N : Int) = n) && rowsL p m row N) = rowsL p m row N) := Lib.hid (by simp [hn])
  have Hne : Hid ((((N : Nat) : Int) != n) = false) := Lib.hid (by simp [hn])
  clear hn
  go_enter Try.func39, Try.ntmps39
  go_upto_region 0 with (fail)
  refine wp_region_lit ?_
  refine ls_op rfl (fun K' hK' => ?_)
  have lz1 := hB.size
  refine wp_new (some 3) rfl (exec_box 2 _ rfl (#[.int .i64 p]) rfl) (fun Wz2 nnz3 => ?_)
  have bz4 := nnz3.below (Below.refl _ _) (Nat.le_refl _)
  replace hB := below_after hB bz4
  have hz5 : At Wz2 w.heap.size (.cells #[.int .i64 p] 2 (0, 0)) := nnz3.at_
  refine hK' _ _ ?_
  clear hK' K' nnz3 bz4
  go_frame
  refine ls_op rfl (fun K' hK' => ?_)
  have lz6 := hB.size
  have lz7 := hz5.lt
  refine wp_new (some 4) rfl (exec_box 52 _ rfl (#[.int .i64 n, .int .i64 m]) rfl) (fun Wz8 nnz9 => ?_)
  have bz10 := nnz9.below (Below.refl _ _) (Nat.le_refl _)
  replace hB := below_after hB bz10
  replace hz5 := hz5.after bz10
  have hz11 : At Wz8 Wz2.heap.size (.cells #[.int .i64 n, .int .i64 m] 52 (0, 0)) := nnz9.at_
  refine hK' _ _ ?_
  clear hK' K' nnz9 bz10
  go_frame
  refine ls_ex (some 6) (.bool false) rfl rfl (exec_assign _ rfl (.bool false) rfl) ?_
  go_frame
  refine wpList_nil ?_
  go_upto_region 1 with (fail)
  refine wp_region_lit ?_
  refine ls_ex (some 7) (.slice A N c) rfl rfl (exec_move _ rfl (.slice A N c) rfl) ?_
  go_frame
  refine ls_ex (some 8) (.int .i64 N) rfl rfl (exec_len _ 26 49 rfl A N c rfl Try.underlying26) ?_
  go_frame
  refine ls_ex (some 9) (.pointer (some ⟨Wz2.heap.size, 0, none⟩)) rfl rfl (exec_fieldAddr 52 _ 0 rfl _ (by kernel_rfl)) ?_
  go_frame
  refine ls_ex (some 10) (.int .i64 n) rfl rfl (exec_load_one 2 _ rfl Wz2.heap.size 0 rfl (.int .i64 n) _ Try.underlying2 rfl (hz11.at_ 0)) ?_
  go_frame
  refine ls_ex (some 11) (.bool false) rfl rfl (exec_neq _ _ _ _ rfl N n rfl rfl false Hne.out) ?_
  go_frame
  refine wpList_nil ?_
  go_upto_region 3 with (fail)
  refine wp_region_lit ?_
  refine ls_ex (some 12) (.slice A N c) rfl rfl (exec_move _ rfl (.slice A N c) rfl) ?_
  go_frame
  refine ls_ex (some 13) (.func (.func 58) #[] #[.pointer (some ⟨w.heap.size, 0, none⟩), .pointer (some ⟨Wz2.heap.size, 0, none⟩)]) rfl rfl (exec_mkfn2p _ _ _ rfl (.pointer (some ⟨w.heap.size, 0, none⟩)) (.pointer (some ⟨Wz2.heap.size, 0, none⟩)) rfl rfl) ?_
  go_frame
  refine ls_op rfl (fun K' hK' => ?_)
  have lz14 := hB.size
  have lz15 := hz5.lt
  have lz16 := hz11.lt
  refine wp_call2 (some 14) rfl 57 _ _ _ rfl (fun args w => by kernel_rfl) _ _ rfl rfl _ (containsRow_c p n m w.heap.size Wz2.heap.size A c N row _ (hr.keep hB) hN hrow hz5 hz11) (fun e Wz12 h => ?_)
  obtain ⟨rfl, bz13⟩ := h
  replace hB := below_after hB bz13
  replace hz5 := hz5.after bz13
  replace hz11 := hz11.after bz13
  clear bz13
  refine ⟨_, rfl, ?_⟩
  refine hK' _ _ ?_
  clear hK' K'
  go_frame
  refine ls_ex (some 15) (.bool (!(!(rowsL p m row N)))) rfl rfl (exec_not _ _ rfl ((!(rowsL p m row N))) rfl) ?_
  go_frame
  refine ls_ex (some 6) (.bool (!(!(rowsL p m row N)))) rfl rfl (exec_assign _ rfl (.bool (!(!(rowsL p m row N)))) rfl) ?_
  go_frame
  refine wpList_nil ?_
  go_wp2_with fail
  go_ret
  exact ⟨by rw [HV.out]; simp, hB⟩
theorem isMatrixR_c (p n m : Int) (A : Option Addr) (c N : Nat) (row : Nat → List Int) (w : World) (hr : RdM w A N row) (hN : N ≤ 1048576) (hrow : ∀ i, i < N → (row i).length ≤ 1048576) :
    Calls Try.prog 39 #[.int .i64 p, .agg #[.int .i64 n, .int .i64 m], .slice A N c] w (fun e w' => e = .returned (.bool (decide ((N : Int) = n) && rowsL p m row N)) ∧ Below w.heap.size w w') := by
  by_cases hn : (N : Int) = n
  · exact isMatrixR_yes p n m A c N row w hr hN hrow hn
  · exact isMatrixR_no p n m A c N row w hr hN hrow hn
end Go.Proofs.Ytebmkmkhfhmfbaa
