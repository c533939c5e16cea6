/-
  spec.RestTensor. (Made by mkrts.py.)
-/
import Derived.Test.YtdbcgbbokodndaaRsp
import Derived.Test.YtdbcgbbokodndaaAdF
namespace Go.Proofs.Ytdbcgbbokodndaa
open Go.RowKit
set_option maxRecDepth 100000
theorem exec_maxR {P : Program} {o : Oper} {a : Act} {w : World} (x y : Operand) (t : TypeId) (ho : o.op = .call { callee := .builtin .max, args := #[x, y], argTypes := #[t, t] }) (m0 m1 : Int) (hx : a.eval x = .int .i64 m0) (hy : a.eval y = .int .i64 m1) (r : Int)
    (hr : (if m0 < m1 then m1 else m0) = r) : (execOp a.eval o).run P w = .ok (.value (.int .i64 r)) w := by
  subst hr
  unfold execOp
  simp only [ho, hx, hy, resolve, invoke, builtin, Sem.run_bind, Sem.run_pure, Result.andThen_ok, List.map_toArray, List.map_cons, List.map_nil]
  simp [go_sem]
  rw [Int.max_def]
  split <;> split <;> omega
theorem rep0_get {d k : Nat} (h : k < d) : (List.replicate d (0 : Int))[k]? = some 0 := by simp [h]
theorem inB_sp (x p : Int) : inB x p = (decide (0 ≤ x) && decide (x ≤ p - 1)) := by
  rw [Bool.eq_iff_iff]
  simp only [inB, Bool.and_eq_true, decide_eq_true_eq]
  omega
set_option maxHeartbeats 4000000 in
theorem l05Numbers_c (p n : Int) (Ax : Option Addr) (cx : Nat) (xs : List Int) (w : World) (hp : -1000 ≤ p ∧ p ≤ 1000) (hx : RdI w Ax xs) (hnx : xs.length ≤ 1048576) :
    Calls Try.prog 40 #[.int .i64 p, .slice Ax xs.length cx, .int .i64 n] w (fun e w' => e = .returned (.bool (numsB p xs && ((xs.length : Int) == n))) ∧ Below w.heap.size w w') := by
  have hB := Below.refl w.heap.size w
  skip
  go_enter Try.func40, Try.ntmps40
  go_upto_region 0 with (fail)
  refine wp_region_lit ?_
  refine ls_ex (some 6) (.bool false) rfl rfl (exec_assign _ rfl (.bool false) rfl) ?_
  go_frame
  refine wpList_nil ?_
  go_upto_region 1 with (fail)
  refine wp_region_lit ?_
  refine ls_ex (some 7) (.int .i64 0) rfl rfl (exec_assign _ rfl (.int .i64 0) rfl) ?_
  go_frame
  refine wpList_nil ?_
  go_wp2_with fail
  go_loopw [7] (fun s7 wr => ∃ i : Nat, i ≤ xs.length ∧ s7 = .int .i64 i ∧ Below w.heap.size w wr ∧ Hid (∀ (y : Nat) (hy : y < xs.length), y < i → inB xs[y] p = true)) (fun s7 _ => xs.length - (intOf s7).toNat)
  case atStart => exact ⟨0, by omega, rfl, hB, Lib.hid (by omega)⟩
  case round =>
    clear hB
    obtain ⟨i, hi, rfl, hB, HA⟩ := hrel
    by_cases hlt : i < xs.length
    · obtain ⟨b, off, rfl, hc⟩ := (hx.keep hB).at_ hlt
      have Hc := Lib.hid hc
      clear hc
      cases hb : inB xs[i] p with
      | false =>
        have HNo : Hid (numsB p xs = false) := Lib.hid (numsB_no hlt hb)
        have HIn : Hid ((decide (0 ≤ xs[i]) && decide (xs[i] ≤ p - 1)) = false) := Lib.hid (by rw [← inB_sp]; exact hb)
        clear hb
        go_upto_region 2 with (fail)
        refine wp_region_lit ?_
        refine ls_ex (some 8) (.int .i64 i) rfl rfl (exec_move _ rfl (.int .i64 i) rfl) ?_
        go_frame
        refine ls_ex (some 9) (.slice (some ⟨b, off, none⟩) xs.length cx) rfl rfl (exec_move _ rfl (.slice (some ⟨b, off, none⟩) xs.length cx) rfl) ?_
        go_frame
        refine ls_ex (some 10) (.int .i64 xs.length) rfl rfl (exec_len _ 22 2 rfl ((some ⟨b, off, none⟩)) xs.length cx rfl Try.underlying22) ?_
        go_frame
        refine ls_ex (some 11) (.bool true) rfl rfl (exec_lss _ _ _ _ rfl i xs.length rfl rfl true (decide_eq_true (by omega))) ?_
        go_frame
        refine wpList_nil ?_
        go_upto_region 4 with (fail)
        refine wp_region_lit ?_
        refine ls_ex (some 14) (.slice (some ⟨b, off, none⟩) xs.length cx) rfl rfl (exec_move _ rfl (.slice (some ⟨b, off, none⟩) xs.length cx) rfl) ?_
        go_frame
        refine ls_ex (some 15) (.int .i64 i) rfl rfl (exec_move _ rfl (.int .i64 i) rfl) ?_
        go_frame
        refine ls_ex (some 16) (.pointer (some ⟨b, off + i * 1, none⟩)) rfl rfl (exec_index_slice _ 2 _ _ rfl b off xs.length cx i 1 rfl rfl Try.underlying22 (by kernel_rfl) (by omega)) ?_
        go_frame
        refine ls_ex (some 17) (.int .i64 xs[i]) rfl rfl (exec_load_one 2 _ rfl b (off + i * 1) rfl (.int .i64 xs[i]) _ Try.underlying2 rfl (by rw [Nat.mul_one]; exact Hc.out)) ?_
        go_frame
        refine ls_ex (some 18) (.int .i64 p) rfl rfl (exec_move _ rfl (.int .i64 p) rfl) ?_
        go_frame
        refine ls_ex (some 19) (.int .i64 (p - 1)) rfl rfl (exec_sub _ _ _ _ rfl p 1 (p - 1) rfl rfl (IntWalk.i64_in _ (by omega))) ?_
        go_frame
        refine ls_op rfl (fun K' hK' => ?_)
        have lz3 := hB.size
        refine wp_call3 (some 20) rfl 39 _ _ _ _ rfl (fun args w => by kernel_rfl) _ _ _ rfl rfl rfl _ (l01In_c xs[i] 0 (p - 1) _) (fun e Wz1 h => ?_)
        obtain ⟨rfl, rfl⟩ := h
        rw [HIn.out]
        refine ⟨_, rfl, ?_⟩
        refine hK' _ _ ?_
        clear hK' K'
        go_frame
        refine ls_ex (some 21) (.bool true) rfl rfl (exec_not _ _ rfl false rfl) ?_
        go_frame
        refine wpList_nil ?_
        go_upto_region 5 with (fail)
        refine wp_region_lit ?_
        refine ls_ex (some 6) (.bool false) rfl rfl (exec_assign _ rfl (.bool false) rfl) ?_
        go_frame
        refine wpList_nil ?_
        go_wp2_with fail
        go_ret
        exact ⟨by rw [HNo.out]; rfl, hB⟩
      | true =>
        have HS : Hid (∀ (y : Nat) (hy : y < xs.length), y < i + 1 → inB xs[y] p = true) := Lib.hid (fun y hy hyk => by by_cases e : y = i; subst e; exact hb; exact HA.out y hy (by omega))
        have HIn : Hid ((decide (0 ≤ xs[i]) && decide (xs[i] ≤ p - 1)) = true) := Lib.hid (by rw [← inB_sp]; exact hb)
        clear hb
        go_upto_region 2 with (fail)
        refine wp_region_lit ?_
        refine ls_ex (some 8) (.int .i64 i) rfl rfl (exec_move _ rfl (.int .i64 i) rfl) ?_
        go_frame
        refine ls_ex (some 9) (.slice (some ⟨b, off, none⟩) xs.length cx) rfl rfl (exec_move _ rfl (.slice (some ⟨b, off, none⟩) xs.length cx) rfl) ?_
        go_frame
        refine ls_ex (some 10) (.int .i64 xs.length) rfl rfl (exec_len _ 22 2 rfl ((some ⟨b, off, none⟩)) xs.length cx rfl Try.underlying22) ?_
        go_frame
        refine ls_ex (some 11) (.bool true) rfl rfl (exec_lss _ _ _ _ rfl i xs.length rfl rfl true (decide_eq_true (by omega))) ?_
        go_frame
        refine wpList_nil ?_
        go_upto_region 4 with (fail)
        refine wp_region_lit ?_
        refine ls_ex (some 14) (.slice (some ⟨b, off, none⟩) xs.length cx) rfl rfl (exec_move _ rfl (.slice (some ⟨b, off, none⟩) xs.length cx) rfl) ?_
        go_frame
        refine ls_ex (some 15) (.int .i64 i) rfl rfl (exec_move _ rfl (.int .i64 i) rfl) ?_
        go_frame
        refine ls_ex (some 16) (.pointer (some ⟨b, off + i * 1, none⟩)) rfl rfl (exec_index_slice _ 2 _ _ rfl b off xs.length cx i 1 rfl rfl Try.underlying22 (by kernel_rfl) (by omega)) ?_
        go_frame
        refine ls_ex (some 17) (.int .i64 xs[i]) rfl rfl (exec_load_one 2 _ rfl b (off + i * 1) rfl (.int .i64 xs[i]) _ Try.underlying2 rfl (by rw [Nat.mul_one]; exact Hc.out)) ?_
        go_frame
        refine ls_ex (some 18) (.int .i64 p) rfl rfl (exec_move _ rfl (.int .i64 p) rfl) ?_
        go_frame
        refine ls_ex (some 19) (.int .i64 (p - 1)) rfl rfl (exec_sub _ _ _ _ rfl p 1 (p - 1) rfl rfl (IntWalk.i64_in _ (by omega))) ?_
        go_frame
        refine ls_op rfl (fun K' hK' => ?_)
        have lz6 := hB.size
        refine wp_call3 (some 20) rfl 39 _ _ _ _ rfl (fun args w => by kernel_rfl) _ _ _ rfl rfl rfl _ (l01In_c xs[i] 0 (p - 1) _) (fun e Wz4 h => ?_)
        obtain ⟨rfl, rfl⟩ := h
        rw [HIn.out]
        refine ⟨_, rfl, ?_⟩
        refine hK' _ _ ?_
        clear hK' K'
        go_frame
        refine ls_ex (some 21) (.bool false) rfl rfl (exec_not _ _ rfl true rfl) ?_
        go_frame
        refine wpList_nil ?_
        go_upto_region 3 with (fail)
        refine wp_region_lit ?_
        refine ls_ex (some 12) (.int .i64 i) rfl rfl (exec_move _ rfl (.int .i64 i) rfl) ?_
        go_frame
        refine ls_ex (some 13) (.int .i64 (i + 1)) rfl rfl (exec_add _ _ _ _ rfl i 1 (i + 1) rfl rfl (IntWalk.i64_in _ (by omega))) ?_
        go_frame
        refine ls_ex (some 7) (.int .i64 (i + 1)) rfl rfl (exec_assign _ rfl (.int .i64 (i + 1)) rfl) ?_
        go_frame
        refine wpList_nil ?_
        go_wp2_with fail
        go_roundw
        case rel => exact ⟨i + 1, by omega, by go_num, hB, HS⟩
        case measure => simp [intOf]; omega
    · have HY : Hid (numsB p xs = true) := Lib.hid (numsB_yes fun y hy => HA.out y hy (by omega))
      clear HA
      go_upto_region 2 with (fail)
      refine wp_region_lit ?_
      refine ls_ex (some 8) (.int .i64 i) rfl rfl (exec_move _ rfl (.int .i64 i) rfl) ?_
      go_frame
      refine ls_ex (some 9) (.slice Ax xs.length cx) rfl rfl (exec_move _ rfl (.slice Ax xs.length cx) rfl) ?_
      go_frame
      refine ls_ex (some 10) (.int .i64 xs.length) rfl rfl (exec_len _ 22 2 rfl Ax xs.length cx rfl Try.underlying22) ?_
      go_frame
      refine ls_ex (some 11) (.bool false) rfl rfl (exec_lss _ _ _ _ rfl i xs.length rfl rfl false (decide_eq_false (by omega))) ?_
      go_frame
      refine wpList_nil ?_
      go_upto_region 6 with (fail)
      refine wp_region_lit ?_
      refine ls_ex (some 22) (.slice Ax xs.length cx) rfl rfl (exec_move _ rfl (.slice Ax xs.length cx) rfl) ?_
      go_frame
      refine ls_ex (some 23) (.int .i64 xs.length) rfl rfl (exec_len _ 22 2 rfl Ax xs.length cx rfl Try.underlying22) ?_
      go_frame
      refine ls_ex (some 24) (.int .i64 n) rfl rfl (exec_move _ rfl (.int .i64 n) rfl) ?_
      go_frame
      refine ls_ex (some 25) (.bool ((xs.length : Int) == n)) rfl rfl (exec_eql _ _ _ _ rfl (xs.length : Int) n rfl rfl _ rfl) ?_
      go_frame
      refine ls_ex (some 6) (.bool ((xs.length : Int) == n)) rfl rfl (exec_assign _ rfl (.bool ((xs.length : Int) == n)) rfl) ?_
      go_frame
      refine wpList_nil ?_
      go_wp2_with fail
      go_ret
      exact ⟨by rw [HY.out]; rfl, hB⟩
theorem l05NumbersD_c (p : Int) (d : Nat) (A : Option Addr) (c : Nat) (xs : List Int) (w : World) (hp : -1000 ≤ p ∧ p ≤ 1000) (hr : RdI w A xs) (hd : xs.length = d) (hn : d ≤ 1048576) :
    Calls Try.prog 40 #[.int .i64 p, .slice A d c, .int .i64 d] w fun e w' => e = .returned (.bool (listB p d xs)) ∧ Below w.heap.size w w' := by
  subst hd
  have h := l05Numbers_c p xs.length A c xs w hp hr hn
  rw [show (numsB p xs && ((xs.length : Int) == xs.length)) = listB p xs.length xs by simp [listB]] at h
  exact h
theorem cell_iar9 {w : World} {g c : Nat} {xs : List Int} {V : Int} (h : At w g (.cells (iar xs) 2 (0, 0))) (hv : xs[c]? = some V) : w.cell? ⟨g, 0 + c * 1, none⟩ = some (.int .i64 V) := by
  rw [Nat.mul_one, Nat.zero_add, h.at_]
  simp [iar, i64s, hv]
set_option maxHeartbeats 4000000 in
theorem specRest_a (p : Int) (B : Option Addr) (cB : Nat) (xs : List Int) (w : World) (hX : RdI w B xs) (hlen : xs.length ≤ 1048576) (hp : primeB p = false) :
    Calls Try.prog 17 #[.int .i64 p, .slice B xs.length cB] w (ResT w (tZ (rsCode p xs) p) (tZ (rsCode p xs) (xs.length : Nat)) (tZ (rsCode p xs) (xs.length : Nat)) (tZ (rsCode p xs) (xs.length : Nat)) (tL (rsCode p xs) (rsL p xs)) (rsCode p xs)) := by
  have hB := Below.refl w.heap.size w
  have _u0 := hX
  have _u1 := hlen
  clear _u0 _u1
  have HC : Hid (rsCode p xs = 2) := Lib.hid (by unfold rsCode rsB; rw [hp]; rfl)
  have HP := Lib.hid hp
  clear hp
  go_enter Try.func17, Try.ntmps17
  go_upto_region 0 with (fail)
  refine wp_region_lit ?_
  refine ls_op rfl (fun K' hK' => ?_)
  have lz1 := hB.size
  refine wp_new (some 4) rfl (al_impl_Tensor rfl) (fun Wz2 nnz3 => ?_)
  have bz4 := nnz3.below (Below.refl _ _) (Nat.le_refl _)
  replace hB := below_after hB bz4
  have hz5 : At Wz2 w.heap.size (.cells #[.int .i64 0, .int .i64 0, .int .i64 0, .int .i64 0, .slice none 0 0] 31 (0, 0)) := nnz3.at_
  refine hK' _ _ ?_
  clear hK' K' nnz3 bz4
  go_frame
  refine ls_ex (some 5) (.int .i64 0) rfl rfl (exec_assign _ rfl (.int .i64 0) rfl) ?_
  go_frame
  refine wpList_nil ?_
  go_upto_region 1 with (fail)
  refine wp_region_lit ?_
  refine ls_ex (some 15) (.slice B xs.length cB) rfl rfl (exec_move _ rfl (.slice B xs.length cB) rfl) ?_
  go_frame
  refine ls_ex (some 16) (.int .i64 xs.length) rfl rfl (exec_len _ 22 2 rfl B xs.length cB rfl Try.underlying22) ?_
  go_frame
  refine ls_ex (some 6) (.int .i64 xs.length) rfl rfl (exec_assign _ rfl (.int .i64 xs.length) rfl) ?_
  go_frame
  refine wpList_nil ?_
  go_upto_region 2 with (fail)
  refine wp_region_lit ?_
  refine ls_ex (some 17) (.int .i64 p) rfl rfl (exec_move _ rfl (.int .i64 p) rfl) ?_
  go_frame
  refine ls_op rfl (fun K' hK' => ?_)
  have lz8 := hB.size
  have lz9 := hz5.lt
  refine wp_call1 (some 18) rfl 38 _ _ rfl (fun args w => by kernel_rfl) _ rfl _ (l01Prime_c p _) (fun e Wz6 h => ?_)
  obtain ⟨rfl, rfl⟩ := h
  rw [HP.out]
  refine ⟨_, rfl, ?_⟩
  refine hK' _ _ ?_
  clear hK' K'
  go_frame
  refine ls_ex (some 19) (.bool true) rfl rfl (exec_not _ _ rfl false rfl) ?_
  go_frame
  refine ls_ex (some 20) (.bool true) rfl rfl (exec_move _ rfl (.bool true) rfl) ?_
  go_frame
  refine ls_skip_g (some 21) rfl rfl ?_
  go_frame
  refine ls_skip_g (some 22) rfl rfl ?_
  go_frame
  refine ls_skip_g (some 23) rfl rfl ?_
  go_frame
  refine ls_ex (some 24) (.bool true) rfl rfl (exec_pick _ _ _ rfl true rfl (.bool true) rfl) ?_
  go_frame
  refine ls_ex (some 25) (.bool true) rfl rfl (exec_move _ rfl (.bool true) rfl) ?_
  go_frame
  refine ls_skip_g (some 26) rfl rfl ?_
  go_frame
  refine ls_skip_g (some 27) rfl rfl ?_
  go_frame
  refine ls_skip_g (some 28) rfl rfl ?_
  go_frame
  refine ls_skip_g (some 29) rfl rfl ?_
  go_frame
  refine ls_skip_g (some 30) rfl rfl ?_
  go_frame
  refine ls_ex (some 31) (.bool true) rfl rfl (exec_pick _ _ _ rfl true rfl (.bool true) rfl) ?_
  go_frame
  refine wpList_nil ?_
  go_upto_region 3 with (fail)
  refine wp_region_lit ?_
  refine ls_ex (some 32) (.agg #[.int .i64 0, .int .i64 0, .int .i64 0, .int .i64 0, .slice none 0 0]) rfl rfl (exec_build_nil 31 rfl _ (by kernel_rfl)) ?_
  go_frame
  refine ls_op rfl (fun K' hK' => ?_)
  refine wp_store_all 31 _ _ rfl rfl w.heap.size rfl #[.int .i64 0, .int .i64 0, .int .i64 0, .int .i64 0, .slice none 0 0] rfl _ _ hz5 5 (by kernel_rfl) rfl rfl (one5 _ _ _ _ _ _ _) (fun Wz10 pz11 => ?_)
  replace hB := pz11.below hB (by omega)
  replace hz5 : At Wz10 w.heap.size (.cells #[.int .i64 0, .int .i64 0, .int .i64 0, .int .i64 0, .slice none 0 0] 31 (0, 0)) := pz11.at_
  refine hK' _ _ ?_
  clear hK' K' pz11
  refine ls_ex (some 5) (.int .i64 2) rfl rfl (exec_assign _ rfl (.int .i64 2) rfl) ?_
  go_frame
  refine wpList_nil ?_
  go_wp2_with fail
  refine bodyPost_ret (results_at2 rfl _ _ w.heap.size _ _ _ rfl _ rfl hz5 Try.underlying31 rfl 5 (by kernel_rfl) rfl) rfl ?_
  unfold ResT tZ tL
  rw [HC.out]
  exact ⟨_, rfl, OwnI.nil _ _, hB⟩
set_option maxHeartbeats 4000000 in
theorem specRest_b (p : Int) (B : Option Addr) (cB : Nat) (xs : List Int) (w : World) (hX : RdI w B xs) (hlen : xs.length ≤ 1048576) (hp : primeB p = true) (hn : (decide (1 ≤ (xs.length : Int)) && decide ((xs.length : Int) ≤ 4)) = false) :
    Calls Try.prog 17 #[.int .i64 p, .slice B xs.length cB] w (ResT w (tZ (rsCode p xs) p) (tZ (rsCode p xs) (xs.length : Nat)) (tZ (rsCode p xs) (xs.length : Nat)) (tZ (rsCode p xs) (xs.length : Nat)) (tL (rsCode p xs) (rsL p xs)) (rsCode p xs)) := by
  have hB := Below.refl w.heap.size w
  have _u0 := hX
  have _u1 := hlen
  clear _u0 _u1
  have HC : Hid (rsCode p xs = 2) := Lib.hid (by unfold rsCode rsB; rw [hp, hn]; rfl)
  have HP := Lib.hid hp
  have HN := Lib.hid hn
  clear hp hn
  go_enter Try.func17, Try.ntmps17
  go_upto_region 0 with (fail)
  refine wp_region_lit ?_
  refine ls_op rfl (fun K' hK' => ?_)
  have lz1 := hB.size
  refine wp_new (some 4) rfl (al_impl_Tensor rfl) (fun Wz2 nnz3 => ?_)
  have bz4 := nnz3.below (Below.refl _ _) (Nat.le_refl _)
  replace hB := below_after hB bz4
  have hz5 : At Wz2 w.heap.size (.cells #[.int .i64 0, .int .i64 0, .int .i64 0, .int .i64 0, .slice none 0 0] 31 (0, 0)) := nnz3.at_
  refine hK' _ _ ?_
  clear hK' K' nnz3 bz4
  go_frame
  refine ls_ex (some 5) (.int .i64 0) rfl rfl (exec_assign _ rfl (.int .i64 0) rfl) ?_
  go_frame
  refine wpList_nil ?_
  go_upto_region 1 with (fail)
  refine wp_region_lit ?_
  refine ls_ex (some 15) (.slice B xs.length cB) rfl rfl (exec_move _ rfl (.slice B xs.length cB) rfl) ?_
  go_frame
  refine ls_ex (some 16) (.int .i64 xs.length) rfl rfl (exec_len _ 22 2 rfl B xs.length cB rfl Try.underlying22) ?_
  go_frame
  refine ls_ex (some 6) (.int .i64 xs.length) rfl rfl (exec_assign _ rfl (.int .i64 xs.length) rfl) ?_
  go_frame
  refine wpList_nil ?_
  go_upto_region 2 with (fail)
  refine wp_region_lit ?_
  refine ls_ex (some 17) (.int .i64 p) rfl rfl (exec_move _ rfl (.int .i64 p) rfl) ?_
  go_frame
  refine ls_op rfl (fun K' hK' => ?_)
  have lz8 := hB.size
  have lz9 := hz5.lt
  refine wp_call1 (some 18) rfl 38 _ _ rfl (fun args w => by kernel_rfl) _ rfl _ (l01Prime_c p _) (fun e Wz6 h => ?_)
  obtain ⟨rfl, rfl⟩ := h
  rw [HP.out]
  refine ⟨_, rfl, ?_⟩
  refine hK' _ _ ?_
  clear hK' K'
  go_frame
  refine ls_ex (some 19) (.bool false) rfl rfl (exec_not _ _ rfl true rfl) ?_
  go_frame
  refine ls_ex (some 20) (.bool false) rfl rfl (exec_move _ rfl (.bool false) rfl) ?_
  go_frame
  refine ls_ex_g (some 21) (.int .i64 xs.length) rfl rfl (exec_move _ rfl (.int .i64 xs.length) rfl) ?_
  go_frame
  refine ls_op_g rfl (fun K' hK' => ?_)
  have lz12 := hB.size
  have lz13 := hz5.lt
  refine wp_call3 (some 22) rfl 39 _ _ _ _ rfl (fun args w => by kernel_rfl) _ _ _ rfl rfl rfl _ (l01In_c xs.length 1 4 _) (fun e Wz10 h => ?_)
  obtain ⟨rfl, rfl⟩ := h
  rw [HN.out]
  refine ⟨_, rfl, ?_⟩
  refine hK' _ _ ?_
  clear hK' K'
  go_frame
  refine ls_ex_g (some 23) (.bool true) rfl rfl (exec_not _ _ rfl false rfl) ?_
  go_frame
  refine ls_ex (some 24) (.bool true) rfl rfl (exec_pick _ _ _ rfl false rfl (.bool true) rfl) ?_
  go_frame
  refine ls_ex (some 25) (.bool true) rfl rfl (exec_move _ rfl (.bool true) rfl) ?_
  go_frame
  refine ls_skip_g (some 26) rfl rfl ?_
  go_frame
  refine ls_skip_g (some 27) rfl rfl ?_
  go_frame
  refine ls_skip_g (some 28) rfl rfl ?_
  go_frame
  refine ls_skip_g (some 29) rfl rfl ?_
  go_frame
  refine ls_skip_g (some 30) rfl rfl ?_
  go_frame
  refine ls_ex (some 31) (.bool true) rfl rfl (exec_pick _ _ _ rfl true rfl (.bool true) rfl) ?_
  go_frame
  refine wpList_nil ?_
  go_upto_region 3 with (fail)
  refine wp_region_lit ?_
  refine ls_ex (some 32) (.agg #[.int .i64 0, .int .i64 0, .int .i64 0, .int .i64 0, .slice none 0 0]) rfl rfl (exec_build_nil 31 rfl _ (by kernel_rfl)) ?_
  go_frame
  refine ls_op rfl (fun K' hK' => ?_)
  refine wp_store_all 31 _ _ rfl rfl w.heap.size rfl #[.int .i64 0, .int .i64 0, .int .i64 0, .int .i64 0, .slice none 0 0] rfl _ _ hz5 5 (by kernel_rfl) rfl rfl (one5 _ _ _ _ _ _ _) (fun Wz14 pz15 => ?_)
  replace hB := pz15.below hB (by omega)
  replace hz5 : At Wz14 w.heap.size (.cells #[.int .i64 0, .int .i64 0, .int .i64 0, .int .i64 0, .slice none 0 0] 31 (0, 0)) := pz15.at_
  refine hK' _ _ ?_
  clear hK' K' pz15
  refine ls_ex (some 5) (.int .i64 2) rfl rfl (exec_assign _ rfl (.int .i64 2) rfl) ?_
  go_frame
  refine wpList_nil ?_
  go_wp2_with fail
  refine bodyPost_ret (results_at2 rfl _ _ w.heap.size _ _ _ rfl _ rfl hz5 Try.underlying31 rfl 5 (by kernel_rfl) rfl) rfl ?_
  unfold ResT tZ tL
  rw [HC.out]
  exact ⟨_, rfl, OwnI.nil _ _, hB⟩
set_option maxHeartbeats 4000000 in
theorem specRest_d (p : Int) (B : Option Addr) (cB : Nat) (xs : List Int) (w : World) (hX : RdI w B xs) (hlen : xs.length ≤ 1048576) (hp : primeB p = true) (hn : (decide (1 ≤ (xs.length : Int)) && decide ((xs.length : Int) ≤ 4)) = true) (hl : numsB p xs = false) :
    Calls Try.prog 17 #[.int .i64 p, .slice B xs.length cB] w (ResT w (tZ (rsCode p xs) p) (tZ (rsCode p xs) (xs.length : Nat)) (tZ (rsCode p xs) (xs.length : Nat)) (tZ (rsCode p xs) (xs.length : Nat)) (tL (rsCode p xs) (rsL p xs)) (rsCode p xs)) := by
  have hB := Below.refl w.heap.size w
  have HC : Hid (rsCode p xs = 2) := Lib.hid (by unfold rsCode rsB; rw [hp, hn, hl]; rfl)
  have hp5 := prime_le5 hp
  have HP := Lib.hid hp
  have HN := Lib.hid hn
  have HL : Hid (listB p xs.length xs = false) := Lib.hid (listB_of _ hl)
  clear hp hn hl
  go_enter Try.func17, Try.ntmps17
  go_upto_region 0 with (fail)
  refine wp_region_lit ?_
  refine ls_op rfl (fun K' hK' => ?_)
  have lz1 := hB.size
  refine wp_new (some 4) rfl (al_impl_Tensor rfl) (fun Wz2 nnz3 => ?_)
  have bz4 := nnz3.below (Below.refl _ _) (Nat.le_refl _)
  replace hB := below_after hB bz4
  have hz5 : At Wz2 w.heap.size (.cells #[.int .i64 0, .int .i64 0, .int .i64 0, .int .i64 0, .slice none 0 0] 31 (0, 0)) := nnz3.at_
  refine hK' _ _ ?_
  clear hK' K' nnz3 bz4
  go_frame
  refine ls_ex (some 5) (.int .i64 0) rfl rfl (exec_assign _ rfl (.int .i64 0) rfl) ?_
  go_frame
  refine wpList_nil ?_
  go_upto_region 1 with (fail)
  refine wp_region_lit ?_
  refine ls_ex (some 15) (.slice B xs.length cB) rfl rfl (exec_move _ rfl (.slice B xs.length cB) rfl) ?_
  go_frame
  refine ls_ex (some 16) (.int .i64 xs.length) rfl rfl (exec_len _ 22 2 rfl B xs.length cB rfl Try.underlying22) ?_
  go_frame
  refine ls_ex (some 6) (.int .i64 xs.length) rfl rfl (exec_assign _ rfl (.int .i64 xs.length) rfl) ?_
  go_frame
  refine wpList_nil ?_
  go_upto_region 2 with (fail)
  refine wp_region_lit ?_
  refine ls_ex (some 17) (.int .i64 p) rfl rfl (exec_move _ rfl (.int .i64 p) rfl) ?_
  go_frame
  refine ls_op rfl (fun K' hK' => ?_)
  have lz8 := hB.size
  have lz9 := hz5.lt
  refine wp_call1 (some 18) rfl 38 _ _ rfl (fun args w => by kernel_rfl) _ rfl _ (l01Prime_c p _) (fun e Wz6 h => ?_)
  obtain ⟨rfl, rfl⟩ := h
  rw [HP.out]
  refine ⟨_, rfl, ?_⟩
  refine hK' _ _ ?_
  clear hK' K'
  go_frame
  refine ls_ex (some 19) (.bool false) rfl rfl (exec_not _ _ rfl true rfl) ?_
  go_frame
  refine ls_ex (some 20) (.bool false) rfl rfl (exec_move _ rfl (.bool false) rfl) ?_
  go_frame
  refine ls_ex_g (some 21) (.int .i64 xs.length) rfl rfl (exec_move _ rfl (.int .i64 xs.length) rfl) ?_
  go_frame
  refine ls_op_g rfl (fun K' hK' => ?_)
  have lz12 := hB.size
  have lz13 := hz5.lt
  refine wp_call3 (some 22) rfl 39 _ _ _ _ rfl (fun args w => by kernel_rfl) _ _ _ rfl rfl rfl _ (l01In_c xs.length 1 4 _) (fun e Wz10 h => ?_)
  obtain ⟨rfl, rfl⟩ := h
  rw [HN.out]
  refine ⟨_, rfl, ?_⟩
  refine hK' _ _ ?_
  clear hK' K'
  go_frame
  refine ls_ex_g (some 23) (.bool false) rfl rfl (exec_not _ _ rfl true rfl) ?_
  go_frame
  refine ls_ex (some 24) (.bool false) rfl rfl (exec_pick _ _ _ rfl false rfl (.bool false) rfl) ?_
  go_frame
  refine ls_ex (some 25) (.bool false) rfl rfl (exec_move _ rfl (.bool false) rfl) ?_
  go_frame
  refine ls_ex_g (some 26) (.int .i64 p) rfl rfl (exec_move _ rfl (.int .i64 p) rfl) ?_
  go_frame
  refine ls_ex_g (some 27) (.slice B xs.length cB) rfl rfl (exec_move _ rfl (.slice B xs.length cB) rfl) ?_
  go_frame
  refine ls_ex_g (some 28) (.int .i64 xs.length) rfl rfl (exec_move _ rfl (.int .i64 xs.length) rfl) ?_
  go_frame
  refine ls_op_g rfl (fun K' hK' => ?_)
  have lz16 := hB.size
  have lz17 := hz5.lt
  refine wp_call3 (some 29) rfl 40 _ _ _ _ rfl (fun args w => by kernel_rfl) _ _ _ rfl rfl rfl _ (l05NumbersD_c p xs.length B cB xs _ (by omega) (hX.keep hB) rfl (by omega)) (fun e Wz14 h => ?_)
  obtain ⟨rfl, bz15⟩ := h
  replace hB := below_after hB bz15
  replace hz5 := hz5.after bz15
  rw [HL.out]
  clear bz15
  refine ⟨_, rfl, ?_⟩
  refine hK' _ _ ?_
  clear hK' K'
  go_frame
  refine ls_ex_g (some 30) (.bool true) rfl rfl (exec_not _ _ rfl false rfl) ?_
  go_frame
  refine ls_ex (some 31) (.bool true) rfl rfl (exec_pick _ _ _ rfl false rfl (.bool true) rfl) ?_
  go_frame
  refine wpList_nil ?_
  go_upto_region 3 with (fail)
  refine wp_region_lit ?_
  refine ls_ex (some 32) (.agg #[.int .i64 0, .int .i64 0, .int .i64 0, .int .i64 0, .slice none 0 0]) rfl rfl (exec_build_nil 31 rfl _ (by kernel_rfl)) ?_
  go_frame
  refine ls_op rfl (fun K' hK' => ?_)
  refine wp_store_all 31 _ _ rfl rfl w.heap.size rfl #[.int .i64 0, .int .i64 0, .int .i64 0, .int .i64 0, .slice none 0 0] rfl _ _ hz5 5 (by kernel_rfl) rfl rfl (one5 _ _ _ _ _ _ _) (fun Wz18 pz19 => ?_)
  replace hB := pz19.below hB (by omega)
  replace hz5 : At Wz18 w.heap.size (.cells #[.int .i64 0, .int .i64 0, .int .i64 0, .int .i64 0, .slice none 0 0] 31 (0, 0)) := pz19.at_
  refine hK' _ _ ?_
  clear hK' K' pz19
  refine ls_ex (some 5) (.int .i64 2) rfl rfl (exec_assign _ rfl (.int .i64 2) rfl) ?_
  go_frame
  refine wpList_nil ?_
  go_wp2_with fail
  refine bodyPost_ret (results_at2 rfl _ _ w.heap.size _ _ _ rfl _ rfl hz5 Try.underlying31 rfl 5 (by kernel_rfl) rfl) rfl ?_
  unfold ResT tZ tL
  rw [HC.out]
  exact ⟨_, rfl, OwnI.nil _ _, hB⟩
set_option maxHeartbeats 25600000 in
theorem specRest_yd (p : Int) (d bB oB cB : Nat) (xs : List Int) (w : World) (hX : RdI w (some ⟨bB, oB, none⟩) xs) (hxd : xs.length = d) (hs : rsB p xs = true) :
    Calls Try.prog 17 #[.int .i64 p, .slice (some ⟨bB, oB, none⟩) d cB] w (ResT w (tZ (rsCode p xs) p) (tZ (rsCode p xs) (d : Nat)) (tZ (rsCode p xs) (d : Nat)) (tZ (rsCode p xs) (d : Nat)) (tL (rsCode p xs) (rsL p xs)) (rsCode p xs)) := by
  have hB := Below.refl w.heap.size w
  have HC : Hid (rsCode p xs = 0) := Lib.hid (by unfold rsCode; rw [hs]; rfl)
  obtain ⟨hp, hd, hl⟩ := rsB_parts hs
  have hp5 := prime_le5 hp
  have HP := Lib.hid hp
  have HXi := Lib.hid (numsB_inP hl)
  rw [hxd] at hd
  have HN : Hid ((decide (1 ≤ (d : Int)) && decide ((d : Int) ≤ 4)) = true) := Lib.hid (by simp; omega)
  have HL : Hid (listB p d xs = true) := Lib.hid (by rw [← hxd]; exact listB_of _ hl)
  have HXl := Lib.hid hxd
  have HR0 : Hid ((List.replicate d (0 : Int)).set 0 1 = restR p xs 0) := Lib.hid (by rw [restR_zero, hxd])
  have hNN := places_729 (n0 := d) (n1 := d) (n2 := d) (by omega) (by omega) (by omega)
  obtain ⟨N, hNe⟩ : ∃ z9, d * d * d = z9 := ⟨_, rfl⟩
  rw [hNe] at hNN
  have HNe := Lib.hid hNe
  have e9 : (rsL p xs).length = N := by simp [rsL, genL, hxd, hNe]
  have HOw : Hid (∀ (g : Nat) (W : World), At W g (.cells (iar (rsL p xs)) 2 (0, 0)) → OwnI W g (.slice (some ⟨g, 0, none⟩) N N) (rsL p xs)) := Lib.hid (fun g W h => by have h9 := OwnI.of_at h (Nat.le_refl g) (by rw [e9]; omega); rwa [e9] at h9)
  obtain ⟨M2, hM2⟩ : ∃ z9, 2 * d = z9 := ⟨_, rfl⟩
  obtain ⟨E, hE⟩ : ∃ z9, M2 - 2 = z9 := ⟨_, rfl⟩
  obtain ⟨L, hLe⟩ : ∃ z9, d - 1 = z9 := ⟨_, rfl⟩
  have hLd : L < d := by omega
  have HLs : Hid (IntKind.i64.wrap ((d : Int) - 1) = (L : Int)) := Lib.hid (by rw [IntWalk.i64_in _ (by omega)]; omega)
  have HM2 : Hid (IntKind.i64.wrap (2 * (d : Int)) = (M2 : Int)) := Lib.hid (by rw [IntWalk.i64_in _ (by omega)]; omega)
  have HE2 : Hid (IntKind.i64.wrap ((M2 : Int) - 2) = (E : Int)) := Lib.hid (by rw [IntWalk.i64_in _ (by omega)]; omega)
  obtain ⟨ZER, hZER⟩ : ∃ z9, List.replicate d (0 : Int) = z9 := ⟨_, rfl⟩
  have HZER := Lib.hid hZER
  have HZl : Hid (ZER.length = d) := Lib.hid (by rw [← hZER, List.length_replicate])
  clear hs hp hl hxd hNe hZER e9
  go_enter Try.func17, Try.ntmps17
  go_upto_region 0 with (fail)
  refine wp_region_lit ?_
  refine ls_op rfl (fun K' hK' => ?_)
  have lz1 := hB.size
  refine wp_new (some 4) rfl (al_impl_Tensor rfl) (fun Wz2 nnz3 => ?_)
  have bz4 := nnz3.below (Below.refl _ _) (Nat.le_refl _)
  replace hB := below_after hB bz4
  have hz5 : At Wz2 w.heap.size (.cells #[.int .i64 0, .int .i64 0, .int .i64 0, .int .i64 0, .slice none 0 0] 31 (0, 0)) := nnz3.at_
  refine hK' _ _ ?_
  clear hK' K' nnz3 bz4
  go_frame
  refine ls_ex (some 5) (.int .i64 0) rfl rfl (exec_assign _ rfl (.int .i64 0) rfl) ?_
  go_frame
  refine wpList_nil ?_
  go_upto_region 1 with (fail)
  refine wp_region_lit ?_
  refine ls_ex (some 15) (.slice (some ⟨bB, oB, none⟩) d cB) rfl rfl (exec_move _ rfl (.slice (some ⟨bB, oB, none⟩) d cB) rfl) ?_
  go_frame
  refine ls_ex (some 16) (.int .i64 d) rfl rfl (exec_len _ 22 2 rfl ((some ⟨bB, oB, none⟩)) d cB rfl Try.underlying22) ?_
  go_frame
  refine ls_ex (some 6) (.int .i64 d) rfl rfl (exec_assign _ rfl (.int .i64 d) rfl) ?_
  go_frame
  refine wpList_nil ?_
  go_upto_region 2 with (fail)
  refine wp_region_lit ?_
  refine ls_ex (some 17) (.int .i64 p) rfl rfl (exec_move _ rfl (.int .i64 p) rfl) ?_
  go_frame
  refine ls_op rfl (fun K' hK' => ?_)
  have lz8 := hB.size
  have lz9 := hz5.lt
  refine wp_call1 (some 18) rfl 38 _ _ rfl (fun args w => by kernel_rfl) _ rfl _ (l01Prime_c p _) (fun e Wz6 h => ?_)
  obtain ⟨rfl, rfl⟩ := h
  rw [HP.out]
  refine ⟨_, rfl, ?_⟩
  refine hK' _ _ ?_
  clear hK' K'
  go_frame
  refine ls_ex (some 19) (.bool false) rfl rfl (exec_not _ _ rfl true rfl) ?_
  go_frame
  refine ls_ex (some 20) (.bool false) rfl rfl (exec_move _ rfl (.bool false) rfl) ?_
  go_frame
  refine ls_ex_g (some 21) (.int .i64 d) rfl rfl (exec_move _ rfl (.int .i64 d) rfl) ?_
  go_frame
  refine ls_op_g rfl (fun K' hK' => ?_)
  have lz12 := hB.size
  have lz13 := hz5.lt
  refine wp_call3 (some 22) rfl 39 _ _ _ _ rfl (fun args w => by kernel_rfl) _ _ _ rfl rfl rfl _ (l01In_c d 1 4 _) (fun e Wz10 h => ?_)
  obtain ⟨rfl, rfl⟩ := h
  rw [HN.out]
  refine ⟨_, rfl, ?_⟩
  refine hK' _ _ ?_
  clear hK' K'
  go_frame
  refine ls_ex_g (some 23) (.bool false) rfl rfl (exec_not _ _ rfl true rfl) ?_
  go_frame
  refine ls_ex (some 24) (.bool false) rfl rfl (exec_pick _ _ _ rfl false rfl (.bool false) rfl) ?_
  go_frame
  refine ls_ex (some 25) (.bool false) rfl rfl (exec_move _ rfl (.bool false) rfl) ?_
  go_frame
  refine ls_ex_g (some 26) (.int .i64 p) rfl rfl (exec_move _ rfl (.int .i64 p) rfl) ?_
  go_frame
  refine ls_ex_g (some 27) (.slice (some ⟨bB, oB, none⟩) d cB) rfl rfl (exec_move _ rfl (.slice (some ⟨bB, oB, none⟩) d cB) rfl) ?_
  go_frame
  refine ls_ex_g (some 28) (.int .i64 d) rfl rfl (exec_move _ rfl (.int .i64 d) rfl) ?_
  go_frame
  refine ls_op_g rfl (fun K' hK' => ?_)
  have lz16 := hB.size
  have lz17 := hz5.lt
  refine wp_call3 (some 29) rfl 40 _ _ _ _ rfl (fun args w => by kernel_rfl) _ _ _ rfl rfl rfl _ (l05NumbersD_c p d (some ⟨bB, oB, none⟩) cB xs _ (by omega) (hX.keep hB) HXl.out (by omega)) (fun e Wz14 h => ?_)
  obtain ⟨rfl, bz15⟩ := h
  replace hB := below_after hB bz15
  replace hz5 := hz5.after bz15
  rw [HL.out]
  clear bz15
  refine ⟨_, rfl, ?_⟩
  refine hK' _ _ ?_
  clear hK' K'
  go_frame
  refine ls_ex_g (some 30) (.bool false) rfl rfl (exec_not _ _ rfl true rfl) ?_
  go_frame
  refine ls_ex (some 31) (.bool false) rfl rfl (exec_pick _ _ _ rfl false rfl (.bool false) rfl) ?_
  go_frame
  refine wpList_nil ?_
  go_upto_region 4 with (fail)
  refine wp_region_lit ?_
  refine ls_ex (some 33) (.int .i64 p) rfl rfl (exec_move _ rfl (.int .i64 p) rfl) ?_
  go_frame
  refine ls_ex (some 34) (.int .i64 d) rfl rfl (exec_move _ rfl (.int .i64 d) rfl) ?_
  go_frame
  refine ls_ex (some 35) (.int .i64 d) rfl rfl (exec_move _ rfl (.int .i64 d) rfl) ?_
  go_frame
  refine ls_ex (some 36) (.int .i64 d) rfl rfl (exec_move _ rfl (.int .i64 d) rfl) ?_
  go_frame
  refine ls_op rfl (fun K' hK' => ?_)
  have lz20 := hB.size
  have lz21 := hz5.lt
  refine wp_call4 (some 37) rfl 41 _ _ _ _ _ rfl (fun args w => by kernel_rfl) _ _ _ _ rfl rfl rfl rfl _ (l05Empty_c p d d d _ (by omega) (by omega) (by omega)) (fun e Wz18 h => ?_)
  obtain ⟨g, rfl, hg, hL, bz19⟩ := h
  replace hB := below_after hB bz19
  replace hz5 := hz5.after bz19
  rw [HNe.out] at hL ⊢
  clear bz19
  refine ⟨_, rfl, ?_⟩
  refine hK' _ _ ?_
  clear hK' K'
  go_frame
  refine ls_op rfl (fun K' hK' => ?_)
  have lz22 := hB.size
  have lz23 := hz5.lt
  have lz24 := hL.lt
  refine wp_new (some 7) rfl (al_impl_Tensor rfl) (fun Wz25 nnz26 => ?_)
  have bz27 := nnz26.below (Below.refl _ _) (Nat.le_refl _)
  replace hB := below_after hB bz27
  replace hz5 := hz5.after bz27
  replace hL := hL.after bz27
  have hz28 : At Wz25 Wz18.heap.size (.cells #[.int .i64 0, .int .i64 0, .int .i64 0, .int .i64 0, .slice none 0 0] 31 (0, 0)) := nnz26.at_
  refine hK' _ _ ?_
  clear hK' K' nnz26 bz27
  go_frame
  refine ls_op rfl (fun K' hK' => ?_)
  refine wp_store_all 31 _ _ rfl rfl Wz18.heap.size rfl #[.int .i64 p, .int .i64 d, .int .i64 d, .int .i64 d, .slice (some ⟨g, 0, none⟩) N N] rfl _ _ hz28 5 (by kernel_rfl) rfl rfl (one5 _ _ _ _ _ _ _) (fun Wz29 pz30 => ?_)
  replace hB := pz30.below hB (by omega)
  replace hz5 := pz30.other hz5 (by omega)
  replace hL := pz30.other hL (by omega)
  replace hz28 : At Wz29 Wz18.heap.size (.cells #[.int .i64 p, .int .i64 d, .int .i64 d, .int .i64 d, .slice (some ⟨g, 0, none⟩) N N] 31 (0, 0)) := pz30.at_
  refine hK' _ _ ?_
  clear hK' K' pz30
  refine wpList_nil ?_
  go_upto_region 5 with (fail)
  refine wp_region_lit ?_
  refine ls_ex (some 38) (.int .i64 d) rfl rfl (exec_move _ rfl (.int .i64 d) rfl) ?_
  go_frame
  refine ls_op rfl (fun K' hK' => ?_)
  have lz31 := hB.size
  have lz32 := hz5.lt
  have lz33 := hL.lt
  have lz34 := hz28.lt
  have hgl := hL.lt
  refine wp_make_Iz (some 39) rfl _ _ rfl d rfl rfl (by omega) (fun Wz35 nnz36 => ?_)
  have bz37 := nnz36.below (Below.refl _ _) (Nat.le_refl _)
  replace hB := below_after hB bz37
  replace hz5 := hz5.after bz37
  replace hL := hL.after bz37
  replace hz28 := hz28.after bz37
  have hH : At Wz35 Wz29.heap.size (.cells (iar (List.replicate d 0)) 2 (0, 0)) := nnz36.at_
  refine hK' _ _ ?_
  clear hK' K' nnz36 bz37
  go_frame
  refine ls_ex (some 8) (.slice (some ⟨Wz29.heap.size, 0, none⟩) d d) rfl rfl (exec_assign _ rfl (.slice (some ⟨Wz29.heap.size, 0, none⟩) d d) rfl) ?_
  go_frame
  refine wpList_nil ?_
  go_upto_region 6 with (fail)
  refine wp_region_lit ?_
  refine ls_ex (some 40) (.slice (some ⟨Wz29.heap.size, 0, none⟩) d d) rfl rfl (exec_move _ rfl (.slice (some ⟨Wz29.heap.size, 0, none⟩) d d) rfl) ?_
  go_frame
  refine ls_ex (some 41) (.pointer (some ⟨Wz29.heap.size, 0 + 0 * 1, none⟩)) rfl rfl (exec_index_slice _ 2 _ _ rfl Wz29.heap.size 0 d d 0 1 rfl rfl Try.underlying22 (by kernel_rfl) (by omega)) ?_
  go_frame
  refine ls_op rfl (fun K' hK' => ?_)
  have lz40 := hB.size
  have lz41 := hz5.lt
  have lz42 := hL.lt
  have lz43 := hz28.lt
  have lz44 := hH.lt
  refine wp_store_one 2 _ _ rfl rfl Wz29.heap.size (0 + 0 * 1) rfl (.int .i64 1) rfl rfl rfl _ _ hH (by kernel_rfl) (by rw [iar_size, List.length_replicate]; omega) (fun Wz38 pz39 => ?_)
  replace hB := pz39.below hB (by omega)
  replace hz5 := pz39.other hz5 (by omega)
  replace hL := pz39.other hL (by omega)
  replace hz28 := pz39.other hz28 (by omega)
  replace hH : At Wz38 Wz29.heap.size (.cells (iar (restR p xs 0)) 2 (0, 0)) := by have h9 := pz39.at_; rw [show 0 + 0 * 1 = 0 by omega, iar_set] at h9; rwa [HR0.out] at h9
  refine hK' _ _ ?_
  clear hK' K' pz39
  refine wpList_nil ?_
  go_upto_region 7 with (fail)
  refine wp_region_lit ?_
  refine ls_ex (some 9) (.int .i64 0) rfl rfl (exec_assign _ rfl (.int .i64 0) rfl) ?_
  go_frame
  refine wpList_nil ?_
  go_wp2_with fail
  go_loopw [8, 9] (fun s8 s9 wr => ∃ z h : Nat, z ≤ E + 1 ∧ s9 = .int .i64 z ∧ s8 = .slice (some ⟨h, 0, none⟩) d d ∧ g < h ∧ Below w.heap.size w wr ∧ At wr w.heap.size (.cells #[.int .i64 0, .int .i64 0, .int .i64 0, .int .i64 0, .slice none 0 0] 31 (0, 0)) ∧ At wr Wz18.heap.size (.cells #[.int .i64 p, .int .i64 d, .int .i64 d, .int .i64 d, .slice (some ⟨g, 0, none⟩) N N] 31 (0, 0)) ∧ At wr g (.cells (iar (rsP p xs d (z) (z + 1 - d) (0))) 2 (0, 0)) ∧ At wr h (.cells (iar (restR p xs z)) 2 (0, 0))) (fun _ s9 _ => E + 1 - (intOf s9).toNat)
  case atStart => exact ⟨0, _, by omega, rfl, rfl, by omega, hB, hz5, hz28, by rw [show 0 + 1 - d = 0 by omega, rsP_zero, HNe.out]; exact hL, hH⟩
  case round =>
    clear hB hz5 hL hz28 hH
    obtain ⟨z, h, hz, rfl, rfl, hgh, hB, h1, h2, hL, hR⟩ := hrel
    by_cases hlt : z ≤ E
    · obtain ⟨D1, hD1⟩ : ∃ z9 : Int, (z : Int) - (d : Int) = z9 := ⟨_, rfl⟩
      obtain ⟨D2, hD2⟩ : ∃ z9 : Int, D1 + 1 = z9 := ⟨_, rfl⟩
      obtain ⟨I0, hI0⟩ : ∃ z9 : Nat, z + 1 - d = z9 := ⟨_, rfl⟩
      have HDa : Hid (IntKind.i64.wrap ((z : Int) - (d : Int)) = D1) := Lib.hid (by rw [hD1]; exact IntWalk.i64_in _ (by omega))
      have HDb : Hid (IntKind.i64.wrap (D1 + 1) = D2) := Lib.hid (by rw [hD2]; exact IntWalk.i64_in _ (by omega))
      have HMx : Hid ((if D2 < 0 then 0 else D2) = (I0 : Int)) := Lib.hid (by split <;> omega)
      have HI0 := Lib.hid hI0
      go_upto_region 8 with (fail)
      refine wp_region_lit ?_
      refine ls_ex (some 42) (.int .i64 z) rfl rfl (exec_move _ rfl (.int .i64 z) rfl) ?_
      go_frame
      refine ls_ex (some 43) (.int .i64 d) rfl rfl (exec_move _ rfl (.int .i64 d) rfl) ?_
      go_frame
      refine ls_ex (some 44) (.int .i64 M2) rfl rfl (exec_mul _ _ _ _ rfl 2 d M2 rfl rfl HM2.out) ?_
      go_frame
      refine ls_ex (some 45) (.int .i64 E) rfl rfl (exec_sub _ _ _ _ rfl M2 2 E rfl rfl HE2.out) ?_
      go_frame
      refine ls_ex (some 46) (.bool true) rfl rfl (exec_leq _ _ _ _ rfl z E rfl rfl true (decide_eq_true (by omega))) ?_
      go_frame
      refine wpList_nil ?_
      go_upto_region 10 with (fail)
      refine wp_region_lit ?_
      refine ls_ex (some 49) (.int .i64 z) rfl rfl (exec_move _ rfl (.int .i64 z) rfl) ?_
      go_frame
      refine ls_ex (some 50) (.int .i64 d) rfl rfl (exec_move _ rfl (.int .i64 d) rfl) ?_
      go_frame
      refine ls_ex (some 51) (.int .i64 D1) rfl rfl (exec_sub _ _ _ _ rfl z d D1 rfl rfl HDa.out) ?_
      go_frame
      refine ls_ex (some 52) (.int .i64 D2) rfl rfl (exec_add _ _ _ _ rfl D1 1 D2 rfl rfl HDb.out) ?_
      go_frame
      refine ls_ex (some 53) (.int .i64 I0) rfl rfl (exec_maxR _ _ _ rfl D2 0 rfl rfl I0 HMx.out) ?_
      go_frame
      refine ls_ex (some 10) (.int .i64 I0) rfl rfl (exec_assign _ rfl (.int .i64 I0) rfl) ?_
      go_frame
      refine wpList_nil ?_
      go_wp2_with fail
      obtain ⟨we, rfl⟩ : ∃ x : World, x = wr := ⟨_, rfl⟩
      go_loopw [10] (fun s10 wr => ∃ i : Nat, I0 ≤ i ∧ i ≤ d ∧ s10 = .int .i64 i ∧ Below w.heap.size w wr ∧ At wr w.heap.size (.cells #[.int .i64 0, .int .i64 0, .int .i64 0, .int .i64 0, .slice none 0 0] 31 (0, 0)) ∧ At wr Wz18.heap.size (.cells #[.int .i64 p, .int .i64 d, .int .i64 d, .int .i64 d, .slice (some ⟨g, 0, none⟩) N N] 31 (0, 0)) ∧ At wr g (.cells (iar (rsP p xs d (z) (i) (0))) 2 (0, 0)) ∧ At wr h (.cells (iar (restR p xs z)) 2 (0, 0))) (fun s10 _ => d - (intOf s10).toNat)
      case atStart => exact ⟨I0, Nat.le_refl _, by omega, rfl, by rw [← HI0.out]; exact ⟨hB, h1, h2, hL, hR⟩⟩
      case round =>
        clear hB h1 h2 hL hR
        obtain ⟨i, hI9, hi, rfl, hB, h1, h2, hL, hR⟩ := hrel
        by_cases hlt2 : i < d
        · by_cases hiz : i ≤ z
          · go_upto_region 11 with (fail)
            refine wp_region_lit ?_
            refine ls_ex (some 54) (.int .i64 i) rfl rfl (exec_move _ rfl (.int .i64 i) rfl) ?_
            go_frame
            refine ls_ex (some 55) (.int .i64 d) rfl rfl (exec_move _ rfl (.int .i64 d) rfl) ?_
            go_frame
            refine ls_ex (some 56) (.bool true) rfl rfl (exec_lss _ _ _ _ rfl i d rfl rfl true (decide_eq_true (by omega))) ?_
            go_frame
            refine ls_ex (some 57) (.bool true) rfl rfl (exec_move _ rfl (.bool true) rfl) ?_
            go_frame
            refine ls_ex_g (some 58) (.int .i64 i) rfl rfl (exec_move _ rfl (.int .i64 i) rfl) ?_
            go_frame
            refine ls_ex_g (some 59) (.int .i64 z) rfl rfl (exec_move _ rfl (.int .i64 z) rfl) ?_
            go_frame
            refine ls_ex_g (some 60) (.bool true) rfl rfl (exec_leq _ _ _ _ rfl i z rfl rfl true (decide_eq_true (by omega))) ?_
            go_frame
            refine ls_ex (some 61) (.bool true) rfl rfl (exec_pick _ _ _ rfl true rfl (.bool true) rfl) ?_
            go_frame
            refine wpList_nil ?_
            go_upto_region 13 with (fail)
            refine wp_region_lit ?_
            refine ls_ex (some 11) (.int .i64 0) rfl rfl (exec_assign _ rfl (.int .i64 0) rfl) ?_
            go_frame
            refine wpList_nil ?_
            go_wp2_with fail
            obtain ⟨wv, rfl⟩ : ∃ x : World, x = wr := ⟨_, rfl⟩
            go_loopw [11] (fun s11 wr => ∃ k : Nat, k ≤ d ∧ s11 = .int .i64 k ∧ Below w.heap.size w wr ∧ At wr w.heap.size (.cells #[.int .i64 0, .int .i64 0, .int .i64 0, .int .i64 0, .slice none 0 0] 31 (0, 0)) ∧ At wr Wz18.heap.size (.cells #[.int .i64 p, .int .i64 d, .int .i64 d, .int .i64 d, .slice (some ⟨g, 0, none⟩) N N] 31 (0, 0)) ∧ At wr g (.cells (iar (rsP p xs d (z) (i) (k))) 2 (0, 0)) ∧ At wr h (.cells (iar (restR p xs z)) 2 (0, 0))) (fun s11 _ => d - (intOf s11).toNat)
            case atStart => exact ⟨0, by omega, rfl, hB, h1, h2, hL, hR⟩
            case round =>
              clear hB h1 h2 hL hR
              obtain ⟨k, hk, rfl, hB, h1, h2, hL, hR⟩ := hrel
              by_cases hlt3 : k < d
              · obtain ⟨X, hX9⟩ : ∃ z9, rsF p xs i (z - i) k = z9 := ⟨_, rfl⟩
                have hzi : i + (z - i) = z := by omega
                have HXg : Hid ((restR p xs z)[k]? = some X) := Lib.hid (by rw [← hX9, ← rsF_get p xs (i := i) (j := z - i) (by rw [HXl.out]; exact hlt3), hzi])
                have HSet : Hid ((rsP p xs d (z) (i) (k)).set ((i * d + (z - i)) * d + k) X = rsP p xs d (z) (i) (k + 1)) := Lib.hid (rsP_set hiz (by omega) hlt3 hX9)
                have hpl := place_lt (i := i) (j := z - i) (k := k) (n0 := d) (n1 := d) (n2 := d) hlt2 (by omega) hlt3
                have HLen := Lib.hid (rsP_len p xs d z i k)
                rw [HNe.out] at HLen hpl
                obtain ⟨D1, hD1⟩ : ∃ z9 : Nat, i * d = z9 := ⟨_, rfl⟩
                obtain ⟨D2, hD2⟩ : ∃ z9 : Nat, D1 + z = z9 := ⟨_, rfl⟩
                obtain ⟨D3, hD3⟩ : ∃ z9 : Nat, D1 + (z - i) = z9 := ⟨_, rfl⟩
                rw [hD1, hD3] at HSet hpl
                obtain ⟨D4, hD4⟩ : ∃ z9 : Nat, D3 * d = z9 := ⟨_, rfl⟩
                rw [hD4] at HSet hpl
                obtain ⟨D, hD⟩ : ∃ z9 : Nat, D4 + k = z9 := ⟨_, rfl⟩
                rw [hD] at HSet hpl
                have m1 : D3 ≤ D4 := by rw [← hD4]; exact Nat.le_mul_of_pos_right _ (by omega)
                have hDl := hpl
                have HD1 : Hid (IntKind.i64.wrap ((i : Int) * (d : Int)) = (D1 : Int)) := Lib.hid (by rw [← hD1, Int.natCast_mul]; exact IntWalk.i64_in _ (by omega))
                have HD2 : Hid (IntKind.i64.wrap ((D1 : Int) + (z : Int)) = (D2 : Int)) := Lib.hid (by rw [← hD2, Int.natCast_add]; exact IntWalk.i64_in _ (by omega))
                have HD3 : Hid (IntKind.i64.wrap ((D2 : Int) - (i : Int)) = (D3 : Int)) := Lib.hid (by rw [IntWalk.i64_in _ (by omega)]; omega)
                have HD4 : Hid (IntKind.i64.wrap ((D3 : Int) * (d : Int)) = (D4 : Int)) := Lib.hid (by rw [← hD4, Int.natCast_mul]; exact IntWalk.i64_in _ (by omega))
                have HD : Hid (IntKind.i64.wrap ((D4 : Int) + (k : Int)) = (D : Int)) := Lib.hid (by rw [← hD, Int.natCast_add]; exact IntWalk.i64_in _ (by omega))
                have HDN := Lib.hid hpl
                clear hX9 hzi hpl hD1 hD2 hD3 hD4 hD m1
                go_upto_region 14 with (fail)
                refine wp_region_lit ?_
                refine ls_ex (some 64) (.int .i64 k) rfl rfl (exec_move _ rfl (.int .i64 k) rfl) ?_
                go_frame
                refine ls_ex (some 65) (.int .i64 d) rfl rfl (exec_move _ rfl (.int .i64 d) rfl) ?_
                go_frame
                refine ls_ex (some 66) (.bool true) rfl rfl (exec_lss _ _ _ _ rfl k d rfl rfl true (decide_eq_true (by omega))) ?_
                go_frame
                refine wpList_nil ?_
                go_upto_region 16 with (fail)
                refine wp_region_y (zs := [18]) (S := fun w' => Below w.heap.size w w' ∧ At w' Wz18.heap.size (.cells #[.int .i64 p, .int .i64 d, .int .i64 d, .int .i64 d, .slice (some ⟨g, 0, none⟩) N N] 31 (0, 0)) ∧ At w' h (.cells (iar (restR p xs z)) 2 (0, 0))) (S2 := fun w' => True) (by kernel_rfl) ?_
                change wpAnyY _ _ _ _ _ _ _ _ _ _ (World.drew _)
                generalize hwdz45 : World.drew _ = wdz45
                replace hB : Below w.heap.size w wdz45 := by rw [← hwdz45]; exact hB.drew
                replace h1 : At wdz45 w.heap.size (.cells #[.int .i64 0, .int .i64 0, .int .i64 0, .int .i64 0, .slice none 0 0] 31 (0, 0)) := by rw [← hwdz45]; exact h1
                replace h2 : At wdz45 Wz18.heap.size (.cells #[.int .i64 p, .int .i64 d, .int .i64 d, .int .i64 d, .slice (some ⟨g, 0, none⟩) N N] 31 (0, 0)) := by rw [← hwdz45]; exact h2
                replace hL : At wdz45 g (.cells (iar (rsP p xs d (z) (i) (k))) 2 (0, 0)) := by rw [← hwdz45]; exact hL
                replace hR : At wdz45 h (.cells (iar (restR p xs z)) 2 (0, 0)) := by rw [← hwdz45]; exact hR
                clear hwdz45
                refine y_yield 0 (some 69) (.pointer (some ⟨Wz18.heap.size, 4, none⟩)) rfl (by kernel_rfl) (by kernel_rfl) (by kernel_rfl) (fun _ _ _ h => h) rfl rfl ⟨hB, h2, hR⟩ (fun w' h' => exec_fieldAddr 31 _ 4 rfl _ (by kernel_rfl)) ?_
                go_frame
                refine y_yield 1 (some 70) (.slice (some ⟨g, 0, none⟩) N N) rfl (by kernel_rfl) (by kernel_rfl) (by kernel_rfl) (fun _ _ _ h => h) rfl rfl ⟨hB, h2, hR⟩ (fun w' h' => exec_load_one 22 _ rfl Wz18.heap.size 4 rfl (.slice (some ⟨g, 0, none⟩) N N) _ Try.underlying22 rfl (h'.2.1.at_ 4)) ?_
                go_frame
                refine y_yield 2 (some 71) (.int .i64 i) rfl (by kernel_rfl) (by kernel_rfl) (by kernel_rfl) (fun _ _ _ h => h) rfl rfl ⟨hB, h2, hR⟩ (fun w' h' => exec_move _ rfl (.int .i64 i) rfl) ?_
                go_frame
                refine y_yield 3 (some 72) (.int .i64 d) rfl (by kernel_rfl) (by kernel_rfl) (by kernel_rfl) (fun _ _ _ h => h) rfl rfl ⟨hB, h2, hR⟩ (fun w' h' => exec_move _ rfl (.int .i64 d) rfl) ?_
                go_frame
                refine y_yield 4 (some 73) (.int .i64 D1) rfl (by kernel_rfl) (by kernel_rfl) (by kernel_rfl) (fun _ _ _ h => h) rfl rfl ⟨hB, h2, hR⟩ (fun w' h' => exec_mul _ _ _ _ rfl i d D1 rfl rfl HD1.out) ?_
                go_frame
                refine y_yield 5 (some 74) (.int .i64 z) rfl (by kernel_rfl) (by kernel_rfl) (by kernel_rfl) (fun _ _ _ h => h) rfl rfl ⟨hB, h2, hR⟩ (fun w' h' => exec_move _ rfl (.int .i64 z) rfl) ?_
                go_frame
                refine y_yield 6 (some 75) (.int .i64 D2) rfl (by kernel_rfl) (by kernel_rfl) (by kernel_rfl) (fun _ _ _ h => h) rfl rfl ⟨hB, h2, hR⟩ (fun w' h' => exec_add _ _ _ _ rfl D1 z D2 rfl rfl HD2.out) ?_
                go_frame
                refine y_yield 7 (some 76) (.int .i64 i) rfl (by kernel_rfl) (by kernel_rfl) (by kernel_rfl) (fun _ _ _ h => h) rfl rfl ⟨hB, h2, hR⟩ (fun w' h' => exec_move _ rfl (.int .i64 i) rfl) ?_
                go_frame
                refine y_yield 8 (some 77) (.int .i64 D3) rfl (by kernel_rfl) (by kernel_rfl) (by kernel_rfl) (fun _ _ _ h => h) rfl rfl ⟨hB, h2, hR⟩ (fun w' h' => exec_sub _ _ _ _ rfl D2 i D3 rfl rfl HD3.out) ?_
                go_frame
                refine y_yield 9 (some 78) (.int .i64 d) rfl (by kernel_rfl) (by kernel_rfl) (by kernel_rfl) (fun _ _ _ h => h) rfl rfl ⟨hB, h2, hR⟩ (fun w' h' => exec_move _ rfl (.int .i64 d) rfl) ?_
                go_frame
                refine y_yield 10 (some 79) (.int .i64 D4) rfl (by kernel_rfl) (by kernel_rfl) (by kernel_rfl) (fun _ _ _ h => h) rfl rfl ⟨hB, h2, hR⟩ (fun w' h' => exec_mul _ _ _ _ rfl D3 d D4 rfl rfl HD4.out) ?_
                go_frame
                refine y_yield 11 (some 80) (.int .i64 k) rfl (by kernel_rfl) (by kernel_rfl) (by kernel_rfl) (fun _ _ _ h => h) rfl rfl ⟨hB, h2, hR⟩ (fun w' h' => exec_move _ rfl (.int .i64 k) rfl) ?_
                go_frame
                refine y_yield 12 (some 81) (.int .i64 D) rfl (by kernel_rfl) (by kernel_rfl) (by kernel_rfl) (fun _ _ _ h => h) rfl rfl ⟨hB, h2, hR⟩ (fun w' h' => exec_add _ _ _ _ rfl D4 k D rfl rfl HD.out) ?_
                go_frame
                refine y_yield 13 (some 82) (.slice (some ⟨h, 0, none⟩) d d) rfl (by kernel_rfl) (by kernel_rfl) (by kernel_rfl) (fun _ _ _ h => h) rfl rfl ⟨hB, h2, hR⟩ (fun w' h' => exec_move _ rfl (.slice (some ⟨h, 0, none⟩) d d) rfl) ?_
                go_frame
                refine y_yield 14 (some 83) (.int .i64 k) rfl (by kernel_rfl) (by kernel_rfl) (by kernel_rfl) (fun _ _ _ h => h) rfl rfl ⟨hB, h2, hR⟩ (fun w' h' => exec_move _ rfl (.int .i64 k) rfl) ?_
                go_frame
                refine y_yield 15 (some 84) (.pointer (some ⟨h, 0 + k * 1, none⟩)) rfl (by kernel_rfl) (by kernel_rfl) (by kernel_rfl) (fun _ _ _ h => h) rfl rfl ⟨hB, h2, hR⟩ (fun w' h' => exec_index_slice _ 2 _ _ rfl h 0 d d k 1 rfl rfl Try.underlying22 (by kernel_rfl) hlt3) ?_
                go_frame
                refine y_yield 16 (some 85) (.int .i64 X) rfl (by kernel_rfl) (by kernel_rfl) (by kernel_rfl) (fun _ _ _ h => h) rfl rfl ⟨hB, h2, hR⟩ (fun w' h' => exec_load_one 2 _ rfl h (0 + k * 1) rfl (.int .i64 X) _ Try.underlying2 rfl (cell_iar9 h'.2.2 HXg.out)) ?_
                go_frame
                refine y_yield 17 (some 86) (.pointer (some ⟨g, 0 + D * 1, none⟩)) rfl (by kernel_rfl) (by kernel_rfl) (by kernel_rfl) (fun _ _ _ h => h) rfl rfl ⟨hB, h2, hR⟩ (fun w' h' => exec_index_slice _ 2 _ _ rfl g 0 N N D 1 rfl rfl Try.underlying22 (by kernel_rfl) HDN.out) ?_
                go_frame
                refine y_oper 18 (by kernel_rfl) rfl rfl (fun K' hK' => ?_)
                have lz48 := hB.size
                have lz49 := h1.lt
                have lz50 := h2.lt
                have lz51 := hL.lt
                have lz52 := hR.lt
                refine wp_store_one 2 _ _ rfl rfl g (0 + D * 1) rfl (.int .i64 X) rfl rfl rfl _ _ hL (by kernel_rfl) (by rw [iar_size, HLen.out]; omega) (fun Wz46 pz47 => ?_)
                replace hB := pz47.below hB (by omega)
                replace h1 := pz47.other h1 (by omega)
                replace h2 := pz47.other h2 (by omega)
                replace hR := pz47.other hR (by omega)
                replace hL : At Wz46 g (.cells (iar (rsP p xs d (z) (i) (k + 1))) 2 (0, 0)) := by have h9 := pz47.at_; rw [show 0 + D * 1 = D by omega, iar_set] at h9; rwa [HSet.out] at h9
                refine hK' _ _ ⟨hB, h2, hR⟩ (fun h => absurd (by decide) h) ?_
                clear hK' K' pz47
                refine y_done (by kernel_rfl) ?_ _
                go_upto_region 15 with (fail)
                refine wp_region_lit ?_
                refine ls_ex (some 67) (.int .i64 k) rfl rfl (exec_move _ rfl (.int .i64 k) rfl) ?_
                go_frame
                refine ls_ex (some 68) (.int .i64 (k + 1)) rfl rfl (exec_add _ _ _ _ rfl k 1 (k + 1) rfl rfl (IntWalk.i64_in _ (by omega))) ?_
                go_frame
                refine ls_ex (some 11) (.int .i64 (k + 1)) rfl rfl (exec_assign _ rfl (.int .i64 (k + 1)) rfl) ?_
                go_frame
                refine wpList_nil ?_
                go_wp2_with fail
                go_roundw
                case rel => exact ⟨k + 1, by omega, by go_num, hB, h1, h2, hL, hR⟩
                case measure => simp [intOf]; omega
              · have HE : Hid (rsP p xs d (z) (i) (k) = rsP p xs d (z) (i + 1) (0)) := Lib.hid (by rw [show k = d by omega, rsP_k])
                rw [HE.out] at hL
                go_upto_region 14 with (fail)
                refine wp_region_lit ?_
                refine ls_ex (some 64) (.int .i64 k) rfl rfl (exec_move _ rfl (.int .i64 k) rfl) ?_
                go_frame
                refine ls_ex (some 65) (.int .i64 d) rfl rfl (exec_move _ rfl (.int .i64 d) rfl) ?_
                go_frame
                refine ls_ex (some 66) (.bool false) rfl rfl (exec_lss _ _ _ _ rfl k d rfl rfl false (decide_eq_false (by omega))) ?_
                go_frame
                refine wpList_nil ?_
                go_upto_region 12 with (fail)
                refine wp_region_lit ?_
                refine ls_ex (some 62) (.int .i64 i) rfl rfl (exec_move _ rfl (.int .i64 i) rfl) ?_
                go_frame
                refine ls_ex (some 63) (.int .i64 (i + 1)) rfl rfl (exec_add _ _ _ _ rfl i 1 (i + 1) rfl rfl (IntWalk.i64_in _ (by omega))) ?_
                go_frame
                refine ls_ex (some 10) (.int .i64 (i + 1)) rfl rfl (exec_assign _ rfl (.int .i64 (i + 1)) rfl) ?_
                go_frame
                refine wpList_nil ?_
                go_wp2_with fail
                go_roundw
                case rel => exact ⟨i + 1, by omega, by omega, by go_num, hB, h1, h2, hL, hR⟩
                case measure => simp [intOf]; omega
          · have HE : Hid (rsP p xs d (z) (i) (0) = rsP p xs d (z + 1) (z + 2 - d) (0)) := Lib.hid (rsP_i p xs (by omega))
            rw [HE.out] at hL
            obtain ⟨R, hRe⟩ : ∃ z9, (restR p xs z)[L]? = some z9 := ⟨_, List.getElem?_eq_getElem (by rw [restR_len, HXl.out]; omega)⟩
            have hRb := (restR_in hp5.1 xs z).get hRe
            have HRe := Lib.hid hRe
            obtain ⟨NEW, hNEW⟩ : ∃ z9, restR p xs (z + 1) = z9 := ⟨_, rfl⟩
            have HNEW := Lib.hid hNEW
            have HN1 : Hid (NEW.length = d) := Lib.hid (by rw [← hNEW, restR_len, HXl.out])
            clear hRe hNEW
            go_upto_region 11 with (fail)
            refine wp_region_lit ?_
            refine ls_ex (some 54) (.int .i64 i) rfl rfl (exec_move _ rfl (.int .i64 i) rfl) ?_
            go_frame
            refine ls_ex (some 55) (.int .i64 d) rfl rfl (exec_move _ rfl (.int .i64 d) rfl) ?_
            go_frame
            refine ls_ex (some 56) (.bool true) rfl rfl (exec_lss _ _ _ _ rfl i d rfl rfl true (decide_eq_true (by omega))) ?_
            go_frame
            refine ls_ex (some 57) (.bool true) rfl rfl (exec_move _ rfl (.bool true) rfl) ?_
            go_frame
            refine ls_ex_g (some 58) (.int .i64 i) rfl rfl (exec_move _ rfl (.int .i64 i) rfl) ?_
            go_frame
            refine ls_ex_g (some 59) (.int .i64 z) rfl rfl (exec_move _ rfl (.int .i64 z) rfl) ?_
            go_frame
            refine ls_ex_g (some 60) (.bool false) rfl rfl (exec_leq _ _ _ _ rfl i z rfl rfl false (decide_eq_false (by omega))) ?_
            go_frame
            refine ls_ex (some 61) (.bool false) rfl rfl (exec_pick _ _ _ rfl true rfl (.bool false) rfl) ?_
            go_frame
            refine wpList_nil ?_
            go_upto_region 17 with (fail)
            refine wp_region_y (zs := []) (S := fun w' => Below w.heap.size w w' ∧ At w' h (.cells (iar (restR p xs z)) 2 (0, 0))) (S2 := fun w' => True) (by kernel_rfl) ?_
            change wpAnyY _ _ _ _ _ _ _ _ _ _ (World.drew _)
            generalize hwdz53 : World.drew _ = wdz53
            replace hB : Below w.heap.size w wdz53 := by rw [← hwdz53]; exact hB.drew
            replace h1 : At wdz53 w.heap.size (.cells #[.int .i64 0, .int .i64 0, .int .i64 0, .int .i64 0, .slice none 0 0] 31 (0, 0)) := by rw [← hwdz53]; exact h1
            replace h2 : At wdz53 Wz18.heap.size (.cells #[.int .i64 p, .int .i64 d, .int .i64 d, .int .i64 d, .slice (some ⟨g, 0, none⟩) N N] 31 (0, 0)) := by rw [← hwdz53]; exact h2
            replace hL : At wdz53 g (.cells (iar (rsP p xs d (z + 1) (z + 2 - d) (0))) 2 (0, 0)) := by rw [← hwdz53]; exact hL
            replace hR : At wdz53 h (.cells (iar (restR p xs z)) 2 (0, 0)) := by rw [← hwdz53]; exact hR
            clear hwdz53
            refine y_yield 0 (some 87) (.slice (some ⟨h, 0, none⟩) d d) rfl (by kernel_rfl) (by kernel_rfl) (by kernel_rfl) (fun _ _ _ h => h) rfl rfl ⟨hB, hR⟩ (fun w' h' => exec_move _ rfl (.slice (some ⟨h, 0, none⟩) d d) rfl) ?_
            go_frame
            refine y_yield 1 (some 88) (.int .i64 d) rfl (by kernel_rfl) (by kernel_rfl) (by kernel_rfl) (fun _ _ _ h => h) rfl rfl ⟨hB, hR⟩ (fun w' h' => exec_move _ rfl (.int .i64 d) rfl) ?_
            go_frame
            refine y_yield 2 (some 89) (.int .i64 L) rfl (by kernel_rfl) (by kernel_rfl) (by kernel_rfl) (fun _ _ _ h => h) rfl rfl ⟨hB, hR⟩ (fun w' h' => exec_sub _ _ _ _ rfl d 1 L rfl rfl HLs.out) ?_
            go_frame
            refine y_yield 3 (some 90) (.pointer (some ⟨h, 0 + L * 1, none⟩)) rfl (by kernel_rfl) (by kernel_rfl) (by kernel_rfl) (fun _ _ _ h => h) rfl rfl ⟨hB, hR⟩ (fun w' h' => exec_index_slice _ 2 _ _ rfl h 0 d d L 1 rfl rfl Try.underlying22 (by kernel_rfl) hLd) ?_
            go_frame
            refine y_yield 4 (some 91) (.int .i64 R) rfl (by kernel_rfl) (by kernel_rfl) (by kernel_rfl) (fun _ _ _ h => h) rfl rfl ⟨hB, hR⟩ (fun w' h' => exec_load_one 2 _ rfl h (0 + L * 1) rfl (.int .i64 R) _ Try.underlying2 rfl (cell_iar9 h'.2 HRe.out)) ?_
            go_frame
            refine y_yield 5 (some 92) (.int .i64 d) rfl (by kernel_rfl) (by kernel_rfl) (by kernel_rfl) (fun _ _ _ h => h) rfl rfl ⟨hB, hR⟩ (fun w' h' => exec_move _ rfl (.int .i64 d) rfl) ?_
            go_frame
            refine y_two 6 7 (by kernel_rfl) rfl rfl rfl rfl (fun K' hK' => ?_) (fun K' hK' => ?_)
            · have lz54 := hB.size
              have lz55 := h1.lt
              have lz56 := h2.lt
              have lz57 := hL.lt
              have lz58 := hR.lt
              have hgl := hL.lt
              have hhl := hR.lt
              refine wp_make_Iz (some 93) rfl _ _ rfl d rfl rfl (by omega) (fun Wz59 nnz60 => ?_)
              have bz61 := nnz60.below (Below.refl _ _) (Nat.le_refl _)
              replace hB := below_after hB bz61
              replace h1 := h1.after bz61
              replace h2 := h2.after bz61
              replace hL := hL.after bz61
              replace hR := hR.after bz61
              have hN : At Wz59 wdz53.heap.size (.cells (iar (List.replicate d 0)) 2 (0, 0)) := nnz60.at_
              refine hK' _ _ ⟨hB, hR⟩ (fun _ => trivial) ?_
              clear hK' K' nnz60 bz61
              go_frame
              refine y_oper 7 (by kernel_rfl) rfl rfl (fun K' hK' => ?_)
              refine wp_exec (some 12) rfl (.int .i64 R) (exec_assign _ rfl (.int .i64 R) rfl) ?_
              refine hK' _ _ ⟨hB, hR⟩ (fun _ => trivial) ?_
              clear hK' K'
              go_frame
              refine y_oper 8 (by kernel_rfl) rfl rfl (fun K' hK' => ?_)
              refine wp_exec (some 13) rfl (.slice (some ⟨wdz53.heap.size, 0, none⟩) d d) (exec_assign _ rfl (.slice (some ⟨wdz53.heap.size, 0, none⟩) d d) rfl) ?_
              refine hK' _ _ ⟨hB, hR⟩ (fun _ => trivial) ?_
              clear hK' K'
              go_frame
              refine y_done (by kernel_rfl) ?_ _
              go_upto_region 18 with (fail)
              refine wp_region_lit ?_
              refine ls_ex (some 14) (.int .i64 0) rfl rfl (exec_assign _ rfl (.int .i64 0) rfl) ?_
              go_frame
              refine wpList_nil ?_
              go_wp2_with fail
              obtain ⟨wq, rfl⟩ : ∃ x : World, x = wr := ⟨_, rfl⟩
              go_loopw [14] (fun s14 wr => ∃ k : Nat, k ≤ d ∧ s14 = .int .i64 k ∧ Below w.heap.size w wr ∧ At wr w.heap.size (.cells #[.int .i64 0, .int .i64 0, .int .i64 0, .int .i64 0, .slice none 0 0] 31 (0, 0)) ∧ At wr Wz18.heap.size (.cells #[.int .i64 p, .int .i64 d, .int .i64 d, .int .i64 d, .slice (some ⟨g, 0, none⟩) N N] 31 (0, 0)) ∧ At wr g (.cells (iar (rsP p xs d (z + 1) (z + 2 - d) (0))) 2 (0, 0)) ∧ At wr h (.cells (iar (restR p xs z)) 2 (0, 0)) ∧ At wr wdz53.heap.size (.cells (iar (mixR NEW ZER (k))) 2 (0, 0))) (fun s14 _ => d - (intOf s14).toNat)
              case atStart => exact ⟨0, by omega, rfl, hB, h1, h2, hL, hR, by rw [mixR_zero, ← HZER.out]; exact hN⟩
              case round =>
                clear hB h1 h2 hL hR hN
                obtain ⟨k, hk, rfl, hB, h1, h2, hL, hR, hN9⟩ := hrel
                by_cases hlt4 : k < d
                · by_cases hk0 : k = 0
                  · obtain ⟨X9, hX9⟩ : ∃ z9, xs[k]? = some z9 := ⟨_, List.getElem?_eq_getElem (by rw [HXl.out]; exact hlt4)⟩
                    have hX9b := inP.get HXi.out hX9
                    obtain ⟨V, hV⟩ : ∃ z9 : Int, (if k = 0 then 0 else (restR p xs z)[k - 1]?.getD 0) = z9 := ⟨_, rfl⟩
                    have hVb : 0 ≤ V ∧ V < p := by rw [← hV]; exact inP.prev (restR_in hp5.1 xs z) (by omega) (by rw [restR_len, HXl.out]; exact hlt4)
                    have hMb := mul_b9 (a := R) (b := X9) (by omega) (by omega)
                    obtain ⟨M1, hM1⟩ : ∃ z9 : Int, R * X9 = z9 := ⟨_, rfl⟩
                    rw [hM1] at hMb
                    obtain ⟨A1, hA1⟩ : ∃ z9 : Int, V - M1 = z9 := ⟨_, rfl⟩
                    obtain ⟨X, hX0⟩ : ∃ z9 : Int, A1 % p = z9 := ⟨_, rfl⟩
                    have HM1 : Hid (IntKind.i64.wrap (R * X9) = M1) := Lib.hid (by rw [hM1]; exact IntWalk.i64_in _ (by omega))
                    have HA1 : Hid (IntKind.i64.wrap (V - M1) = A1) := Lib.hid (by rw [hA1]; exact IntWalk.i64_in _ (by omega))
                    have HX0 := Lib.hid hX0
                    have HXg := Lib.hid hX9
                    have HNX : Hid (NEW[k]? = some X) := Lib.hid (by rw [← HNEW.out, restR_succ, stepR_get _ _ _ (by rw [restR_len, HXl.out]; exact hlt4)]; unfold stR; rw [restR_len, HXl.out, show d - 1 = L by omega, HRe.out, hX9, Option.getD_some, Option.getD_some, hV, ← stR_spec, hM1, hA1, hX0])
                    have HS0 : Hid ((mixR NEW ZER (k)).set k X = mixR NEW ZER (k + 1)) := Lib.hid (mixR_set HN1.out HZl.out hlt4 HNX.out)
                    have HMl : Hid ((mixR NEW ZER (k)).length = d) := Lib.hid (mixR_len HN1.out HZl.out (by omega))
                    have HVo : Hid ((mixR NEW ZER (k))[k]? = some V) := Lib.hid (by rw [mixR_get HN1.out hlt4, ← HZER.out, ← hV, if_pos hk0]; exact rep0_get hlt4)
                    clear hX9 hM1 hA1 hX0 hMb hV
                    go_upto_region 19 with (fail)
                    refine wp_region_lit ?_
                    refine ls_ex (some 94) (.int .i64 k) rfl rfl (exec_move _ rfl (.int .i64 k) rfl) ?_
                    go_frame
                    refine ls_ex (some 95) (.int .i64 d) rfl rfl (exec_move _ rfl (.int .i64 d) rfl) ?_
                    go_frame
                    refine ls_ex (some 96) (.bool true) rfl rfl (exec_lss _ _ _ _ rfl k d rfl rfl true (decide_eq_true (by omega))) ?_
                    go_frame
                    refine wpList_nil ?_
                    go_upto_region 21 with (fail)
                    refine wp_region_lit ?_
                    refine ls_ex (some 99) (.int .i64 k) rfl rfl (exec_move _ rfl (.int .i64 k) rfl) ?_
                    go_frame
                    refine ls_ex (some 100) (.bool false) rfl rfl (exec_gtr _ _ _ _ rfl k 0 rfl rfl false (decide_eq_false (by omega))) ?_
                    go_frame
                    refine wpList_nil ?_
                    go_upto_region 23 with (fail)
                    refine wp_region_y (zs := [16]) (S := fun w' => Below w.heap.size w w') (S2 := fun w' => At w' wdz53.heap.size (.cells (iar (mixR NEW ZER (k))) 2 (0, 0))) (by kernel_rfl) ?_
                    change wpAnyY _ _ _ _ _ _ _ _ _ _ (World.drew _)
                    generalize hwdz62 : World.drew _ = wdz62
                    replace hB : Below w.heap.size w wdz62 := by rw [← hwdz62]; exact hB.drew
                    replace h1 : At wdz62 w.heap.size (.cells #[.int .i64 0, .int .i64 0, .int .i64 0, .int .i64 0, .slice none 0 0] 31 (0, 0)) := by rw [← hwdz62]; exact h1
                    replace h2 : At wdz62 Wz18.heap.size (.cells #[.int .i64 p, .int .i64 d, .int .i64 d, .int .i64 d, .slice (some ⟨g, 0, none⟩) N N] 31 (0, 0)) := by rw [← hwdz62]; exact h2
                    replace hL : At wdz62 g (.cells (iar (rsP p xs d (z + 1) (z + 2 - d) (0))) 2 (0, 0)) := by rw [← hwdz62]; exact hL
                    replace hR : At wdz62 h (.cells (iar (restR p xs z)) 2 (0, 0)) := by rw [← hwdz62]; exact hR
                    replace hN9 : At wdz62 wdz53.heap.size (.cells (iar (mixR NEW ZER (k))) 2 (0, 0)) := by rw [← hwdz62]; exact hN9
                    clear hwdz62
                    refine y_yield 0 (some 109) (.slice (some ⟨wdz53.heap.size, 0, none⟩) d d) rfl (by kernel_rfl) (by kernel_rfl) (by kernel_rfl) (fun _ _ _ h => h) rfl rfl hB (fun w' h' => exec_move _ rfl (.slice (some ⟨wdz53.heap.size, 0, none⟩) d d) rfl) ?_
                    go_frame
                    refine y_yield 1 (some 110) (.int .i64 k) rfl (by kernel_rfl) (by kernel_rfl) (by kernel_rfl) (fun _ _ _ h => h) rfl rfl hB (fun w' h' => exec_move _ rfl (.int .i64 k) rfl) ?_
                    go_frame
                    refine y_yield 2 (some 111) (.int .i64 p) rfl (by kernel_rfl) (by kernel_rfl) (by kernel_rfl) (fun _ _ _ h => h) rfl rfl hB (fun w' h' => exec_move _ rfl (.int .i64 p) rfl) ?_
                    go_frame
                    refine y_yield 3 (some 112) (.slice (some ⟨wdz53.heap.size, 0, none⟩) d d) rfl (by kernel_rfl) (by kernel_rfl) (by kernel_rfl) (fun _ _ _ h => h) rfl rfl hB (fun w' h' => exec_move _ rfl (.slice (some ⟨wdz53.heap.size, 0, none⟩) d d) rfl) ?_
                    go_frame
                    refine y_yield 4 (some 113) (.int .i64 k) rfl (by kernel_rfl) (by kernel_rfl) (by kernel_rfl) (fun _ _ _ h => h) rfl rfl hB (fun w' h' => exec_move _ rfl (.int .i64 k) rfl) ?_
                    go_frame
                    refine y_yield 5 (some 114) (.pointer (some ⟨wdz53.heap.size, 0 + k * 1, none⟩)) rfl (by kernel_rfl) (by kernel_rfl) (by kernel_rfl) (fun _ _ _ h => h) rfl rfl hB (fun w' h' => exec_index_slice _ 2 _ _ rfl wdz53.heap.size 0 d d k 1 rfl rfl Try.underlying22 (by kernel_rfl) hlt4) ?_
                    go_frame
                    refine y_yield2 6 (some 115) (.int .i64 V) rfl (by kernel_rfl) (by kernel_rfl) (by kernel_rfl) (by kernel_rfl) (fun _ _ _ h => h) rfl rfl hB hN9 (fun w' h' h2' => exec_load_one 2 _ rfl wdz53.heap.size (0 + k * 1) rfl (.int .i64 V) _ Try.underlying2 rfl (cell_iar9 h2' HVo.out)) ?_
                    go_frame
                    refine y_yield 7 (some 116) (.int .i64 R) rfl (by kernel_rfl) (by kernel_rfl) (by kernel_rfl) (fun _ _ _ h => h) rfl rfl hB (fun w' h' => exec_move _ rfl (.int .i64 R) rfl) ?_
                    go_frame
                    refine y_yield 8 (some 117) (.slice (some ⟨bB, oB, none⟩) d cB) rfl (by kernel_rfl) (by kernel_rfl) (by kernel_rfl) (fun _ _ _ h => h) rfl rfl hB (fun w' h' => exec_move _ rfl (.slice (some ⟨bB, oB, none⟩) d cB) rfl) ?_
                    go_frame
                    refine y_yield 9 (some 118) (.int .i64 k) rfl (by kernel_rfl) (by kernel_rfl) (by kernel_rfl) (fun _ _ _ h => h) rfl rfl hB (fun w' h' => exec_move _ rfl (.int .i64 k) rfl) ?_
                    go_frame
                    refine y_yield 10 (some 119) (.pointer (some ⟨bB, oB + k * 1, none⟩)) rfl (by kernel_rfl) (by kernel_rfl) (by kernel_rfl) (fun _ _ _ h => h) rfl rfl hB (fun w' h' => exec_index_slice _ 2 _ _ rfl bB oB d cB k 1 rfl rfl Try.underlying22 (by kernel_rfl) hlt4) ?_
                    go_frame
                    refine y_yield 11 (some 120) (.int .i64 X9) rfl (by kernel_rfl) (by kernel_rfl) (by kernel_rfl) (fun _ _ _ h => h) rfl rfl hB (fun w' h' => exec_load_one 2 _ rfl bB (oB + k * 1) rfl (.int .i64 X9) _ Try.underlying2 rfl (RdI.c1r (hX.keep h') HXg.out)) ?_
                    go_frame
                    refine y_yield 12 (some 121) (.int .i64 M1) rfl (by kernel_rfl) (by kernel_rfl) (by kernel_rfl) (fun _ _ _ h => h) rfl rfl hB (fun w' h' => exec_mul _ _ _ _ rfl R X9 M1 rfl rfl HM1.out) ?_
                    go_frame
                    refine y_yield 13 (some 122) (.int .i64 A1) rfl (by kernel_rfl) (by kernel_rfl) (by kernel_rfl) (fun _ _ _ h => h) rfl rfl hB (fun w' h' => exec_sub _ _ _ _ rfl V M1 A1 rfl rfl HA1.out) ?_
                    go_frame
                    refine y_oper 14 (by kernel_rfl) rfl rfl (fun K' hK' => ?_)
                    have lz65 := hB.size
                    have lz66 := h1.lt
                    have lz67 := h2.lt
                    have lz68 := hL.lt
                    have lz69 := hR.lt
                    have lz70 := hN9.lt
                    refine wp_call2 (some 123) rfl 42 _ _ _ rfl (fun args w => by kernel_rfl) _ _ rfl rfl _ (l01Mod_c p A1 _ (by omega) (by omega)) (fun e Wz63 h => ?_)
                    obtain ⟨rfl, rfl⟩ := h
                    rw [HX0.out]
                    refine ⟨_, rfl, ?_⟩
                    refine hK' _ _ hB (fun _ => hN9) ?_
                    clear hK' K'
                    go_frame
                    refine y_yield 15 (some 124) (.pointer (some ⟨wdz53.heap.size, 0 + k * 1, none⟩)) rfl (by kernel_rfl) (by kernel_rfl) (by kernel_rfl) (fun _ _ _ h => h) rfl rfl hB (fun w' h' => exec_index_slice _ 2 _ _ rfl wdz53.heap.size 0 d d k 1 rfl rfl Try.underlying22 (by kernel_rfl) hlt4) ?_
                    go_frame
                    refine y_oper 16 (by kernel_rfl) rfl rfl (fun K' hK' => ?_)
                    have lz73 := hB.size
                    have lz74 := h1.lt
                    have lz75 := h2.lt
                    have lz76 := hL.lt
                    have lz77 := hR.lt
                    have lz78 := hN9.lt
                    refine wp_store_one 2 _ _ rfl rfl wdz53.heap.size (0 + k * 1) rfl (.int .i64 X) rfl rfl rfl _ _ hN9 (by kernel_rfl) (by rw [iar_size, HMl.out]; omega) (fun Wz71 pz72 => ?_)
                    replace hB := pz72.below hB (by omega)
                    replace h1 := pz72.other h1 (by omega)
                    replace h2 := pz72.other h2 (by omega)
                    replace hL := pz72.other hL (by omega)
                    replace hR := pz72.other hR (by omega)
                    replace hN9 : At Wz71 wdz53.heap.size (.cells (iar (mixR NEW ZER (k + 1))) 2 (0, 0)) := by have h9 := pz72.at_; rw [show 0 + k * 1 = k by omega, iar_set] at h9; rwa [HS0.out] at h9
                    refine hK' _ _ hB (fun h => absurd (by decide) h) ?_
                    clear hK' K' pz72
                    refine y_done (by kernel_rfl) ?_ _
                    go_upto_region 20 with (fail)
                    refine wp_region_lit ?_
                    refine ls_ex (some 97) (.int .i64 k) rfl rfl (exec_move _ rfl (.int .i64 k) rfl) ?_
                    go_frame
                    refine ls_ex (some 98) (.int .i64 (k + 1)) rfl rfl (exec_add _ _ _ _ rfl k 1 (k + 1) rfl rfl (IntWalk.i64_in _ (by omega))) ?_
                    go_frame
                    refine ls_ex (some 14) (.int .i64 (k + 1)) rfl rfl (exec_assign _ rfl (.int .i64 (k + 1)) rfl) ?_
                    go_frame
                    refine wpList_nil ?_
                    go_wp2_with fail
                    go_roundw
                    case rel => exact ⟨k + 1, by omega, by go_num, hB, h1, h2, hL, hR, hN9⟩
                    case measure => simp [intOf]; omega
                  · obtain ⟨X9, hX9⟩ : ∃ z9, xs[k]? = some z9 := ⟨_, List.getElem?_eq_getElem (by rw [HXl.out]; exact hlt4)⟩
                    have hX9b := inP.get HXi.out hX9
                    obtain ⟨V, hV⟩ : ∃ z9 : Int, (if k = 0 then 0 else (restR p xs z)[k - 1]?.getD 0) = z9 := ⟨_, rfl⟩
                    have hVb : 0 ≤ V ∧ V < p := by rw [← hV]; exact inP.prev (restR_in hp5.1 xs z) (by omega) (by rw [restR_len, HXl.out]; exact hlt4)
                    have hMb := mul_b9 (a := R) (b := X9) (by omega) (by omega)
                    obtain ⟨M1, hM1⟩ : ∃ z9 : Int, R * X9 = z9 := ⟨_, rfl⟩
                    rw [hM1] at hMb
                    obtain ⟨A1, hA1⟩ : ∃ z9 : Int, V - M1 = z9 := ⟨_, rfl⟩
                    obtain ⟨X, hX0⟩ : ∃ z9 : Int, A1 % p = z9 := ⟨_, rfl⟩
                    have HM1 : Hid (IntKind.i64.wrap (R * X9) = M1) := Lib.hid (by rw [hM1]; exact IntWalk.i64_in _ (by omega))
                    have HA1 : Hid (IntKind.i64.wrap (V - M1) = A1) := Lib.hid (by rw [hA1]; exact IntWalk.i64_in _ (by omega))
                    have HX0 := Lib.hid hX0
                    have HXg := Lib.hid hX9
                    have HNX : Hid (NEW[k]? = some X) := Lib.hid (by rw [← HNEW.out, restR_succ, stepR_get _ _ _ (by rw [restR_len, HXl.out]; exact hlt4)]; unfold stR; rw [restR_len, HXl.out, show d - 1 = L by omega, HRe.out, hX9, Option.getD_some, Option.getD_some, hV, ← stR_spec, hM1, hA1, hX0])
                    have HS0 : Hid ((mixR NEW ZER (k)).set k X = mixR NEW ZER (k + 1)) := Lib.hid (mixR_set HN1.out HZl.out hlt4 HNX.out)
                    have HMl : Hid ((mixR NEW ZER (k)).length = d) := Lib.hid (mixR_len HN1.out HZl.out (by omega))
                    obtain ⟨K1, hK1⟩ : ∃ z9, k - 1 = z9 := ⟨_, rfl⟩
                    have HK1 : Hid (IntKind.i64.wrap ((k : Int) - 1) = (K1 : Int)) := Lib.hid (by rw [IntWalk.i64_in _ (by omega)]; omega)
                    have HVr : Hid ((restR p xs z)[K1]? = some V) := Lib.hid (by rw [← hV, if_neg hk0, hK1, List.getElem?_eq_getElem (by rw [restR_len, HXl.out]; omega)]; rfl)
                    have HVo : Hid (((mixR NEW ZER (k)).set k V)[k]? = some V) := Lib.hid (List.getElem?_set_self (by rw [HMl.out]; exact hlt4))
                    have HS1 : Hid (((mixR NEW ZER (k)).set k V).set k X = mixR NEW ZER (k + 1)) := Lib.hid (by rw [List.set_set]; exact HS0.out)
                    have HMs : Hid (((mixR NEW ZER (k)).set k V).length = d) := Lib.hid (by rw [List.length_set, HMl.out])
                    clear hX9 hM1 hA1 hX0 hMb hV
                    go_upto_region 19 with (fail)
                    refine wp_region_lit ?_
                    refine ls_ex (some 94) (.int .i64 k) rfl rfl (exec_move _ rfl (.int .i64 k) rfl) ?_
                    go_frame
                    refine ls_ex (some 95) (.int .i64 d) rfl rfl (exec_move _ rfl (.int .i64 d) rfl) ?_
                    go_frame
                    refine ls_ex (some 96) (.bool true) rfl rfl (exec_lss _ _ _ _ rfl k d rfl rfl true (decide_eq_true (by omega))) ?_
                    go_frame
                    refine wpList_nil ?_
                    go_upto_region 21 with (fail)
                    refine wp_region_lit ?_
                    refine ls_ex (some 99) (.int .i64 k) rfl rfl (exec_move _ rfl (.int .i64 k) rfl) ?_
                    go_frame
                    refine ls_ex (some 100) (.bool true) rfl rfl (exec_gtr _ _ _ _ rfl k 0 rfl rfl true (decide_eq_true (by omega))) ?_
                    go_frame
                    refine wpList_nil ?_
                    go_upto_region 22 with (fail)
                    refine wp_region_lit ?_
                    refine ls_ex (some 101) (.slice (some ⟨wdz53.heap.size, 0, none⟩) d d) rfl rfl (exec_move _ rfl (.slice (some ⟨wdz53.heap.size, 0, none⟩) d d) rfl) ?_
                    go_frame
                    refine ls_ex (some 102) (.int .i64 k) rfl rfl (exec_move _ rfl (.int .i64 k) rfl) ?_
                    go_frame
                    refine ls_ex (some 103) (.slice (some ⟨h, 0, none⟩) d d) rfl rfl (exec_move _ rfl (.slice (some ⟨h, 0, none⟩) d d) rfl) ?_
                    go_frame
                    refine ls_ex (some 104) (.int .i64 k) rfl rfl (exec_move _ rfl (.int .i64 k) rfl) ?_
                    go_frame
                    refine ls_ex (some 105) (.int .i64 K1) rfl rfl (exec_sub _ _ _ _ rfl k 1 K1 rfl rfl HK1.out) ?_
                    go_frame
                    refine ls_ex (some 106) (.pointer (some ⟨h, 0 + K1 * 1, none⟩)) rfl rfl (exec_index_slice _ 2 _ _ rfl h 0 d d K1 1 rfl rfl Try.underlying22 (by kernel_rfl) (by omega)) ?_
                    go_frame
                    refine ls_ex (some 107) (.int .i64 V) rfl rfl (exec_load_one 2 _ rfl h (0 + K1 * 1) rfl (.int .i64 V) _ Try.underlying2 rfl (cell_iar9 hR HVr.out)) ?_
                    go_frame
                    refine ls_ex (some 108) (.pointer (some ⟨wdz53.heap.size, 0 + k * 1, none⟩)) rfl rfl (exec_index_slice _ 2 _ _ rfl wdz53.heap.size 0 d d k 1 rfl rfl Try.underlying22 (by kernel_rfl) hlt4) ?_
                    go_frame
                    refine ls_op rfl (fun K' hK' => ?_)
                    have lz81 := hB.size
                    have lz82 := h1.lt
                    have lz83 := h2.lt
                    have lz84 := hL.lt
                    have lz85 := hR.lt
                    have lz86 := hN9.lt
                    refine wp_store_one 2 _ _ rfl rfl wdz53.heap.size (0 + k * 1) rfl (.int .i64 V) rfl rfl rfl _ _ hN9 (by kernel_rfl) (by rw [iar_size, HMl.out]; omega) (fun Wz79 pz80 => ?_)
                    replace hB := pz80.below hB (by omega)
                    replace h1 := pz80.other h1 (by omega)
                    replace h2 := pz80.other h2 (by omega)
                    replace hL := pz80.other hL (by omega)
                    replace hR := pz80.other hR (by omega)
                    replace hN9 : At Wz79 wdz53.heap.size (.cells (iar ((mixR NEW ZER (k)).set k V)) 2 (0, 0)) := by have h9 := pz80.at_; rw [show 0 + k * 1 = k by omega, iar_set] at h9; exact h9
                    refine hK' _ _ ?_
                    clear hK' K' pz80
                    refine wpList_nil ?_
                    go_upto_region 23 with (fail)
                    refine wp_region_y (zs := [16]) (S := fun w' => Below w.heap.size w w') (S2 := fun w' => At w' wdz53.heap.size (.cells (iar ((mixR NEW ZER (k)).set k V)) 2 (0, 0))) (by kernel_rfl) ?_
                    change wpAnyY _ _ _ _ _ _ _ _ _ _ (World.drew _)
                    generalize hwdz87 : World.drew _ = wdz87
                    replace hB : Below w.heap.size w wdz87 := by rw [← hwdz87]; exact hB.drew
                    replace h1 : At wdz87 w.heap.size (.cells #[.int .i64 0, .int .i64 0, .int .i64 0, .int .i64 0, .slice none 0 0] 31 (0, 0)) := by rw [← hwdz87]; exact h1
                    replace h2 : At wdz87 Wz18.heap.size (.cells #[.int .i64 p, .int .i64 d, .int .i64 d, .int .i64 d, .slice (some ⟨g, 0, none⟩) N N] 31 (0, 0)) := by rw [← hwdz87]; exact h2
                    replace hL : At wdz87 g (.cells (iar (rsP p xs d (z + 1) (z + 2 - d) (0))) 2 (0, 0)) := by rw [← hwdz87]; exact hL
                    replace hR : At wdz87 h (.cells (iar (restR p xs z)) 2 (0, 0)) := by rw [← hwdz87]; exact hR
                    replace hN9 : At wdz87 wdz53.heap.size (.cells (iar ((mixR NEW ZER (k)).set k V)) 2 (0, 0)) := by rw [← hwdz87]; exact hN9
                    clear hwdz87
                    refine y_yield 0 (some 109) (.slice (some ⟨wdz53.heap.size, 0, none⟩) d d) rfl (by kernel_rfl) (by kernel_rfl) (by kernel_rfl) (fun _ _ _ h => h) rfl rfl hB (fun w' h' => exec_move _ rfl (.slice (some ⟨wdz53.heap.size, 0, none⟩) d d) rfl) ?_
                    go_frame
                    refine y_yield 1 (some 110) (.int .i64 k) rfl (by kernel_rfl) (by kernel_rfl) (by kernel_rfl) (fun _ _ _ h => h) rfl rfl hB (fun w' h' => exec_move _ rfl (.int .i64 k) rfl) ?_
                    go_frame
                    refine y_yield 2 (some 111) (.int .i64 p) rfl (by kernel_rfl) (by kernel_rfl) (by kernel_rfl) (fun _ _ _ h => h) rfl rfl hB (fun w' h' => exec_move _ rfl (.int .i64 p) rfl) ?_
                    go_frame
                    refine y_yield 3 (some 112) (.slice (some ⟨wdz53.heap.size, 0, none⟩) d d) rfl (by kernel_rfl) (by kernel_rfl) (by kernel_rfl) (fun _ _ _ h => h) rfl rfl hB (fun w' h' => exec_move _ rfl (.slice (some ⟨wdz53.heap.size, 0, none⟩) d d) rfl) ?_
                    go_frame
                    refine y_yield 4 (some 113) (.int .i64 k) rfl (by kernel_rfl) (by kernel_rfl) (by kernel_rfl) (fun _ _ _ h => h) rfl rfl hB (fun w' h' => exec_move _ rfl (.int .i64 k) rfl) ?_
                    go_frame
                    refine y_yield 5 (some 114) (.pointer (some ⟨wdz53.heap.size, 0 + k * 1, none⟩)) rfl (by kernel_rfl) (by kernel_rfl) (by kernel_rfl) (fun _ _ _ h => h) rfl rfl hB (fun w' h' => exec_index_slice _ 2 _ _ rfl wdz53.heap.size 0 d d k 1 rfl rfl Try.underlying22 (by kernel_rfl) hlt4) ?_
                    go_frame
                    refine y_yield2 6 (some 115) (.int .i64 V) rfl (by kernel_rfl) (by kernel_rfl) (by kernel_rfl) (by kernel_rfl) (fun _ _ _ h => h) rfl rfl hB hN9 (fun w' h' h2' => exec_load_one 2 _ rfl wdz53.heap.size (0 + k * 1) rfl (.int .i64 V) _ Try.underlying2 rfl (cell_iar9 h2' HVo.out)) ?_
                    go_frame
                    refine y_yield 7 (some 116) (.int .i64 R) rfl (by kernel_rfl) (by kernel_rfl) (by kernel_rfl) (fun _ _ _ h => h) rfl rfl hB (fun w' h' => exec_move _ rfl (.int .i64 R) rfl) ?_
                    go_frame
                    refine y_yield 8 (some 117) (.slice (some ⟨bB, oB, none⟩) d cB) rfl (by kernel_rfl) (by kernel_rfl) (by kernel_rfl) (fun _ _ _ h => h) rfl rfl hB (fun w' h' => exec_move _ rfl (.slice (some ⟨bB, oB, none⟩) d cB) rfl) ?_
                    go_frame
                    refine y_yield 9 (some 118) (.int .i64 k) rfl (by kernel_rfl) (by kernel_rfl) (by kernel_rfl) (fun _ _ _ h => h) rfl rfl hB (fun w' h' => exec_move _ rfl (.int .i64 k) rfl) ?_
                    go_frame
                    refine y_yield 10 (some 119) (.pointer (some ⟨bB, oB + k * 1, none⟩)) rfl (by kernel_rfl) (by kernel_rfl) (by kernel_rfl) (fun _ _ _ h => h) rfl rfl hB (fun w' h' => exec_index_slice _ 2 _ _ rfl bB oB d cB k 1 rfl rfl Try.underlying22 (by kernel_rfl) hlt4) ?_
                    go_frame
                    refine y_yield 11 (some 120) (.int .i64 X9) rfl (by kernel_rfl) (by kernel_rfl) (by kernel_rfl) (fun _ _ _ h => h) rfl rfl hB (fun w' h' => exec_load_one 2 _ rfl bB (oB + k * 1) rfl (.int .i64 X9) _ Try.underlying2 rfl (RdI.c1r (hX.keep h') HXg.out)) ?_
                    go_frame
                    refine y_yield 12 (some 121) (.int .i64 M1) rfl (by kernel_rfl) (by kernel_rfl) (by kernel_rfl) (fun _ _ _ h => h) rfl rfl hB (fun w' h' => exec_mul _ _ _ _ rfl R X9 M1 rfl rfl HM1.out) ?_
                    go_frame
                    refine y_yield 13 (some 122) (.int .i64 A1) rfl (by kernel_rfl) (by kernel_rfl) (by kernel_rfl) (fun _ _ _ h => h) rfl rfl hB (fun w' h' => exec_sub _ _ _ _ rfl V M1 A1 rfl rfl HA1.out) ?_
                    go_frame
                    refine y_oper 14 (by kernel_rfl) rfl rfl (fun K' hK' => ?_)
                    have lz90 := hB.size
                    have lz91 := h1.lt
                    have lz92 := h2.lt
                    have lz93 := hL.lt
                    have lz94 := hR.lt
                    have lz95 := hN9.lt
                    refine wp_call2 (some 123) rfl 42 _ _ _ rfl (fun args w => by kernel_rfl) _ _ rfl rfl _ (l01Mod_c p A1 _ (by omega) (by omega)) (fun e Wz88 h => ?_)
                    obtain ⟨rfl, rfl⟩ := h
                    rw [HX0.out]
                    refine ⟨_, rfl, ?_⟩
                    refine hK' _ _ hB (fun _ => hN9) ?_
                    clear hK' K'
                    go_frame
                    refine y_yield 15 (some 124) (.pointer (some ⟨wdz53.heap.size, 0 + k * 1, none⟩)) rfl (by kernel_rfl) (by kernel_rfl) (by kernel_rfl) (fun _ _ _ h => h) rfl rfl hB (fun w' h' => exec_index_slice _ 2 _ _ rfl wdz53.heap.size 0 d d k 1 rfl rfl Try.underlying22 (by kernel_rfl) hlt4) ?_
                    go_frame
                    refine y_oper 16 (by kernel_rfl) rfl rfl (fun K' hK' => ?_)
                    have lz98 := hB.size
                    have lz99 := h1.lt
                    have lz100 := h2.lt
                    have lz101 := hL.lt
                    have lz102 := hR.lt
                    have lz103 := hN9.lt
                    refine wp_store_one 2 _ _ rfl rfl wdz53.heap.size (0 + k * 1) rfl (.int .i64 X) rfl rfl rfl _ _ hN9 (by kernel_rfl) (by rw [iar_size, HMs.out]; omega) (fun Wz96 pz97 => ?_)
                    replace hB := pz97.below hB (by omega)
                    replace h1 := pz97.other h1 (by omega)
                    replace h2 := pz97.other h2 (by omega)
                    replace hL := pz97.other hL (by omega)
                    replace hR := pz97.other hR (by omega)
                    replace hN9 : At Wz96 wdz53.heap.size (.cells (iar (mixR NEW ZER (k + 1))) 2 (0, 0)) := by have h9 := pz97.at_; rw [show 0 + k * 1 = k by omega, iar_set] at h9; rwa [HS1.out] at h9
                    refine hK' _ _ hB (fun h => absurd (by decide) h) ?_
                    clear hK' K' pz97
                    refine y_done (by kernel_rfl) ?_ _
                    go_upto_region 20 with (fail)
                    refine wp_region_lit ?_
                    refine ls_ex (some 97) (.int .i64 k) rfl rfl (exec_move _ rfl (.int .i64 k) rfl) ?_
                    go_frame
                    refine ls_ex (some 98) (.int .i64 (k + 1)) rfl rfl (exec_add _ _ _ _ rfl k 1 (k + 1) rfl rfl (IntWalk.i64_in _ (by omega))) ?_
                    go_frame
                    refine ls_ex (some 14) (.int .i64 (k + 1)) rfl rfl (exec_assign _ rfl (.int .i64 (k + 1)) rfl) ?_
                    go_frame
                    refine wpList_nil ?_
                    go_wp2_with fail
                    go_roundw
                    case rel => exact ⟨k + 1, by omega, by go_num, hB, h1, h2, hL, hR, hN9⟩
                    case measure => simp [intOf]; omega
                · have HE9 : Hid (mixR NEW ZER (k) = restR p xs (z + 1)) := Lib.hid (by rw [show k = d by omega, mixR_all HN1.out HZl.out, HNEW.out])
                  rw [HE9.out] at hN9
                  go_upto_region 19 with (fail)
                  refine wp_region_lit ?_
                  refine ls_ex (some 94) (.int .i64 k) rfl rfl (exec_move _ rfl (.int .i64 k) rfl) ?_
                  go_frame
                  refine ls_ex (some 95) (.int .i64 d) rfl rfl (exec_move _ rfl (.int .i64 d) rfl) ?_
                  go_frame
                  refine ls_ex (some 96) (.bool false) rfl rfl (exec_lss _ _ _ _ rfl k d rfl rfl false (decide_eq_false (by omega))) ?_
                  go_frame
                  refine wpList_nil ?_
                  go_upto_region 24 with (fail)
                  refine wp_region_lit ?_
                  refine ls_ex (some 125) (.slice (some ⟨wdz53.heap.size, 0, none⟩) d d) rfl rfl (exec_move _ rfl (.slice (some ⟨wdz53.heap.size, 0, none⟩) d d) rfl) ?_
                  go_frame
                  refine ls_ex (some 8) (.slice (some ⟨wdz53.heap.size, 0, none⟩) d d) rfl rfl (exec_assign _ rfl (.slice (some ⟨wdz53.heap.size, 0, none⟩) d d) rfl) ?_
                  go_frame
                  refine wpList_nil ?_
                  go_upto_region 9 with (fail)
                  refine wp_region_lit ?_
                  refine ls_ex (some 47) (.int .i64 z) rfl rfl (exec_move _ rfl (.int .i64 z) rfl) ?_
                  go_frame
                  refine ls_ex (some 48) (.int .i64 (z + 1)) rfl rfl (exec_add _ _ _ _ rfl z 1 (z + 1) rfl rfl (IntWalk.i64_in _ (by omega))) ?_
                  go_frame
                  refine ls_ex (some 9) (.int .i64 (z + 1)) rfl rfl (exec_assign _ rfl (.int .i64 (z + 1)) rfl) ?_
                  go_frame
                  refine wpList_nil ?_
                  go_wp2_with fail
                  go_roundw
                  case rel => exact ⟨z + 1, _, by omega, by go_num, rfl, by omega, hB, h1, h2, hL, hN9⟩
                  case measure => simp [intOf]; omega
            · refine wp_exec (some 12) rfl (.int .i64 R) (exec_assign _ rfl (.int .i64 R) rfl) ?_
              refine hK' _ _ ⟨hB, hR⟩ (fun _ => trivial) ?_
              clear hK' K'
              go_frame
              refine y_oper 6 (by kernel_rfl) rfl rfl (fun K' hK' => ?_)
              have lz104 := hB.size
              have lz105 := h1.lt
              have lz106 := h2.lt
              have lz107 := hL.lt
              have lz108 := hR.lt
              have hgl := hL.lt
              have hhl := hR.lt
              refine wp_make_Iz (some 93) rfl _ _ rfl d rfl rfl (by omega) (fun Wz109 nnz110 => ?_)
              have bz111 := nnz110.below (Below.refl _ _) (Nat.le_refl _)
              replace hB := below_after hB bz111
              replace h1 := h1.after bz111
              replace h2 := h2.after bz111
              replace hL := hL.after bz111
              replace hR := hR.after bz111
              have hN : At Wz109 wdz53.heap.size (.cells (iar (List.replicate d 0)) 2 (0, 0)) := nnz110.at_
              refine hK' _ _ ⟨hB, hR⟩ (fun _ => trivial) ?_
              clear hK' K' nnz110 bz111
              go_frame
              refine y_oper 8 (by kernel_rfl) rfl rfl (fun K' hK' => ?_)
              refine wp_exec (some 13) rfl (.slice (some ⟨wdz53.heap.size, 0, none⟩) d d) (exec_assign _ rfl (.slice (some ⟨wdz53.heap.size, 0, none⟩) d d) rfl) ?_
              refine hK' _ _ ⟨hB, hR⟩ (fun _ => trivial) ?_
              clear hK' K'
              go_frame
              refine y_done (by kernel_rfl) ?_ _
              go_upto_region 18 with (fail)
              refine wp_region_lit ?_
              refine ls_ex (some 14) (.int .i64 0) rfl rfl (exec_assign _ rfl (.int .i64 0) rfl) ?_
              go_frame
              refine wpList_nil ?_
              go_wp2_with fail
              obtain ⟨wq, rfl⟩ : ∃ x : World, x = wr := ⟨_, rfl⟩
              go_loopw [14] (fun s14 wr => ∃ k : Nat, k ≤ d ∧ s14 = .int .i64 k ∧ Below w.heap.size w wr ∧ At wr w.heap.size (.cells #[.int .i64 0, .int .i64 0, .int .i64 0, .int .i64 0, .slice none 0 0] 31 (0, 0)) ∧ At wr Wz18.heap.size (.cells #[.int .i64 p, .int .i64 d, .int .i64 d, .int .i64 d, .slice (some ⟨g, 0, none⟩) N N] 31 (0, 0)) ∧ At wr g (.cells (iar (rsP p xs d (z + 1) (z + 2 - d) (0))) 2 (0, 0)) ∧ At wr h (.cells (iar (restR p xs z)) 2 (0, 0)) ∧ At wr wdz53.heap.size (.cells (iar (mixR NEW ZER (k))) 2 (0, 0))) (fun s14 _ => d - (intOf s14).toNat)
              case atStart => exact ⟨0, by omega, rfl, hB, h1, h2, hL, hR, by rw [mixR_zero, ← HZER.out]; exact hN⟩
              case round =>
                clear hB h1 h2 hL hR hN
                obtain ⟨k, hk, rfl, hB, h1, h2, hL, hR, hN9⟩ := hrel
                by_cases hlt4 : k < d
                · by_cases hk0 : k = 0
                  · obtain ⟨X9, hX9⟩ : ∃ z9, xs[k]? = some z9 := ⟨_, List.getElem?_eq_getElem (by rw [HXl.out]; exact hlt4)⟩
                    have hX9b := inP.get HXi.out hX9
                    obtain ⟨V, hV⟩ : ∃ z9 : Int, (if k = 0 then 0 else (restR p xs z)[k - 1]?.getD 0) = z9 := ⟨_, rfl⟩
                    have hVb : 0 ≤ V ∧ V < p := by rw [← hV]; exact inP.prev (restR_in hp5.1 xs z) (by omega) (by rw [restR_len, HXl.out]; exact hlt4)
                    have hMb := mul_b9 (a := R) (b := X9) (by omega) (by omega)
                    obtain ⟨M1, hM1⟩ : ∃ z9 : Int, R * X9 = z9 := ⟨_, rfl⟩
                    rw [hM1] at hMb
                    obtain ⟨A1, hA1⟩ : ∃ z9 : Int, V - M1 = z9 := ⟨_, rfl⟩
                    obtain ⟨X, hX0⟩ : ∃ z9 : Int, A1 % p = z9 := ⟨_, rfl⟩
                    have HM1 : Hid (IntKind.i64.wrap (R * X9) = M1) := Lib.hid (by rw [hM1]; exact IntWalk.i64_in _ (by omega))
                    have HA1 : Hid (IntKind.i64.wrap (V - M1) = A1) := Lib.hid (by rw [hA1]; exact IntWalk.i64_in _ (by omega))
                    have HX0 := Lib.hid hX0
                    have HXg := Lib.hid hX9
                    have HNX : Hid (NEW[k]? = some X) := Lib.hid (by rw [← HNEW.out, restR_succ, stepR_get _ _ _ (by rw [restR_len, HXl.out]; exact hlt4)]; unfold stR; rw [restR_len, HXl.out, show d - 1 = L by omega, HRe.out, hX9, Option.getD_some, Option.getD_some, hV, ← stR_spec, hM1, hA1, hX0])
                    have HS0 : Hid ((mixR NEW ZER (k)).set k X = mixR NEW ZER (k + 1)) := Lib.hid (mixR_set HN1.out HZl.out hlt4 HNX.out)
                    have HMl : Hid ((mixR NEW ZER (k)).length = d) := Lib.hid (mixR_len HN1.out HZl.out (by omega))
                    have HVo : Hid ((mixR NEW ZER (k))[k]? = some V) := Lib.hid (by rw [mixR_get HN1.out hlt4, ← HZER.out, ← hV, if_pos hk0]; exact rep0_get hlt4)
                    clear hX9 hM1 hA1 hX0 hMb hV
                    go_upto_region 19 with (fail)
                    refine wp_region_lit ?_
                    refine ls_ex (some 94) (.int .i64 k) rfl rfl (exec_move _ rfl (.int .i64 k) rfl) ?_
                    go_frame
                    refine ls_ex (some 95) (.int .i64 d) rfl rfl (exec_move _ rfl (.int .i64 d) rfl) ?_
                    go_frame
                    refine ls_ex (some 96) (.bool true) rfl rfl (exec_lss _ _ _ _ rfl k d rfl rfl true (decide_eq_true (by omega))) ?_
                    go_frame
                    refine wpList_nil ?_
                    go_upto_region 21 with (fail)
                    refine wp_region_lit ?_
                    refine ls_ex (some 99) (.int .i64 k) rfl rfl (exec_move _ rfl (.int .i64 k) rfl) ?_
                    go_frame
                    refine ls_ex (some 100) (.bool false) rfl rfl (exec_gtr _ _ _ _ rfl k 0 rfl rfl false (decide_eq_false (by omega))) ?_
                    go_frame
                    refine wpList_nil ?_
                    go_upto_region 23 with (fail)
                    refine wp_region_y (zs := [16]) (S := fun w' => Below w.heap.size w w') (S2 := fun w' => At w' wdz53.heap.size (.cells (iar (mixR NEW ZER (k))) 2 (0, 0))) (by kernel_rfl) ?_
                    change wpAnyY _ _ _ _ _ _ _ _ _ _ (World.drew _)
                    generalize hwdz112 : World.drew _ = wdz112
                    replace hB : Below w.heap.size w wdz112 := by rw [← hwdz112]; exact hB.drew
                    replace h1 : At wdz112 w.heap.size (.cells #[.int .i64 0, .int .i64 0, .int .i64 0, .int .i64 0, .slice none 0 0] 31 (0, 0)) := by rw [← hwdz112]; exact h1
                    replace h2 : At wdz112 Wz18.heap.size (.cells #[.int .i64 p, .int .i64 d, .int .i64 d, .int .i64 d, .slice (some ⟨g, 0, none⟩) N N] 31 (0, 0)) := by rw [← hwdz112]; exact h2
                    replace hL : At wdz112 g (.cells (iar (rsP p xs d (z + 1) (z + 2 - d) (0))) 2 (0, 0)) := by rw [← hwdz112]; exact hL
                    replace hR : At wdz112 h (.cells (iar (restR p xs z)) 2 (0, 0)) := by rw [← hwdz112]; exact hR
                    replace hN9 : At wdz112 wdz53.heap.size (.cells (iar (mixR NEW ZER (k))) 2 (0, 0)) := by rw [← hwdz112]; exact hN9
                    clear hwdz112
                    refine y_yield 0 (some 109) (.slice (some ⟨wdz53.heap.size, 0, none⟩) d d) rfl (by kernel_rfl) (by kernel_rfl) (by kernel_rfl) (fun _ _ _ h => h) rfl rfl hB (fun w' h' => exec_move _ rfl (.slice (some ⟨wdz53.heap.size, 0, none⟩) d d) rfl) ?_
                    go_frame
                    refine y_yield 1 (some 110) (.int .i64 k) rfl (by kernel_rfl) (by kernel_rfl) (by kernel_rfl) (fun _ _ _ h => h) rfl rfl hB (fun w' h' => exec_move _ rfl (.int .i64 k) rfl) ?_
                    go_frame
                    refine y_yield 2 (some 111) (.int .i64 p) rfl (by kernel_rfl) (by kernel_rfl) (by kernel_rfl) (fun _ _ _ h => h) rfl rfl hB (fun w' h' => exec_move _ rfl (.int .i64 p) rfl) ?_
                    go_frame
                    refine y_yield 3 (some 112) (.slice (some ⟨wdz53.heap.size, 0, none⟩) d d) rfl (by kernel_rfl) (by kernel_rfl) (by kernel_rfl) (fun _ _ _ h => h) rfl rfl hB (fun w' h' => exec_move _ rfl (.slice (some ⟨wdz53.heap.size, 0, none⟩) d d) rfl) ?_
                    go_frame
                    refine y_yield 4 (some 113) (.int .i64 k) rfl (by kernel_rfl) (by kernel_rfl) (by kernel_rfl) (fun _ _ _ h => h) rfl rfl hB (fun w' h' => exec_move _ rfl (.int .i64 k) rfl) ?_
                    go_frame
                    refine y_yield 5 (some 114) (.pointer (some ⟨wdz53.heap.size, 0 + k * 1, none⟩)) rfl (by kernel_rfl) (by kernel_rfl) (by kernel_rfl) (fun _ _ _ h => h) rfl rfl hB (fun w' h' => exec_index_slice _ 2 _ _ rfl wdz53.heap.size 0 d d k 1 rfl rfl Try.underlying22 (by kernel_rfl) hlt4) ?_
                    go_frame
                    refine y_yield2 6 (some 115) (.int .i64 V) rfl (by kernel_rfl) (by kernel_rfl) (by kernel_rfl) (by kernel_rfl) (fun _ _ _ h => h) rfl rfl hB hN9 (fun w' h' h2' => exec_load_one 2 _ rfl wdz53.heap.size (0 + k * 1) rfl (.int .i64 V) _ Try.underlying2 rfl (cell_iar9 h2' HVo.out)) ?_
                    go_frame
                    refine y_yield 7 (some 116) (.int .i64 R) rfl (by kernel_rfl) (by kernel_rfl) (by kernel_rfl) (fun _ _ _ h => h) rfl rfl hB (fun w' h' => exec_move _ rfl (.int .i64 R) rfl) ?_
                    go_frame
                    refine y_yield 8 (some 117) (.slice (some ⟨bB, oB, none⟩) d cB) rfl (by kernel_rfl) (by kernel_rfl) (by kernel_rfl) (fun _ _ _ h => h) rfl rfl hB (fun w' h' => exec_move _ rfl (.slice (some ⟨bB, oB, none⟩) d cB) rfl) ?_
                    go_frame
                    refine y_yield 9 (some 118) (.int .i64 k) rfl (by kernel_rfl) (by kernel_rfl) (by kernel_rfl) (fun _ _ _ h => h) rfl rfl hB (fun w' h' => exec_move _ rfl (.int .i64 k) rfl) ?_
                    go_frame
                    refine y_yield 10 (some 119) (.pointer (some ⟨bB, oB + k * 1, none⟩)) rfl (by kernel_rfl) (by kernel_rfl) (by kernel_rfl) (fun _ _ _ h => h) rfl rfl hB (fun w' h' => exec_index_slice _ 2 _ _ rfl bB oB d cB k 1 rfl rfl Try.underlying22 (by kernel_rfl) hlt4) ?_
                    go_frame
                    refine y_yield 11 (some 120) (.int .i64 X9) rfl (by kernel_rfl) (by kernel_rfl) (by kernel_rfl) (fun _ _ _ h => h) rfl rfl hB (fun w' h' => exec_load_one 2 _ rfl bB (oB + k * 1) rfl (.int .i64 X9) _ Try.underlying2 rfl (RdI.c1r (hX.keep h') HXg.out)) ?_
                    go_frame
                    refine y_yield 12 (some 121) (.int .i64 M1) rfl (by kernel_rfl) (by kernel_rfl) (by kernel_rfl) (fun _ _ _ h => h) rfl rfl hB (fun w' h' => exec_mul _ _ _ _ rfl R X9 M1 rfl rfl HM1.out) ?_
                    go_frame
                    refine y_yield 13 (some 122) (.int .i64 A1) rfl (by kernel_rfl) (by kernel_rfl) (by kernel_rfl) (fun _ _ _ h => h) rfl rfl hB (fun w' h' => exec_sub _ _ _ _ rfl V M1 A1 rfl rfl HA1.out) ?_
                    go_frame
                    refine y_oper 14 (by kernel_rfl) rfl rfl (fun K' hK' => ?_)
                    have lz115 := hB.size
                    have lz116 := h1.lt
                    have lz117 := h2.lt
                    have lz118 := hL.lt
                    have lz119 := hR.lt
                    have lz120 := hN9.lt
                    refine wp_call2 (some 123) rfl 42 _ _ _ rfl (fun args w => by kernel_rfl) _ _ rfl rfl _ (l01Mod_c p A1 _ (by omega) (by omega)) (fun e Wz113 h => ?_)
                    obtain ⟨rfl, rfl⟩ := h
                    rw [HX0.out]
                    refine ⟨_, rfl, ?_⟩
                    refine hK' _ _ hB (fun _ => hN9) ?_
                    clear hK' K'
                    go_frame
                    refine y_yield 15 (some 124) (.pointer (some ⟨wdz53.heap.size, 0 + k * 1, none⟩)) rfl (by kernel_rfl) (by kernel_rfl) (by kernel_rfl) (fun _ _ _ h => h) rfl rfl hB (fun w' h' => exec_index_slice _ 2 _ _ rfl wdz53.heap.size 0 d d k 1 rfl rfl Try.underlying22 (by kernel_rfl) hlt4) ?_
                    go_frame
                    refine y_oper 16 (by kernel_rfl) rfl rfl (fun K' hK' => ?_)
                    have lz123 := hB.size
                    have lz124 := h1.lt
                    have lz125 := h2.lt
                    have lz126 := hL.lt
                    have lz127 := hR.lt
                    have lz128 := hN9.lt
                    refine wp_store_one 2 _ _ rfl rfl wdz53.heap.size (0 + k * 1) rfl (.int .i64 X) rfl rfl rfl _ _ hN9 (by kernel_rfl) (by rw [iar_size, HMl.out]; omega) (fun Wz121 pz122 => ?_)
                    replace hB := pz122.below hB (by omega)
                    replace h1 := pz122.other h1 (by omega)
                    replace h2 := pz122.other h2 (by omega)
                    replace hL := pz122.other hL (by omega)
                    replace hR := pz122.other hR (by omega)
                    replace hN9 : At Wz121 wdz53.heap.size (.cells (iar (mixR NEW ZER (k + 1))) 2 (0, 0)) := by have h9 := pz122.at_; rw [show 0 + k * 1 = k by omega, iar_set] at h9; rwa [HS0.out] at h9
                    refine hK' _ _ hB (fun h => absurd (by decide) h) ?_
                    clear hK' K' pz122
                    refine y_done (by kernel_rfl) ?_ _
                    go_upto_region 20 with (fail)
                    refine wp_region_lit ?_
                    refine ls_ex (some 97) (.int .i64 k) rfl rfl (exec_move _ rfl (.int .i64 k) rfl) ?_
                    go_frame
                    refine ls_ex (some 98) (.int .i64 (k + 1)) rfl rfl (exec_add _ _ _ _ rfl k 1 (k + 1) rfl rfl (IntWalk.i64_in _ (by omega))) ?_
                    go_frame
                    refine ls_ex (some 14) (.int .i64 (k + 1)) rfl rfl (exec_assign _ rfl (.int .i64 (k + 1)) rfl) ?_
                    go_frame
                    refine wpList_nil ?_
                    go_wp2_with fail
                    go_roundw
                    case rel => exact ⟨k + 1, by omega, by go_num, hB, h1, h2, hL, hR, hN9⟩
                    case measure => simp [intOf]; omega
                  · obtain ⟨X9, hX9⟩ : ∃ z9, xs[k]? = some z9 := ⟨_, List.getElem?_eq_getElem (by rw [HXl.out]; exact hlt4)⟩
                    have hX9b := inP.get HXi.out hX9
                    obtain ⟨V, hV⟩ : ∃ z9 : Int, (if k = 0 then 0 else (restR p xs z)[k - 1]?.getD 0) = z9 := ⟨_, rfl⟩
                    have hVb : 0 ≤ V ∧ V < p := by rw [← hV]; exact inP.prev (restR_in hp5.1 xs z) (by omega) (by rw [restR_len, HXl.out]; exact hlt4)
                    have hMb := mul_b9 (a := R) (b := X9) (by omega) (by omega)
                    obtain ⟨M1, hM1⟩ : ∃ z9 : Int, R * X9 = z9 := ⟨_, rfl⟩
                    rw [hM1] at hMb
                    obtain ⟨A1, hA1⟩ : ∃ z9 : Int, V - M1 = z9 := ⟨_, rfl⟩
                    obtain ⟨X, hX0⟩ : ∃ z9 : Int, A1 % p = z9 := ⟨_, rfl⟩
                    have HM1 : Hid (IntKind.i64.wrap (R * X9) = M1) := Lib.hid (by rw [hM1]; exact IntWalk.i64_in _ (by omega))
                    have HA1 : Hid (IntKind.i64.wrap (V - M1) = A1) := Lib.hid (by rw [hA1]; exact IntWalk.i64_in _ (by omega))
                    have HX0 := Lib.hid hX0
                    have HXg := Lib.hid hX9
                    have HNX : Hid (NEW[k]? = some X) := Lib.hid (by rw [← HNEW.out, restR_succ, stepR_get _ _ _ (by rw [restR_len, HXl.out]; exact hlt4)]; unfold stR; rw [restR_len, HXl.out, show d - 1 = L by omega, HRe.out, hX9, Option.getD_some, Option.getD_some, hV, ← stR_spec, hM1, hA1, hX0])
                    have HS0 : Hid ((mixR NEW ZER (k)).set k X = mixR NEW ZER (k + 1)) := Lib.hid (mixR_set HN1.out HZl.out hlt4 HNX.out)
                    have HMl : Hid ((mixR NEW ZER (k)).length = d) := Lib.hid (mixR_len HN1.out HZl.out (by omega))
                    obtain ⟨K1, hK1⟩ : ∃ z9, k - 1 = z9 := ⟨_, rfl⟩
                    have HK1 : Hid (IntKind.i64.wrap ((k : Int) - 1) = (K1 : Int)) := Lib.hid (by rw [IntWalk.i64_in _ (by omega)]; omega)
                    have HVr : Hid ((restR p xs z)[K1]? = some V) := Lib.hid (by rw [← hV, if_neg hk0, hK1, List.getElem?_eq_getElem (by rw [restR_len, HXl.out]; omega)]; rfl)
                    have HVo : Hid (((mixR NEW ZER (k)).set k V)[k]? = some V) := Lib.hid (List.getElem?_set_self (by rw [HMl.out]; exact hlt4))
                    have HS1 : Hid (((mixR NEW ZER (k)).set k V).set k X = mixR NEW ZER (k + 1)) := Lib.hid (by rw [List.set_set]; exact HS0.out)
                    have HMs : Hid (((mixR NEW ZER (k)).set k V).length = d) := Lib.hid (by rw [List.length_set, HMl.out])
                    clear hX9 hM1 hA1 hX0 hMb hV
                    go_upto_region 19 with (fail)
                    refine wp_region_lit ?_
                    refine ls_ex (some 94) (.int .i64 k) rfl rfl (exec_move _ rfl (.int .i64 k) rfl) ?_
                    go_frame
                    refine ls_ex (some 95) (.int .i64 d) rfl rfl (exec_move _ rfl (.int .i64 d) rfl) ?_
                    go_frame
                    refine ls_ex (some 96) (.bool true) rfl rfl (exec_lss _ _ _ _ rfl k d rfl rfl true (decide_eq_true (by omega))) ?_
                    go_frame
                    refine wpList_nil ?_
                    go_upto_region 21 with (fail)
                    refine wp_region_lit ?_
                    refine ls_ex (some 99) (.int .i64 k) rfl rfl (exec_move _ rfl (.int .i64 k) rfl) ?_
                    go_frame
                    refine ls_ex (some 100) (.bool true) rfl rfl (exec_gtr _ _ _ _ rfl k 0 rfl rfl true (decide_eq_true (by omega))) ?_
                    go_frame
                    refine wpList_nil ?_
                    go_upto_region 22 with (fail)
                    refine wp_region_lit ?_
                    refine ls_ex (some 101) (.slice (some ⟨wdz53.heap.size, 0, none⟩) d d) rfl rfl (exec_move _ rfl (.slice (some ⟨wdz53.heap.size, 0, none⟩) d d) rfl) ?_
                    go_frame
                    refine ls_ex (some 102) (.int .i64 k) rfl rfl (exec_move _ rfl (.int .i64 k) rfl) ?_
                    go_frame
                    refine ls_ex (some 103) (.slice (some ⟨h, 0, none⟩) d d) rfl rfl (exec_move _ rfl (.slice (some ⟨h, 0, none⟩) d d) rfl) ?_
                    go_frame
                    refine ls_ex (some 104) (.int .i64 k) rfl rfl (exec_move _ rfl (.int .i64 k) rfl) ?_
                    go_frame
                    refine ls_ex (some 105) (.int .i64 K1) rfl rfl (exec_sub _ _ _ _ rfl k 1 K1 rfl rfl HK1.out) ?_
                    go_frame
                    refine ls_ex (some 106) (.pointer (some ⟨h, 0 + K1 * 1, none⟩)) rfl rfl (exec_index_slice _ 2 _ _ rfl h 0 d d K1 1 rfl rfl Try.underlying22 (by kernel_rfl) (by omega)) ?_
                    go_frame
                    refine ls_ex (some 107) (.int .i64 V) rfl rfl (exec_load_one 2 _ rfl h (0 + K1 * 1) rfl (.int .i64 V) _ Try.underlying2 rfl (cell_iar9 hR HVr.out)) ?_
                    go_frame
                    refine ls_ex (some 108) (.pointer (some ⟨wdz53.heap.size, 0 + k * 1, none⟩)) rfl rfl (exec_index_slice _ 2 _ _ rfl wdz53.heap.size 0 d d k 1 rfl rfl Try.underlying22 (by kernel_rfl) hlt4) ?_
                    go_frame
                    refine ls_op rfl (fun K' hK' => ?_)
                    have lz131 := hB.size
                    have lz132 := h1.lt
                    have lz133 := h2.lt
                    have lz134 := hL.lt
                    have lz135 := hR.lt
                    have lz136 := hN9.lt
                    refine wp_store_one 2 _ _ rfl rfl wdz53.heap.size (0 + k * 1) rfl (.int .i64 V) rfl rfl rfl _ _ hN9 (by kernel_rfl) (by rw [iar_size, HMl.out]; omega) (fun Wz129 pz130 => ?_)
                    replace hB := pz130.below hB (by omega)
                    replace h1 := pz130.other h1 (by omega)
                    replace h2 := pz130.other h2 (by omega)
                    replace hL := pz130.other hL (by omega)
                    replace hR := pz130.other hR (by omega)
                    replace hN9 : At Wz129 wdz53.heap.size (.cells (iar ((mixR NEW ZER (k)).set k V)) 2 (0, 0)) := by have h9 := pz130.at_; rw [show 0 + k * 1 = k by omega, iar_set] at h9; exact h9
                    refine hK' _ _ ?_
                    clear hK' K' pz130
                    refine wpList_nil ?_
                    go_upto_region 23 with (fail)
                    refine wp_region_y (zs := [16]) (S := fun w' => Below w.heap.size w w') (S2 := fun w' => At w' wdz53.heap.size (.cells (iar ((mixR NEW ZER (k)).set k V)) 2 (0, 0))) (by kernel_rfl) ?_
                    change wpAnyY _ _ _ _ _ _ _ _ _ _ (World.drew _)
                    generalize hwdz137 : World.drew _ = wdz137
                    replace hB : Below w.heap.size w wdz137 := by rw [← hwdz137]; exact hB.drew
                    replace h1 : At wdz137 w.heap.size (.cells #[.int .i64 0, .int .i64 0, .int .i64 0, .int .i64 0, .slice none 0 0] 31 (0, 0)) := by rw [← hwdz137]; exact h1
                    replace h2 : At wdz137 Wz18.heap.size (.cells #[.int .i64 p, .int .i64 d, .int .i64 d, .int .i64 d, .slice (some ⟨g, 0, none⟩) N N] 31 (0, 0)) := by rw [← hwdz137]; exact h2
                    replace hL : At wdz137 g (.cells (iar (rsP p xs d (z + 1) (z + 2 - d) (0))) 2 (0, 0)) := by rw [← hwdz137]; exact hL
                    replace hR : At wdz137 h (.cells (iar (restR p xs z)) 2 (0, 0)) := by rw [← hwdz137]; exact hR
                    replace hN9 : At wdz137 wdz53.heap.size (.cells (iar ((mixR NEW ZER (k)).set k V)) 2 (0, 0)) := by rw [← hwdz137]; exact hN9
                    clear hwdz137
                    refine y_yield 0 (some 109) (.slice (some ⟨wdz53.heap.size, 0, none⟩) d d) rfl (by kernel_rfl) (by kernel_rfl) (by kernel_rfl) (fun _ _ _ h => h) rfl rfl hB (fun w' h' => exec_move _ rfl (.slice (some ⟨wdz53.heap.size, 0, none⟩) d d) rfl) ?_
                    go_frame
                    refine y_yield 1 (some 110) (.int .i64 k) rfl (by kernel_rfl) (by kernel_rfl) (by kernel_rfl) (fun _ _ _ h => h) rfl rfl hB (fun w' h' => exec_move _ rfl (.int .i64 k) rfl) ?_
                    go_frame
                    refine y_yield 2 (some 111) (.int .i64 p) rfl (by kernel_rfl) (by kernel_rfl) (by kernel_rfl) (fun _ _ _ h => h) rfl rfl hB (fun w' h' => exec_move _ rfl (.int .i64 p) rfl) ?_
                    go_frame
                    refine y_yield 3 (some 112) (.slice (some ⟨wdz53.heap.size, 0, none⟩) d d) rfl (by kernel_rfl) (by kernel_rfl) (by kernel_rfl) (fun _ _ _ h => h) rfl rfl hB (fun w' h' => exec_move _ rfl (.slice (some ⟨wdz53.heap.size, 0, none⟩) d d) rfl) ?_
                    go_frame
                    refine y_yield 4 (some 113) (.int .i64 k) rfl (by kernel_rfl) (by kernel_rfl) (by kernel_rfl) (fun _ _ _ h => h) rfl rfl hB (fun w' h' => exec_move _ rfl (.int .i64 k) rfl) ?_
                    go_frame
                    refine y_yield 5 (some 114) (.pointer (some ⟨wdz53.heap.size, 0 + k * 1, none⟩)) rfl (by kernel_rfl) (by kernel_rfl) (by kernel_rfl) (fun _ _ _ h => h) rfl rfl hB (fun w' h' => exec_index_slice _ 2 _ _ rfl wdz53.heap.size 0 d d k 1 rfl rfl Try.underlying22 (by kernel_rfl) hlt4) ?_
                    go_frame
                    refine y_yield2 6 (some 115) (.int .i64 V) rfl (by kernel_rfl) (by kernel_rfl) (by kernel_rfl) (by kernel_rfl) (fun _ _ _ h => h) rfl rfl hB hN9 (fun w' h' h2' => exec_load_one 2 _ rfl wdz53.heap.size (0 + k * 1) rfl (.int .i64 V) _ Try.underlying2 rfl (cell_iar9 h2' HVo.out)) ?_
                    go_frame
                    refine y_yield 7 (some 116) (.int .i64 R) rfl (by kernel_rfl) (by kernel_rfl) (by kernel_rfl) (fun _ _ _ h => h) rfl rfl hB (fun w' h' => exec_move _ rfl (.int .i64 R) rfl) ?_
                    go_frame
                    refine y_yield 8 (some 117) (.slice (some ⟨bB, oB, none⟩) d cB) rfl (by kernel_rfl) (by kernel_rfl) (by kernel_rfl) (fun _ _ _ h => h) rfl rfl hB (fun w' h' => exec_move _ rfl (.slice (some ⟨bB, oB, none⟩) d cB) rfl) ?_
                    go_frame
                    refine y_yield 9 (some 118) (.int .i64 k) rfl (by kernel_rfl) (by kernel_rfl) (by kernel_rfl) (fun _ _ _ h => h) rfl rfl hB (fun w' h' => exec_move _ rfl (.int .i64 k) rfl) ?_
                    go_frame
                    refine y_yield 10 (some 119) (.pointer (some ⟨bB, oB + k * 1, none⟩)) rfl (by kernel_rfl) (by kernel_rfl) (by kernel_rfl) (fun _ _ _ h => h) rfl rfl hB (fun w' h' => exec_index_slice _ 2 _ _ rfl bB oB d cB k 1 rfl rfl Try.underlying22 (by kernel_rfl) hlt4) ?_
                    go_frame
                    refine y_yield 11 (some 120) (.int .i64 X9) rfl (by kernel_rfl) (by kernel_rfl) (by kernel_rfl) (fun _ _ _ h => h) rfl rfl hB (fun w' h' => exec_load_one 2 _ rfl bB (oB + k * 1) rfl (.int .i64 X9) _ Try.underlying2 rfl (RdI.c1r (hX.keep h') HXg.out)) ?_
                    go_frame
                    refine y_yield 12 (some 121) (.int .i64 M1) rfl (by kernel_rfl) (by kernel_rfl) (by kernel_rfl) (fun _ _ _ h => h) rfl rfl hB (fun w' h' => exec_mul _ _ _ _ rfl R X9 M1 rfl rfl HM1.out) ?_
                    go_frame
                    refine y_yield 13 (some 122) (.int .i64 A1) rfl (by kernel_rfl) (by kernel_rfl) (by kernel_rfl) (fun _ _ _ h => h) rfl rfl hB (fun w' h' => exec_sub _ _ _ _ rfl V M1 A1 rfl rfl HA1.out) ?_
                    go_frame
                    refine y_oper 14 (by kernel_rfl) rfl rfl (fun K' hK' => ?_)
                    have lz140 := hB.size
                    have lz141 := h1.lt
                    have lz142 := h2.lt
                    have lz143 := hL.lt
                    have lz144 := hR.lt
                    have lz145 := hN9.lt
                    refine wp_call2 (some 123) rfl 42 _ _ _ rfl (fun args w => by kernel_rfl) _ _ rfl rfl _ (l01Mod_c p A1 _ (by omega) (by omega)) (fun e Wz138 h => ?_)
                    obtain ⟨rfl, rfl⟩ := h
                    rw [HX0.out]
                    refine ⟨_, rfl, ?_⟩
                    refine hK' _ _ hB (fun _ => hN9) ?_
                    clear hK' K'
                    go_frame
                    refine y_yield 15 (some 124) (.pointer (some ⟨wdz53.heap.size, 0 + k * 1, none⟩)) rfl (by kernel_rfl) (by kernel_rfl) (by kernel_rfl) (fun _ _ _ h => h) rfl rfl hB (fun w' h' => exec_index_slice _ 2 _ _ rfl wdz53.heap.size 0 d d k 1 rfl rfl Try.underlying22 (by kernel_rfl) hlt4) ?_
                    go_frame
                    refine y_oper 16 (by kernel_rfl) rfl rfl (fun K' hK' => ?_)
                    have lz148 := hB.size
                    have lz149 := h1.lt
                    have lz150 := h2.lt
                    have lz151 := hL.lt
                    have lz152 := hR.lt
                    have lz153 := hN9.lt
                    refine wp_store_one 2 _ _ rfl rfl wdz53.heap.size (0 + k * 1) rfl (.int .i64 X) rfl rfl rfl _ _ hN9 (by kernel_rfl) (by rw [iar_size, HMs.out]; omega) (fun Wz146 pz147 => ?_)
                    replace hB := pz147.below hB (by omega)
                    replace h1 := pz147.other h1 (by omega)
                    replace h2 := pz147.other h2 (by omega)
                    replace hL := pz147.other hL (by omega)
                    replace hR := pz147.other hR (by omega)
                    replace hN9 : At Wz146 wdz53.heap.size (.cells (iar (mixR NEW ZER (k + 1))) 2 (0, 0)) := by have h9 := pz147.at_; rw [show 0 + k * 1 = k by omega, iar_set] at h9; rwa [HS1.out] at h9
                    refine hK' _ _ hB (fun h => absurd (by decide) h) ?_
                    clear hK' K' pz147
                    refine y_done (by kernel_rfl) ?_ _
                    go_upto_region 20 with (fail)
                    refine wp_region_lit ?_
                    refine ls_ex (some 97) (.int .i64 k) rfl rfl (exec_move _ rfl (.int .i64 k) rfl) ?_
                    go_frame
                    refine ls_ex (some 98) (.int .i64 (k + 1)) rfl rfl (exec_add _ _ _ _ rfl k 1 (k + 1) rfl rfl (IntWalk.i64_in _ (by omega))) ?_
                    go_frame
                    refine ls_ex (some 14) (.int .i64 (k + 1)) rfl rfl (exec_assign _ rfl (.int .i64 (k + 1)) rfl) ?_
                    go_frame
                    refine wpList_nil ?_
                    go_wp2_with fail
                    go_roundw
                    case rel => exact ⟨k + 1, by omega, by go_num, hB, h1, h2, hL, hR, hN9⟩
                    case measure => simp [intOf]; omega
                · have HE9 : Hid (mixR NEW ZER (k) = restR p xs (z + 1)) := Lib.hid (by rw [show k = d by omega, mixR_all HN1.out HZl.out, HNEW.out])
                  rw [HE9.out] at hN9
                  go_upto_region 19 with (fail)
                  refine wp_region_lit ?_
                  refine ls_ex (some 94) (.int .i64 k) rfl rfl (exec_move _ rfl (.int .i64 k) rfl) ?_
                  go_frame
                  refine ls_ex (some 95) (.int .i64 d) rfl rfl (exec_move _ rfl (.int .i64 d) rfl) ?_
                  go_frame
                  refine ls_ex (some 96) (.bool false) rfl rfl (exec_lss _ _ _ _ rfl k d rfl rfl false (decide_eq_false (by omega))) ?_
                  go_frame
                  refine wpList_nil ?_
                  go_upto_region 24 with (fail)
                  refine wp_region_lit ?_
                  refine ls_ex (some 125) (.slice (some ⟨wdz53.heap.size, 0, none⟩) d d) rfl rfl (exec_move _ rfl (.slice (some ⟨wdz53.heap.size, 0, none⟩) d d) rfl) ?_
                  go_frame
                  refine ls_ex (some 8) (.slice (some ⟨wdz53.heap.size, 0, none⟩) d d) rfl rfl (exec_assign _ rfl (.slice (some ⟨wdz53.heap.size, 0, none⟩) d d) rfl) ?_
                  go_frame
                  refine wpList_nil ?_
                  go_upto_region 9 with (fail)
                  refine wp_region_lit ?_
                  refine ls_ex (some 47) (.int .i64 z) rfl rfl (exec_move _ rfl (.int .i64 z) rfl) ?_
                  go_frame
                  refine ls_ex (some 48) (.int .i64 (z + 1)) rfl rfl (exec_add _ _ _ _ rfl z 1 (z + 1) rfl rfl (IntWalk.i64_in _ (by omega))) ?_
                  go_frame
                  refine ls_ex (some 9) (.int .i64 (z + 1)) rfl rfl (exec_assign _ rfl (.int .i64 (z + 1)) rfl) ?_
                  go_frame
                  refine wpList_nil ?_
                  go_wp2_with fail
                  go_roundw
                  case rel => exact ⟨z + 1, _, by omega, by go_num, rfl, by omega, hB, h1, h2, hL, hN9⟩
                  case measure => simp [intOf]; omega
        · have HE : Hid (rsP p xs d (z) (i) (0) = rsP p xs d (z + 1) (z + 2 - d) (0)) := Lib.hid (rsP_i p xs (by omega))
          rw [HE.out] at hL
          obtain ⟨R, hRe⟩ : ∃ z9, (restR p xs z)[L]? = some z9 := ⟨_, List.getElem?_eq_getElem (by rw [restR_len, HXl.out]; omega)⟩
          have hRb := (restR_in hp5.1 xs z).get hRe
          have HRe := Lib.hid hRe
          obtain ⟨NEW, hNEW⟩ : ∃ z9, restR p xs (z + 1) = z9 := ⟨_, rfl⟩
          have HNEW := Lib.hid hNEW
          have HN1 : Hid (NEW.length = d) := Lib.hid (by rw [← hNEW, restR_len, HXl.out])
          clear hRe hNEW
          go_upto_region 11 with (fail)
          refine wp_region_lit ?_
          refine ls_ex (some 54) (.int .i64 i) rfl rfl (exec_move _ rfl (.int .i64 i) rfl) ?_
          go_frame
          refine ls_ex (some 55) (.int .i64 d) rfl rfl (exec_move _ rfl (.int .i64 d) rfl) ?_
          go_frame
          refine ls_ex (some 56) (.bool false) rfl rfl (exec_lss _ _ _ _ rfl i d rfl rfl false (decide_eq_false (by omega))) ?_
          go_frame
          refine ls_ex (some 57) (.bool false) rfl rfl (exec_move _ rfl (.bool false) rfl) ?_
          go_frame
          refine ls_skip_g (some 58) rfl rfl ?_
          go_frame
          refine ls_skip_g (some 59) rfl rfl ?_
          go_frame
          refine ls_skip_g (some 60) rfl rfl ?_
          go_frame
          refine ls_ex (some 61) (.bool false) rfl rfl (exec_pick _ _ _ rfl false rfl (.bool false) rfl) ?_
          go_frame
          refine wpList_nil ?_
          go_upto_region 17 with (fail)
          refine wp_region_y (zs := []) (S := fun w' => Below w.heap.size w w' ∧ At w' h (.cells (iar (restR p xs z)) 2 (0, 0))) (S2 := fun w' => True) (by kernel_rfl) ?_
          change wpAnyY _ _ _ _ _ _ _ _ _ _ (World.drew _)
          generalize hwdz154 : World.drew _ = wdz154
          replace hB : Below w.heap.size w wdz154 := by rw [← hwdz154]; exact hB.drew
          replace h1 : At wdz154 w.heap.size (.cells #[.int .i64 0, .int .i64 0, .int .i64 0, .int .i64 0, .slice none 0 0] 31 (0, 0)) := by rw [← hwdz154]; exact h1
          replace h2 : At wdz154 Wz18.heap.size (.cells #[.int .i64 p, .int .i64 d, .int .i64 d, .int .i64 d, .slice (some ⟨g, 0, none⟩) N N] 31 (0, 0)) := by rw [← hwdz154]; exact h2
          replace hL : At wdz154 g (.cells (iar (rsP p xs d (z + 1) (z + 2 - d) (0))) 2 (0, 0)) := by rw [← hwdz154]; exact hL
          replace hR : At wdz154 h (.cells (iar (restR p xs z)) 2 (0, 0)) := by rw [← hwdz154]; exact hR
          clear hwdz154
          refine y_yield 0 (some 87) (.slice (some ⟨h, 0, none⟩) d d) rfl (by kernel_rfl) (by kernel_rfl) (by kernel_rfl) (fun _ _ _ h => h) rfl rfl ⟨hB, hR⟩ (fun w' h' => exec_move _ rfl (.slice (some ⟨h, 0, none⟩) d d) rfl) ?_
          go_frame
          refine y_yield 1 (some 88) (.int .i64 d) rfl (by kernel_rfl) (by kernel_rfl) (by kernel_rfl) (fun _ _ _ h => h) rfl rfl ⟨hB, hR⟩ (fun w' h' => exec_move _ rfl (.int .i64 d) rfl) ?_
          go_frame
          refine y_yield 2 (some 89) (.int .i64 L) rfl (by kernel_rfl) (by kernel_rfl) (by kernel_rfl) (fun _ _ _ h => h) rfl rfl ⟨hB, hR⟩ (fun w' h' => exec_sub _ _ _ _ rfl d 1 L rfl rfl HLs.out) ?_
          go_frame
          refine y_yield 3 (some 90) (.pointer (some ⟨h, 0 + L * 1, none⟩)) rfl (by kernel_rfl) (by kernel_rfl) (by kernel_rfl) (fun _ _ _ h => h) rfl rfl ⟨hB, hR⟩ (fun w' h' => exec_index_slice _ 2 _ _ rfl h 0 d d L 1 rfl rfl Try.underlying22 (by kernel_rfl) hLd) ?_
          go_frame
          refine y_yield 4 (some 91) (.int .i64 R) rfl (by kernel_rfl) (by kernel_rfl) (by kernel_rfl) (fun _ _ _ h => h) rfl rfl ⟨hB, hR⟩ (fun w' h' => exec_load_one 2 _ rfl h (0 + L * 1) rfl (.int .i64 R) _ Try.underlying2 rfl (cell_iar9 h'.2 HRe.out)) ?_
          go_frame
          refine y_yield 5 (some 92) (.int .i64 d) rfl (by kernel_rfl) (by kernel_rfl) (by kernel_rfl) (fun _ _ _ h => h) rfl rfl ⟨hB, hR⟩ (fun w' h' => exec_move _ rfl (.int .i64 d) rfl) ?_
          go_frame
          refine y_two 6 7 (by kernel_rfl) rfl rfl rfl rfl (fun K' hK' => ?_) (fun K' hK' => ?_)
          · have lz155 := hB.size
            have lz156 := h1.lt
            have lz157 := h2.lt
            have lz158 := hL.lt
            have lz159 := hR.lt
            have hgl := hL.lt
            have hhl := hR.lt
            refine wp_make_Iz (some 93) rfl _ _ rfl d rfl rfl (by omega) (fun Wz160 nnz161 => ?_)
            have bz162 := nnz161.below (Below.refl _ _) (Nat.le_refl _)
            replace hB := below_after hB bz162
            replace h1 := h1.after bz162
            replace h2 := h2.after bz162
            replace hL := hL.after bz162
            replace hR := hR.after bz162
            have hN : At Wz160 wdz154.heap.size (.cells (iar (List.replicate d 0)) 2 (0, 0)) := nnz161.at_
            refine hK' _ _ ⟨hB, hR⟩ (fun _ => trivial) ?_
            clear hK' K' nnz161 bz162
            go_frame
            refine y_oper 7 (by kernel_rfl) rfl rfl (fun K' hK' => ?_)
            refine wp_exec (some 12) rfl (.int .i64 R) (exec_assign _ rfl (.int .i64 R) rfl) ?_
            refine hK' _ _ ⟨hB, hR⟩ (fun _ => trivial) ?_
            clear hK' K'
            go_frame
            refine y_oper 8 (by kernel_rfl) rfl rfl (fun K' hK' => ?_)
            refine wp_exec (some 13) rfl (.slice (some ⟨wdz154.heap.size, 0, none⟩) d d) (exec_assign _ rfl (.slice (some ⟨wdz154.heap.size, 0, none⟩) d d) rfl) ?_
            refine hK' _ _ ⟨hB, hR⟩ (fun _ => trivial) ?_
            clear hK' K'
            go_frame
            refine y_done (by kernel_rfl) ?_ _
            go_upto_region 18 with (fail)
            refine wp_region_lit ?_
            refine ls_ex (some 14) (.int .i64 0) rfl rfl (exec_assign _ rfl (.int .i64 0) rfl) ?_
            go_frame
            refine wpList_nil ?_
            go_wp2_with fail
            obtain ⟨wq, rfl⟩ : ∃ x : World, x = wr := ⟨_, rfl⟩
            go_loopw [14] (fun s14 wr => ∃ k : Nat, k ≤ d ∧ s14 = .int .i64 k ∧ Below w.heap.size w wr ∧ At wr w.heap.size (.cells #[.int .i64 0, .int .i64 0, .int .i64 0, .int .i64 0, .slice none 0 0] 31 (0, 0)) ∧ At wr Wz18.heap.size (.cells #[.int .i64 p, .int .i64 d, .int .i64 d, .int .i64 d, .slice (some ⟨g, 0, none⟩) N N] 31 (0, 0)) ∧ At wr g (.cells (iar (rsP p xs d (z + 1) (z + 2 - d) (0))) 2 (0, 0)) ∧ At wr h (.cells (iar (restR p xs z)) 2 (0, 0)) ∧ At wr wdz154.heap.size (.cells (iar (mixR NEW ZER (k))) 2 (0, 0))) (fun s14 _ => d - (intOf s14).toNat)
            case atStart => exact ⟨0, by omega, rfl, hB, h1, h2, hL, hR, by rw [mixR_zero, ← HZER.out]; exact hN⟩
            case round =>
              clear hB h1 h2 hL hR hN
              obtain ⟨k, hk, rfl, hB, h1, h2, hL, hR, hN9⟩ := hrel
              by_cases hlt4 : k < d
              · by_cases hk0 : k = 0
                · obtain ⟨X9, hX9⟩ : ∃ z9, xs[k]? = some z9 := ⟨_, List.getElem?_eq_getElem (by rw [HXl.out]; exact hlt4)⟩
                  have hX9b := inP.get HXi.out hX9
                  obtain ⟨V, hV⟩ : ∃ z9 : Int, (if k = 0 then 0 else (restR p xs z)[k - 1]?.getD 0) = z9 := ⟨_, rfl⟩
                  have hVb : 0 ≤ V ∧ V < p := by rw [← hV]; exact inP.prev (restR_in hp5.1 xs z) (by omega) (by rw [restR_len, HXl.out]; exact hlt4)
                  have hMb := mul_b9 (a := R) (b := X9) (by omega) (by omega)
                  obtain ⟨M1, hM1⟩ : ∃ z9 : Int, R * X9 = z9 := ⟨_, rfl⟩
                  rw [hM1] at hMb
                  obtain ⟨A1, hA1⟩ : ∃ z9 : Int, V - M1 = z9 := ⟨_, rfl⟩
                  obtain ⟨X, hX0⟩ : ∃ z9 : Int, A1 % p = z9 := ⟨_, rfl⟩
                  have HM1 : Hid (IntKind.i64.wrap (R * X9) = M1) := Lib.hid (by rw [hM1]; exact IntWalk.i64_in _ (by omega))
                  have HA1 : Hid (IntKind.i64.wrap (V - M1) = A1) := Lib.hid (by rw [hA1]; exact IntWalk.i64_in _ (by omega))
                  have HX0 := Lib.hid hX0
                  have HXg := Lib.hid hX9
                  have HNX : Hid (NEW[k]? = some X) := Lib.hid (by rw [← HNEW.out, restR_succ, stepR_get _ _ _ (by rw [restR_len, HXl.out]; exact hlt4)]; unfold stR; rw [restR_len, HXl.out, show d - 1 = L by omega, HRe.out, hX9, Option.getD_some, Option.getD_some, hV, ← stR_spec, hM1, hA1, hX0])
                  have HS0 : Hid ((mixR NEW ZER (k)).set k X = mixR NEW ZER (k + 1)) := Lib.hid (mixR_set HN1.out HZl.out hlt4 HNX.out)
                  have HMl : Hid ((mixR NEW ZER (k)).length = d) := Lib.hid (mixR_len HN1.out HZl.out (by omega))
                  have HVo : Hid ((mixR NEW ZER (k))[k]? = some V) := Lib.hid (by rw [mixR_get HN1.out hlt4, ← HZER.out, ← hV, if_pos hk0]; exact rep0_get hlt4)
                  clear hX9 hM1 hA1 hX0 hMb hV
                  go_upto_region 19 with (fail)
                  refine wp_region_lit ?_
                  refine ls_ex (some 94) (.int .i64 k) rfl rfl (exec_move _ rfl (.int .i64 k) rfl) ?_
                  go_frame
                  refine ls_ex (some 95) (.int .i64 d) rfl rfl (exec_move _ rfl (.int .i64 d) rfl) ?_
                  go_frame
                  refine ls_ex (some 96) (.bool true) rfl rfl (exec_lss _ _ _ _ rfl k d rfl rfl true (decide_eq_true (by omega))) ?_
                  go_frame
                  refine wpList_nil ?_
                  go_upto_region 21 with (fail)
                  refine wp_region_lit ?_
                  refine ls_ex (some 99) (.int .i64 k) rfl rfl (exec_move _ rfl (.int .i64 k) rfl) ?_
                  go_frame
                  refine ls_ex (some 100) (.bool false) rfl rfl (exec_gtr _ _ _ _ rfl k 0 rfl rfl false (decide_eq_false (by omega))) ?_
                  go_frame
                  refine wpList_nil ?_
                  go_upto_region 23 with (fail)
                  refine wp_region_y (zs := [16]) (S := fun w' => Below w.heap.size w w') (S2 := fun w' => At w' wdz154.heap.size (.cells (iar (mixR NEW ZER (k))) 2 (0, 0))) (by kernel_rfl) ?_
                  change wpAnyY _ _ _ _ _ _ _ _ _ _ (World.drew _)
                  generalize hwdz163 : World.drew _ = wdz163
                  replace hB : Below w.heap.size w wdz163 := by rw [← hwdz163]; exact hB.drew
                  replace h1 : At wdz163 w.heap.size (.cells #[.int .i64 0, .int .i64 0, .int .i64 0, .int .i64 0, .slice none 0 0] 31 (0, 0)) := by rw [← hwdz163]; exact h1
                  replace h2 : At wdz163 Wz18.heap.size (.cells #[.int .i64 p, .int .i64 d, .int .i64 d, .int .i64 d, .slice (some ⟨g, 0, none⟩) N N] 31 (0, 0)) := by rw [← hwdz163]; exact h2
                  replace hL : At wdz163 g (.cells (iar (rsP p xs d (z + 1) (z + 2 - d) (0))) 2 (0, 0)) := by rw [← hwdz163]; exact hL
                  replace hR : At wdz163 h (.cells (iar (restR p xs z)) 2 (0, 0)) := by rw [← hwdz163]; exact hR
                  replace hN9 : At wdz163 wdz154.heap.size (.cells (iar (mixR NEW ZER (k))) 2 (0, 0)) := by rw [← hwdz163]; exact hN9
                  clear hwdz163
                  refine y_yield 0 (some 109) (.slice (some ⟨wdz154.heap.size, 0, none⟩) d d) rfl (by kernel_rfl) (by kernel_rfl) (by kernel_rfl) (fun _ _ _ h => h) rfl rfl hB (fun w' h' => exec_move _ rfl (.slice (some ⟨wdz154.heap.size, 0, none⟩) d d) rfl) ?_
                  go_frame
                  refine y_yield 1 (some 110) (.int .i64 k) rfl (by kernel_rfl) (by kernel_rfl) (by kernel_rfl) (fun _ _ _ h => h) rfl rfl hB (fun w' h' => exec_move _ rfl (.int .i64 k) rfl) ?_
                  go_frame
                  refine y_yield 2 (some 111) (.int .i64 p) rfl (by kernel_rfl) (by kernel_rfl) (by kernel_rfl) (fun _ _ _ h => h) rfl rfl hB (fun w' h' => exec_move _ rfl (.int .i64 p) rfl) ?_
                  go_frame
                  refine y_yield 3 (some 112) (.slice (some ⟨wdz154.heap.size, 0, none⟩) d d) rfl (by kernel_rfl) (by kernel_rfl) (by kernel_rfl) (fun _ _ _ h => h) rfl rfl hB (fun w' h' => exec_move _ rfl (.slice (some ⟨wdz154.heap.size, 0, none⟩) d d) rfl) ?_
                  go_frame
                  refine y_yield 4 (some 113) (.int .i64 k) rfl (by kernel_rfl) (by kernel_rfl) (by kernel_rfl) (fun _ _ _ h => h) rfl rfl hB (fun w' h' => exec_move _ rfl (.int .i64 k) rfl) ?_
                  go_frame
                  refine y_yield 5 (some 114) (.pointer (some ⟨wdz154.heap.size, 0 + k * 1, none⟩)) rfl (by kernel_rfl) (by kernel_rfl) (by kernel_rfl) (fun _ _ _ h => h) rfl rfl hB (fun w' h' => exec_index_slice _ 2 _ _ rfl wdz154.heap.size 0 d d k 1 rfl rfl Try.underlying22 (by kernel_rfl) hlt4) ?_
                  go_frame
                  refine y_yield2 6 (some 115) (.int .i64 V) rfl (by kernel_rfl) (by kernel_rfl) (by kernel_rfl) (by kernel_rfl) (fun _ _ _ h => h) rfl rfl hB hN9 (fun w' h' h2' => exec_load_one 2 _ rfl wdz154.heap.size (0 + k * 1) rfl (.int .i64 V) _ Try.underlying2 rfl (cell_iar9 h2' HVo.out)) ?_
                  go_frame
                  refine y_yield 7 (some 116) (.int .i64 R) rfl (by kernel_rfl) (by kernel_rfl) (by kernel_rfl) (fun _ _ _ h => h) rfl rfl hB (fun w' h' => exec_move _ rfl (.int .i64 R) rfl) ?_
                  go_frame
                  refine y_yield 8 (some 117) (.slice (some ⟨bB, oB, none⟩) d cB) rfl (by kernel_rfl) (by kernel_rfl) (by kernel_rfl) (fun _ _ _ h => h) rfl rfl hB (fun w' h' => exec_move _ rfl (.slice (some ⟨bB, oB, none⟩) d cB) rfl) ?_
                  go_frame
                  refine y_yield 9 (some 118) (.int .i64 k) rfl (by kernel_rfl) (by kernel_rfl) (by kernel_rfl) (fun _ _ _ h => h) rfl rfl hB (fun w' h' => exec_move _ rfl (.int .i64 k) rfl) ?_
                  go_frame
                  refine y_yield 10 (some 119) (.pointer (some ⟨bB, oB + k * 1, none⟩)) rfl (by kernel_rfl) (by kernel_rfl) (by kernel_rfl) (fun _ _ _ h => h) rfl rfl hB (fun w' h' => exec_index_slice _ 2 _ _ rfl bB oB d cB k 1 rfl rfl Try.underlying22 (by kernel_rfl) hlt4) ?_
                  go_frame
                  refine y_yield 11 (some 120) (.int .i64 X9) rfl (by kernel_rfl) (by kernel_rfl) (by kernel_rfl) (fun _ _ _ h => h) rfl rfl hB (fun w' h' => exec_load_one 2 _ rfl bB (oB + k * 1) rfl (.int .i64 X9) _ Try.underlying2 rfl (RdI.c1r (hX.keep h') HXg.out)) ?_
                  go_frame
                  refine y_yield 12 (some 121) (.int .i64 M1) rfl (by kernel_rfl) (by kernel_rfl) (by kernel_rfl) (fun _ _ _ h => h) rfl rfl hB (fun w' h' => exec_mul _ _ _ _ rfl R X9 M1 rfl rfl HM1.out) ?_
                  go_frame
                  refine y_yield 13 (some 122) (.int .i64 A1) rfl (by kernel_rfl) (by kernel_rfl) (by kernel_rfl) (fun _ _ _ h => h) rfl rfl hB (fun w' h' => exec_sub _ _ _ _ rfl V M1 A1 rfl rfl HA1.out) ?_
                  go_frame
                  refine y_oper 14 (by kernel_rfl) rfl rfl (fun K' hK' => ?_)
                  have lz166 := hB.size
                  have lz167 := h1.lt
                  have lz168 := h2.lt
                  have lz169 := hL.lt
                  have lz170 := hR.lt
                  have lz171 := hN9.lt
                  refine wp_call2 (some 123) rfl 42 _ _ _ rfl (fun args w => by kernel_rfl) _ _ rfl rfl _ (l01Mod_c p A1 _ (by omega) (by omega)) (fun e Wz164 h => ?_)
                  obtain ⟨rfl, rfl⟩ := h
                  rw [HX0.out]
                  refine ⟨_, rfl, ?_⟩
                  refine hK' _ _ hB (fun _ => hN9) ?_
                  clear hK' K'
                  go_frame
                  refine y_yield 15 (some 124) (.pointer (some ⟨wdz154.heap.size, 0 + k * 1, none⟩)) rfl (by kernel_rfl) (by kernel_rfl) (by kernel_rfl) (fun _ _ _ h => h) rfl rfl hB (fun w' h' => exec_index_slice _ 2 _ _ rfl wdz154.heap.size 0 d d k 1 rfl rfl Try.underlying22 (by kernel_rfl) hlt4) ?_
                  go_frame
                  refine y_oper 16 (by kernel_rfl) rfl rfl (fun K' hK' => ?_)
                  have lz174 := hB.size
                  have lz175 := h1.lt
                  have lz176 := h2.lt
                  have lz177 := hL.lt
                  have lz178 := hR.lt
                  have lz179 := hN9.lt
                  refine wp_store_one 2 _ _ rfl rfl wdz154.heap.size (0 + k * 1) rfl (.int .i64 X) rfl rfl rfl _ _ hN9 (by kernel_rfl) (by rw [iar_size, HMl.out]; omega) (fun Wz172 pz173 => ?_)
                  replace hB := pz173.below hB (by omega)
                  replace h1 := pz173.other h1 (by omega)
                  replace h2 := pz173.other h2 (by omega)
                  replace hL := pz173.other hL (by omega)
                  replace hR := pz173.other hR (by omega)
                  replace hN9 : At Wz172 wdz154.heap.size (.cells (iar (mixR NEW ZER (k + 1))) 2 (0, 0)) := by have h9 := pz173.at_; rw [show 0 + k * 1 = k by omega, iar_set] at h9; rwa [HS0.out] at h9
                  refine hK' _ _ hB (fun h => absurd (by decide) h) ?_
                  clear hK' K' pz173
                  refine y_done (by kernel_rfl) ?_ _
                  go_upto_region 20 with (fail)
                  refine wp_region_lit ?_
                  refine ls_ex (some 97) (.int .i64 k) rfl rfl (exec_move _ rfl (.int .i64 k) rfl) ?_
                  go_frame
                  refine ls_ex (some 98) (.int .i64 (k + 1)) rfl rfl (exec_add _ _ _ _ rfl k 1 (k + 1) rfl rfl (IntWalk.i64_in _ (by omega))) ?_
                  go_frame
                  refine ls_ex (some 14) (.int .i64 (k + 1)) rfl rfl (exec_assign _ rfl (.int .i64 (k + 1)) rfl) ?_
                  go_frame
                  refine wpList_nil ?_
                  go_wp2_with fail
                  go_roundw
                  case rel => exact ⟨k + 1, by omega, by go_num, hB, h1, h2, hL, hR, hN9⟩
                  case measure => simp [intOf]; omega
                · obtain ⟨X9, hX9⟩ : ∃ z9, xs[k]? = some z9 := ⟨_, List.getElem?_eq_getElem (by rw [HXl.out]; exact hlt4)⟩
                  have hX9b := inP.get HXi.out hX9
                  obtain ⟨V, hV⟩ : ∃ z9 : Int, (if k = 0 then 0 else (restR p xs z)[k - 1]?.getD 0) = z9 := ⟨_, rfl⟩
                  have hVb : 0 ≤ V ∧ V < p := by rw [← hV]; exact inP.prev (restR_in hp5.1 xs z) (by omega) (by rw [restR_len, HXl.out]; exact hlt4)
                  have hMb := mul_b9 (a := R) (b := X9) (by omega) (by omega)
                  obtain ⟨M1, hM1⟩ : ∃ z9 : Int, R * X9 = z9 := ⟨_, rfl⟩
                  rw [hM1] at hMb
                  obtain ⟨A1, hA1⟩ : ∃ z9 : Int, V - M1 = z9 := ⟨_, rfl⟩
                  obtain ⟨X, hX0⟩ : ∃ z9 : Int, A1 % p = z9 := ⟨_, rfl⟩
                  have HM1 : Hid (IntKind.i64.wrap (R * X9) = M1) := Lib.hid (by rw [hM1]; exact IntWalk.i64_in _ (by omega))
                  have HA1 : Hid (IntKind.i64.wrap (V - M1) = A1) := Lib.hid (by rw [hA1]; exact IntWalk.i64_in _ (by omega))
                  have HX0 := Lib.hid hX0
                  have HXg := Lib.hid hX9
                  have HNX : Hid (NEW[k]? = some X) := Lib.hid (by rw [← HNEW.out, restR_succ, stepR_get _ _ _ (by rw [restR_len, HXl.out]; exact hlt4)]; unfold stR; rw [restR_len, HXl.out, show d - 1 = L by omega, HRe.out, hX9, Option.getD_some, Option.getD_some, hV, ← stR_spec, hM1, hA1, hX0])
                  have HS0 : Hid ((mixR NEW ZER (k)).set k X = mixR NEW ZER (k + 1)) := Lib.hid (mixR_set HN1.out HZl.out hlt4 HNX.out)
                  have HMl : Hid ((mixR NEW ZER (k)).length = d) := Lib.hid (mixR_len HN1.out HZl.out (by omega))
                  obtain ⟨K1, hK1⟩ : ∃ z9, k - 1 = z9 := ⟨_, rfl⟩
                  have HK1 : Hid (IntKind.i64.wrap ((k : Int) - 1) = (K1 : Int)) := Lib.hid (by rw [IntWalk.i64_in _ (by omega)]; omega)
                  have HVr : Hid ((restR p xs z)[K1]? = some V) := Lib.hid (by rw [← hV, if_neg hk0, hK1, List.getElem?_eq_getElem (by rw [restR_len, HXl.out]; omega)]; rfl)
                  have HVo : Hid (((mixR NEW ZER (k)).set k V)[k]? = some V) := Lib.hid (List.getElem?_set_self (by rw [HMl.out]; exact hlt4))
                  have HS1 : Hid (((mixR NEW ZER (k)).set k V).set k X = mixR NEW ZER (k + 1)) := Lib.hid (by rw [List.set_set]; exact HS0.out)
                  have HMs : Hid (((mixR NEW ZER (k)).set k V).length = d) := Lib.hid (by rw [List.length_set, HMl.out])
                  clear hX9 hM1 hA1 hX0 hMb hV
                  go_upto_region 19 with (fail)
                  refine wp_region_lit ?_
                  refine ls_ex (some 94) (.int .i64 k) rfl rfl (exec_move _ rfl (.int .i64 k) rfl) ?_
                  go_frame
                  refine ls_ex (some 95) (.int .i64 d) rfl rfl (exec_move _ rfl (.int .i64 d) rfl) ?_
                  go_frame
                  refine ls_ex (some 96) (.bool true) rfl rfl (exec_lss _ _ _ _ rfl k d rfl rfl true (decide_eq_true (by omega))) ?_
                  go_frame
                  refine wpList_nil ?_
                  go_upto_region 21 with (fail)
                  refine wp_region_lit ?_
                  refine ls_ex (some 99) (.int .i64 k) rfl rfl (exec_move _ rfl (.int .i64 k) rfl) ?_
                  go_frame
                  refine ls_ex (some 100) (.bool true) rfl rfl (exec_gtr _ _ _ _ rfl k 0 rfl rfl true (decide_eq_true (by omega))) ?_
                  go_frame
                  refine wpList_nil ?_
                  go_upto_region 22 with (fail)
                  refine wp_region_lit ?_
                  refine ls_ex (some 101) (.slice (some ⟨wdz154.heap.size, 0, none⟩) d d) rfl rfl (exec_move _ rfl (.slice (some ⟨wdz154.heap.size, 0, none⟩) d d) rfl) ?_
                  go_frame
                  refine ls_ex (some 102) (.int .i64 k) rfl rfl (exec_move _ rfl (.int .i64 k) rfl) ?_
                  go_frame
                  refine ls_ex (some 103) (.slice (some ⟨h, 0, none⟩) d d) rfl rfl (exec_move _ rfl (.slice (some ⟨h, 0, none⟩) d d) rfl) ?_
                  go_frame
                  refine ls_ex (some 104) (.int .i64 k) rfl rfl (exec_move _ rfl (.int .i64 k) rfl) ?_
                  go_frame
                  refine ls_ex (some 105) (.int .i64 K1) rfl rfl (exec_sub _ _ _ _ rfl k 1 K1 rfl rfl HK1.out) ?_
                  go_frame
                  refine ls_ex (some 106) (.pointer (some ⟨h, 0 + K1 * 1, none⟩)) rfl rfl (exec_index_slice _ 2 _ _ rfl h 0 d d K1 1 rfl rfl Try.underlying22 (by kernel_rfl) (by omega)) ?_
                  go_frame
                  refine ls_ex (some 107) (.int .i64 V) rfl rfl (exec_load_one 2 _ rfl h (0 + K1 * 1) rfl (.int .i64 V) _ Try.underlying2 rfl (cell_iar9 hR HVr.out)) ?_
                  go_frame
                  refine ls_ex (some 108) (.pointer (some ⟨wdz154.heap.size, 0 + k * 1, none⟩)) rfl rfl (exec_index_slice _ 2 _ _ rfl wdz154.heap.size 0 d d k 1 rfl rfl Try.underlying22 (by kernel_rfl) hlt4) ?_
                  go_frame
                  refine ls_op rfl (fun K' hK' => ?_)
                  have lz182 := hB.size
                  have lz183 := h1.lt
                  have lz184 := h2.lt
                  have lz185 := hL.lt
                  have lz186 := hR.lt
                  have lz187 := hN9.lt
                  refine wp_store_one 2 _ _ rfl rfl wdz154.heap.size (0 + k * 1) rfl (.int .i64 V) rfl rfl rfl _ _ hN9 (by kernel_rfl) (by rw [iar_size, HMl.out]; omega) (fun Wz180 pz181 => ?_)
                  replace hB := pz181.below hB (by omega)
                  replace h1 := pz181.other h1 (by omega)
                  replace h2 := pz181.other h2 (by omega)
                  replace hL := pz181.other hL (by omega)
                  replace hR := pz181.other hR (by omega)
                  replace hN9 : At Wz180 wdz154.heap.size (.cells (iar ((mixR NEW ZER (k)).set k V)) 2 (0, 0)) := by have h9 := pz181.at_; rw [show 0 + k * 1 = k by omega, iar_set] at h9; exact h9
                  refine hK' _ _ ?_
                  clear hK' K' pz181
                  refine wpList_nil ?_
                  go_upto_region 23 with (fail)
                  refine wp_region_y (zs := [16]) (S := fun w' => Below w.heap.size w w') (S2 := fun w' => At w' wdz154.heap.size (.cells (iar ((mixR NEW ZER (k)).set k V)) 2 (0, 0))) (by kernel_rfl) ?_
                  change wpAnyY _ _ _ _ _ _ _ _ _ _ (World.drew _)
                  generalize hwdz188 : World.drew _ = wdz188
                  replace hB : Below w.heap.size w wdz188 := by rw [← hwdz188]; exact hB.drew
                  replace h1 : At wdz188 w.heap.size (.cells #[.int .i64 0, .int .i64 0, .int .i64 0, .int .i64 0, .slice none 0 0] 31 (0, 0)) := by rw [← hwdz188]; exact h1
                  replace h2 : At wdz188 Wz18.heap.size (.cells #[.int .i64 p, .int .i64 d, .int .i64 d, .int .i64 d, .slice (some ⟨g, 0, none⟩) N N] 31 (0, 0)) := by rw [← hwdz188]; exact h2
                  replace hL : At wdz188 g (.cells (iar (rsP p xs d (z + 1) (z + 2 - d) (0))) 2 (0, 0)) := by rw [← hwdz188]; exact hL
                  replace hR : At wdz188 h (.cells (iar (restR p xs z)) 2 (0, 0)) := by rw [← hwdz188]; exact hR
                  replace hN9 : At wdz188 wdz154.heap.size (.cells (iar ((mixR NEW ZER (k)).set k V)) 2 (0, 0)) := by rw [← hwdz188]; exact hN9
                  clear hwdz188
                  refine y_yield 0 (some 109) (.slice (some ⟨wdz154.heap.size, 0, none⟩) d d) rfl (by kernel_rfl) (by kernel_rfl) (by kernel_rfl) (fun _ _ _ h => h) rfl rfl hB (fun w' h' => exec_move _ rfl (.slice (some ⟨wdz154.heap.size, 0, none⟩) d d) rfl) ?_
                  go_frame
                  refine y_yield 1 (some 110) (.int .i64 k) rfl (by kernel_rfl) (by kernel_rfl) (by kernel_rfl) (fun _ _ _ h => h) rfl rfl hB (fun w' h' => exec_move _ rfl (.int .i64 k) rfl) ?_
                  go_frame
                  refine y_yield 2 (some 111) (.int .i64 p) rfl (by kernel_rfl) (by kernel_rfl) (by kernel_rfl) (fun _ _ _ h => h) rfl rfl hB (fun w' h' => exec_move _ rfl (.int .i64 p) rfl) ?_
                  go_frame
                  refine y_yield 3 (some 112) (.slice (some ⟨wdz154.heap.size, 0, none⟩) d d) rfl (by kernel_rfl) (by kernel_rfl) (by kernel_rfl) (fun _ _ _ h => h) rfl rfl hB (fun w' h' => exec_move _ rfl (.slice (some ⟨wdz154.heap.size, 0, none⟩) d d) rfl) ?_
                  go_frame
                  refine y_yield 4 (some 113) (.int .i64 k) rfl (by kernel_rfl) (by kernel_rfl) (by kernel_rfl) (fun _ _ _ h => h) rfl rfl hB (fun w' h' => exec_move _ rfl (.int .i64 k) rfl) ?_
                  go_frame
                  refine y_yield 5 (some 114) (.pointer (some ⟨wdz154.heap.size, 0 + k * 1, none⟩)) rfl (by kernel_rfl) (by kernel_rfl) (by kernel_rfl) (fun _ _ _ h => h) rfl rfl hB (fun w' h' => exec_index_slice _ 2 _ _ rfl wdz154.heap.size 0 d d k 1 rfl rfl Try.underlying22 (by kernel_rfl) hlt4) ?_
                  go_frame
                  refine y_yield2 6 (some 115) (.int .i64 V) rfl (by kernel_rfl) (by kernel_rfl) (by kernel_rfl) (by kernel_rfl) (fun _ _ _ h => h) rfl rfl hB hN9 (fun w' h' h2' => exec_load_one 2 _ rfl wdz154.heap.size (0 + k * 1) rfl (.int .i64 V) _ Try.underlying2 rfl (cell_iar9 h2' HVo.out)) ?_
                  go_frame
                  refine y_yield 7 (some 116) (.int .i64 R) rfl (by kernel_rfl) (by kernel_rfl) (by kernel_rfl) (fun _ _ _ h => h) rfl rfl hB (fun w' h' => exec_move _ rfl (.int .i64 R) rfl) ?_
                  go_frame
                  refine y_yield 8 (some 117) (.slice (some ⟨bB, oB, none⟩) d cB) rfl (by kernel_rfl) (by kernel_rfl) (by kernel_rfl) (fun _ _ _ h => h) rfl rfl hB (fun w' h' => exec_move _ rfl (.slice (some ⟨bB, oB, none⟩) d cB) rfl) ?_
                  go_frame
                  refine y_yield 9 (some 118) (.int .i64 k) rfl (by kernel_rfl) (by kernel_rfl) (by kernel_rfl) (fun _ _ _ h => h) rfl rfl hB (fun w' h' => exec_move _ rfl (.int .i64 k) rfl) ?_
                  go_frame
                  refine y_yield 10 (some 119) (.pointer (some ⟨bB, oB + k * 1, none⟩)) rfl (by kernel_rfl) (by kernel_rfl) (by kernel_rfl) (fun _ _ _ h => h) rfl rfl hB (fun w' h' => exec_index_slice _ 2 _ _ rfl bB oB d cB k 1 rfl rfl Try.underlying22 (by kernel_rfl) hlt4) ?_
                  go_frame
                  refine y_yield 11 (some 120) (.int .i64 X9) rfl (by kernel_rfl) (by kernel_rfl) (by kernel_rfl) (fun _ _ _ h => h) rfl rfl hB (fun w' h' => exec_load_one 2 _ rfl bB (oB + k * 1) rfl (.int .i64 X9) _ Try.underlying2 rfl (RdI.c1r (hX.keep h') HXg.out)) ?_
                  go_frame
                  refine y_yield 12 (some 121) (.int .i64 M1) rfl (by kernel_rfl) (by kernel_rfl) (by kernel_rfl) (fun _ _ _ h => h) rfl rfl hB (fun w' h' => exec_mul _ _ _ _ rfl R X9 M1 rfl rfl HM1.out) ?_
                  go_frame
                  refine y_yield 13 (some 122) (.int .i64 A1) rfl (by kernel_rfl) (by kernel_rfl) (by kernel_rfl) (fun _ _ _ h => h) rfl rfl hB (fun w' h' => exec_sub _ _ _ _ rfl V M1 A1 rfl rfl HA1.out) ?_
                  go_frame
                  refine y_oper 14 (by kernel_rfl) rfl rfl (fun K' hK' => ?_)
                  have lz191 := hB.size
                  have lz192 := h1.lt
                  have lz193 := h2.lt
                  have lz194 := hL.lt
                  have lz195 := hR.lt
                  have lz196 := hN9.lt
                  refine wp_call2 (some 123) rfl 42 _ _ _ rfl (fun args w => by kernel_rfl) _ _ rfl rfl _ (l01Mod_c p A1 _ (by omega) (by omega)) (fun e Wz189 h => ?_)
                  obtain ⟨rfl, rfl⟩ := h
                  rw [HX0.out]
                  refine ⟨_, rfl, ?_⟩
                  refine hK' _ _ hB (fun _ => hN9) ?_
                  clear hK' K'
                  go_frame
                  refine y_yield 15 (some 124) (.pointer (some ⟨wdz154.heap.size, 0 + k * 1, none⟩)) rfl (by kernel_rfl) (by kernel_rfl) (by kernel_rfl) (fun _ _ _ h => h) rfl rfl hB (fun w' h' => exec_index_slice _ 2 _ _ rfl wdz154.heap.size 0 d d k 1 rfl rfl Try.underlying22 (by kernel_rfl) hlt4) ?_
                  go_frame
                  refine y_oper 16 (by kernel_rfl) rfl rfl (fun K' hK' => ?_)
                  have lz199 := hB.size
                  have lz200 := h1.lt
                  have lz201 := h2.lt
                  have lz202 := hL.lt
                  have lz203 := hR.lt
                  have lz204 := hN9.lt
                  refine wp_store_one 2 _ _ rfl rfl wdz154.heap.size (0 + k * 1) rfl (.int .i64 X) rfl rfl rfl _ _ hN9 (by kernel_rfl) (by rw [iar_size, HMs.out]; omega) (fun Wz197 pz198 => ?_)
                  replace hB := pz198.below hB (by omega)
                  replace h1 := pz198.other h1 (by omega)
                  replace h2 := pz198.other h2 (by omega)
                  replace hL := pz198.other hL (by omega)
                  replace hR := pz198.other hR (by omega)
                  replace hN9 : At Wz197 wdz154.heap.size (.cells (iar (mixR NEW ZER (k + 1))) 2 (0, 0)) := by have h9 := pz198.at_; rw [show 0 + k * 1 = k by omega, iar_set] at h9; rwa [HS1.out] at h9
                  refine hK' _ _ hB (fun h => absurd (by decide) h) ?_
                  clear hK' K' pz198
                  refine y_done (by kernel_rfl) ?_ _
                  go_upto_region 20 with (fail)
                  refine wp_region_lit ?_
                  refine ls_ex (some 97) (.int .i64 k) rfl rfl (exec_move _ rfl (.int .i64 k) rfl) ?_
                  go_frame
                  refine ls_ex (some 98) (.int .i64 (k + 1)) rfl rfl (exec_add _ _ _ _ rfl k 1 (k + 1) rfl rfl (IntWalk.i64_in _ (by omega))) ?_
                  go_frame
                  refine ls_ex (some 14) (.int .i64 (k + 1)) rfl rfl (exec_assign _ rfl (.int .i64 (k + 1)) rfl) ?_
                  go_frame
                  refine wpList_nil ?_
                  go_wp2_with fail
                  go_roundw
                  case rel => exact ⟨k + 1, by omega, by go_num, hB, h1, h2, hL, hR, hN9⟩
                  case measure => simp [intOf]; omega
              · have HE9 : Hid (mixR NEW ZER (k) = restR p xs (z + 1)) := Lib.hid (by rw [show k = d by omega, mixR_all HN1.out HZl.out, HNEW.out])
                rw [HE9.out] at hN9
                go_upto_region 19 with (fail)
                refine wp_region_lit ?_
                refine ls_ex (some 94) (.int .i64 k) rfl rfl (exec_move _ rfl (.int .i64 k) rfl) ?_
                go_frame
                refine ls_ex (some 95) (.int .i64 d) rfl rfl (exec_move _ rfl (.int .i64 d) rfl) ?_
                go_frame
                refine ls_ex (some 96) (.bool false) rfl rfl (exec_lss _ _ _ _ rfl k d rfl rfl false (decide_eq_false (by omega))) ?_
                go_frame
                refine wpList_nil ?_
                go_upto_region 24 with (fail)
                refine wp_region_lit ?_
                refine ls_ex (some 125) (.slice (some ⟨wdz154.heap.size, 0, none⟩) d d) rfl rfl (exec_move _ rfl (.slice (some ⟨wdz154.heap.size, 0, none⟩) d d) rfl) ?_
                go_frame
                refine ls_ex (some 8) (.slice (some ⟨wdz154.heap.size, 0, none⟩) d d) rfl rfl (exec_assign _ rfl (.slice (some ⟨wdz154.heap.size, 0, none⟩) d d) rfl) ?_
                go_frame
                refine wpList_nil ?_
                go_upto_region 9 with (fail)
                refine wp_region_lit ?_
                refine ls_ex (some 47) (.int .i64 z) rfl rfl (exec_move _ rfl (.int .i64 z) rfl) ?_
                go_frame
                refine ls_ex (some 48) (.int .i64 (z + 1)) rfl rfl (exec_add _ _ _ _ rfl z 1 (z + 1) rfl rfl (IntWalk.i64_in _ (by omega))) ?_
                go_frame
                refine ls_ex (some 9) (.int .i64 (z + 1)) rfl rfl (exec_assign _ rfl (.int .i64 (z + 1)) rfl) ?_
                go_frame
                refine wpList_nil ?_
                go_wp2_with fail
                go_roundw
                case rel => exact ⟨z + 1, _, by omega, by go_num, rfl, by omega, hB, h1, h2, hL, hN9⟩
                case measure => simp [intOf]; omega
          · refine wp_exec (some 12) rfl (.int .i64 R) (exec_assign _ rfl (.int .i64 R) rfl) ?_
            refine hK' _ _ ⟨hB, hR⟩ (fun _ => trivial) ?_
            clear hK' K'
            go_frame
            refine y_oper 6 (by kernel_rfl) rfl rfl (fun K' hK' => ?_)
            have lz205 := hB.size
            have lz206 := h1.lt
            have lz207 := h2.lt
            have lz208 := hL.lt
            have lz209 := hR.lt
            have hgl := hL.lt
            have hhl := hR.lt
            refine wp_make_Iz (some 93) rfl _ _ rfl d rfl rfl (by omega) (fun Wz210 nnz211 => ?_)
            have bz212 := nnz211.below (Below.refl _ _) (Nat.le_refl _)
            replace hB := below_after hB bz212
            replace h1 := h1.after bz212
            replace h2 := h2.after bz212
            replace hL := hL.after bz212
            replace hR := hR.after bz212
            have hN : At Wz210 wdz154.heap.size (.cells (iar (List.replicate d 0)) 2 (0, 0)) := nnz211.at_
            refine hK' _ _ ⟨hB, hR⟩ (fun _ => trivial) ?_
            clear hK' K' nnz211 bz212
            go_frame
            refine y_oper 8 (by kernel_rfl) rfl rfl (fun K' hK' => ?_)
            refine wp_exec (some 13) rfl (.slice (some ⟨wdz154.heap.size, 0, none⟩) d d) (exec_assign _ rfl (.slice (some ⟨wdz154.heap.size, 0, none⟩) d d) rfl) ?_
            refine hK' _ _ ⟨hB, hR⟩ (fun _ => trivial) ?_
            clear hK' K'
            go_frame
            refine y_done (by kernel_rfl) ?_ _
            go_upto_region 18 with (fail)
            refine wp_region_lit ?_
            refine ls_ex (some 14) (.int .i64 0) rfl rfl (exec_assign _ rfl (.int .i64 0) rfl) ?_
            go_frame
            refine wpList_nil ?_
            go_wp2_with fail
            obtain ⟨wq, rfl⟩ : ∃ x : World, x = wr := ⟨_, rfl⟩
            go_loopw [14] (fun s14 wr => ∃ k : Nat, k ≤ d ∧ s14 = .int .i64 k ∧ Below w.heap.size w wr ∧ At wr w.heap.size (.cells #[.int .i64 0, .int .i64 0, .int .i64 0, .int .i64 0, .slice none 0 0] 31 (0, 0)) ∧ At wr Wz18.heap.size (.cells #[.int .i64 p, .int .i64 d, .int .i64 d, .int .i64 d, .slice (some ⟨g, 0, none⟩) N N] 31 (0, 0)) ∧ At wr g (.cells (iar (rsP p xs d (z + 1) (z + 2 - d) (0))) 2 (0, 0)) ∧ At wr h (.cells (iar (restR p xs z)) 2 (0, 0)) ∧ At wr wdz154.heap.size (.cells (iar (mixR NEW ZER (k))) 2 (0, 0))) (fun s14 _ => d - (intOf s14).toNat)
            case atStart => exact ⟨0, by omega, rfl, hB, h1, h2, hL, hR, by rw [mixR_zero, ← HZER.out]; exact hN⟩
            case round =>
              clear hB h1 h2 hL hR hN
              obtain ⟨k, hk, rfl, hB, h1, h2, hL, hR, hN9⟩ := hrel
              by_cases hlt4 : k < d
              · by_cases hk0 : k = 0
                · obtain ⟨X9, hX9⟩ : ∃ z9, xs[k]? = some z9 := ⟨_, List.getElem?_eq_getElem (by rw [HXl.out]; exact hlt4)⟩
                  have hX9b := inP.get HXi.out hX9
                  obtain ⟨V, hV⟩ : ∃ z9 : Int, (if k = 0 then 0 else (restR p xs z)[k - 1]?.getD 0) = z9 := ⟨_, rfl⟩
                  have hVb : 0 ≤ V ∧ V < p := by rw [← hV]; exact inP.prev (restR_in hp5.1 xs z) (by omega) (by rw [restR_len, HXl.out]; exact hlt4)
                  have hMb := mul_b9 (a := R) (b := X9) (by omega) (by omega)
                  obtain ⟨M1, hM1⟩ : ∃ z9 : Int, R * X9 = z9 := ⟨_, rfl⟩
                  rw [hM1] at hMb
                  obtain ⟨A1, hA1⟩ : ∃ z9 : Int, V - M1 = z9 := ⟨_, rfl⟩
                  obtain ⟨X, hX0⟩ : ∃ z9 : Int, A1 % p = z9 := ⟨_, rfl⟩
                  have HM1 : Hid (IntKind.i64.wrap (R * X9) = M1) := Lib.hid (by rw [hM1]; exact IntWalk.i64_in _ (by omega))
                  have HA1 : Hid (IntKind.i64.wrap (V - M1) = A1) := Lib.hid (by rw [hA1]; exact IntWalk.i64_in _ (by omega))
                  have HX0 := Lib.hid hX0
                  have HXg := Lib.hid hX9
                  have HNX : Hid (NEW[k]? = some X) := Lib.hid (by rw [← HNEW.out, restR_succ, stepR_get _ _ _ (by rw [restR_len, HXl.out]; exact hlt4)]; unfold stR; rw [restR_len, HXl.out, show d - 1 = L by omega, HRe.out, hX9, Option.getD_some, Option.getD_some, hV, ← stR_spec, hM1, hA1, hX0])
                  have HS0 : Hid ((mixR NEW ZER (k)).set k X = mixR NEW ZER (k + 1)) := Lib.hid (mixR_set HN1.out HZl.out hlt4 HNX.out)
                  have HMl : Hid ((mixR NEW ZER (k)).length = d) := Lib.hid (mixR_len HN1.out HZl.out (by omega))
                  have HVo : Hid ((mixR NEW ZER (k))[k]? = some V) := Lib.hid (by rw [mixR_get HN1.out hlt4, ← HZER.out, ← hV, if_pos hk0]; exact rep0_get hlt4)
                  clear hX9 hM1 hA1 hX0 hMb hV
                  go_upto_region 19 with (fail)
                  refine wp_region_lit ?_
                  refine ls_ex (some 94) (.int .i64 k) rfl rfl (exec_move _ rfl (.int .i64 k) rfl) ?_
                  go_frame
                  refine ls_ex (some 95) (.int .i64 d) rfl rfl (exec_move _ rfl (.int .i64 d) rfl) ?_
                  go_frame
                  refine ls_ex (some 96) (.bool true) rfl rfl (exec_lss _ _ _ _ rfl k d rfl rfl true (decide_eq_true (by omega))) ?_
                  go_frame
                  refine wpList_nil ?_
                  go_upto_region 21 with (fail)
                  refine wp_region_lit ?_
                  refine ls_ex (some 99) (.int .i64 k) rfl rfl (exec_move _ rfl (.int .i64 k) rfl) ?_
                  go_frame
                  refine ls_ex (some 100) (.bool false) rfl rfl (exec_gtr _ _ _ _ rfl k 0 rfl rfl false (decide_eq_false (by omega))) ?_
                  go_frame
                  refine wpList_nil ?_
                  go_upto_region 23 with (fail)
                  refine wp_region_y (zs := [16]) (S := fun w' => Below w.heap.size w w') (S2 := fun w' => At w' wdz154.heap.size (.cells (iar (mixR NEW ZER (k))) 2 (0, 0))) (by kernel_rfl) ?_
                  change wpAnyY _ _ _ _ _ _ _ _ _ _ (World.drew _)
                  generalize hwdz213 : World.drew _ = wdz213
                  replace hB : Below w.heap.size w wdz213 := by rw [← hwdz213]; exact hB.drew
                  replace h1 : At wdz213 w.heap.size (.cells #[.int .i64 0, .int .i64 0, .int .i64 0, .int .i64 0, .slice none 0 0] 31 (0, 0)) := by rw [← hwdz213]; exact h1
                  replace h2 : At wdz213 Wz18.heap.size (.cells #[.int .i64 p, .int .i64 d, .int .i64 d, .int .i64 d, .slice (some ⟨g, 0, none⟩) N N] 31 (0, 0)) := by rw [← hwdz213]; exact h2
                  replace hL : At wdz213 g (.cells (iar (rsP p xs d (z + 1) (z + 2 - d) (0))) 2 (0, 0)) := by rw [← hwdz213]; exact hL
                  replace hR : At wdz213 h (.cells (iar (restR p xs z)) 2 (0, 0)) := by rw [← hwdz213]; exact hR
                  replace hN9 : At wdz213 wdz154.heap.size (.cells (iar (mixR NEW ZER (k))) 2 (0, 0)) := by rw [← hwdz213]; exact hN9
                  clear hwdz213
                  refine y_yield 0 (some 109) (.slice (some ⟨wdz154.heap.size, 0, none⟩) d d) rfl (by kernel_rfl) (by kernel_rfl) (by kernel_rfl) (fun _ _ _ h => h) rfl rfl hB (fun w' h' => exec_move _ rfl (.slice (some ⟨wdz154.heap.size, 0, none⟩) d d) rfl) ?_
                  go_frame
                  refine y_yield 1 (some 110) (.int .i64 k) rfl (by kernel_rfl) (by kernel_rfl) (by kernel_rfl) (fun _ _ _ h => h) rfl rfl hB (fun w' h' => exec_move _ rfl (.int .i64 k) rfl) ?_
                  go_frame
                  refine y_yield 2 (some 111) (.int .i64 p) rfl (by kernel_rfl) (by kernel_rfl) (by kernel_rfl) (fun _ _ _ h => h) rfl rfl hB (fun w' h' => exec_move _ rfl (.int .i64 p) rfl) ?_
                  go_frame
                  refine y_yield 3 (some 112) (.slice (some ⟨wdz154.heap.size, 0, none⟩) d d) rfl (by kernel_rfl) (by kernel_rfl) (by kernel_rfl) (fun _ _ _ h => h) rfl rfl hB (fun w' h' => exec_move _ rfl (.slice (some ⟨wdz154.heap.size, 0, none⟩) d d) rfl) ?_
                  go_frame
                  refine y_yield 4 (some 113) (.int .i64 k) rfl (by kernel_rfl) (by kernel_rfl) (by kernel_rfl) (fun _ _ _ h => h) rfl rfl hB (fun w' h' => exec_move _ rfl (.int .i64 k) rfl) ?_
                  go_frame
                  refine y_yield 5 (some 114) (.pointer (some ⟨wdz154.heap.size, 0 + k * 1, none⟩)) rfl (by kernel_rfl) (by kernel_rfl) (by kernel_rfl) (fun _ _ _ h => h) rfl rfl hB (fun w' h' => exec_index_slice _ 2 _ _ rfl wdz154.heap.size 0 d d k 1 rfl rfl Try.underlying22 (by kernel_rfl) hlt4) ?_
                  go_frame
                  refine y_yield2 6 (some 115) (.int .i64 V) rfl (by kernel_rfl) (by kernel_rfl) (by kernel_rfl) (by kernel_rfl) (fun _ _ _ h => h) rfl rfl hB hN9 (fun w' h' h2' => exec_load_one 2 _ rfl wdz154.heap.size (0 + k * 1) rfl (.int .i64 V) _ Try.underlying2 rfl (cell_iar9 h2' HVo.out)) ?_
                  go_frame
                  refine y_yield 7 (some 116) (.int .i64 R) rfl (by kernel_rfl) (by kernel_rfl) (by kernel_rfl) (fun _ _ _ h => h) rfl rfl hB (fun w' h' => exec_move _ rfl (.int .i64 R) rfl) ?_
                  go_frame
                  refine y_yield 8 (some 117) (.slice (some ⟨bB, oB, none⟩) d cB) rfl (by kernel_rfl) (by kernel_rfl) (by kernel_rfl) (fun _ _ _ h => h) rfl rfl hB (fun w' h' => exec_move _ rfl (.slice (some ⟨bB, oB, none⟩) d cB) rfl) ?_
                  go_frame
                  refine y_yield 9 (some 118) (.int .i64 k) rfl (by kernel_rfl) (by kernel_rfl) (by kernel_rfl) (fun _ _ _ h => h) rfl rfl hB (fun w' h' => exec_move _ rfl (.int .i64 k) rfl) ?_
                  go_frame
                  refine y_yield 10 (some 119) (.pointer (some ⟨bB, oB + k * 1, none⟩)) rfl (by kernel_rfl) (by kernel_rfl) (by kernel_rfl) (fun _ _ _ h => h) rfl rfl hB (fun w' h' => exec_index_slice _ 2 _ _ rfl bB oB d cB k 1 rfl rfl Try.underlying22 (by kernel_rfl) hlt4) ?_
                  go_frame
                  refine y_yield 11 (some 120) (.int .i64 X9) rfl (by kernel_rfl) (by kernel_rfl) (by kernel_rfl) (fun _ _ _ h => h) rfl rfl hB (fun w' h' => exec_load_one 2 _ rfl bB (oB + k * 1) rfl (.int .i64 X9) _ Try.underlying2 rfl (RdI.c1r (hX.keep h') HXg.out)) ?_
                  go_frame
                  refine y_yield 12 (some 121) (.int .i64 M1) rfl (by kernel_rfl) (by kernel_rfl) (by kernel_rfl) (fun _ _ _ h => h) rfl rfl hB (fun w' h' => exec_mul _ _ _ _ rfl R X9 M1 rfl rfl HM1.out) ?_
                  go_frame
                  refine y_yield 13 (some 122) (.int .i64 A1) rfl (by kernel_rfl) (by kernel_rfl) (by kernel_rfl) (fun _ _ _ h => h) rfl rfl hB (fun w' h' => exec_sub _ _ _ _ rfl V M1 A1 rfl rfl HA1.out) ?_
                  go_frame
                  refine y_oper 14 (by kernel_rfl) rfl rfl (fun K' hK' => ?_)
                  have lz216 := hB.size
                  have lz217 := h1.lt
                  have lz218 := h2.lt
                  have lz219 := hL.lt
                  have lz220 := hR.lt
                  have lz221 := hN9.lt
                  refine wp_call2 (some 123) rfl 42 _ _ _ rfl (fun args w => by kernel_rfl) _ _ rfl rfl _ (l01Mod_c p A1 _ (by omega) (by omega)) (fun e Wz214 h => ?_)
                  obtain ⟨rfl, rfl⟩ := h
                  rw [HX0.out]
                  refine ⟨_, rfl, ?_⟩
                  refine hK' _ _ hB (fun _ => hN9) ?_
                  clear hK' K'
                  go_frame
                  refine y_yield 15 (some 124) (.pointer (some ⟨wdz154.heap.size, 0 + k * 1, none⟩)) rfl (by kernel_rfl) (by kernel_rfl) (by kernel_rfl) (fun _ _ _ h => h) rfl rfl hB (fun w' h' => exec_index_slice _ 2 _ _ rfl wdz154.heap.size 0 d d k 1 rfl rfl Try.underlying22 (by kernel_rfl) hlt4) ?_
                  go_frame
                  refine y_oper 16 (by kernel_rfl) rfl rfl (fun K' hK' => ?_)
                  have lz224 := hB.size
                  have lz225 := h1.lt
                  have lz226 := h2.lt
                  have lz227 := hL.lt
                  have lz228 := hR.lt
                  have lz229 := hN9.lt
                  refine wp_store_one 2 _ _ rfl rfl wdz154.heap.size (0 + k * 1) rfl (.int .i64 X) rfl rfl rfl _ _ hN9 (by kernel_rfl) (by rw [iar_size, HMl.out]; omega) (fun Wz222 pz223 => ?_)
                  replace hB := pz223.below hB (by omega)
                  replace h1 := pz223.other h1 (by omega)
                  replace h2 := pz223.other h2 (by omega)
                  replace hL := pz223.other hL (by omega)
                  replace hR := pz223.other hR (by omega)
                  replace hN9 : At Wz222 wdz154.heap.size (.cells (iar (mixR NEW ZER (k + 1))) 2 (0, 0)) := by have h9 := pz223.at_; rw [show 0 + k * 1 = k by omega, iar_set] at h9; rwa [HS0.out] at h9
                  refine hK' _ _ hB (fun h => absurd (by decide) h) ?_
                  clear hK' K' pz223
                  refine y_done (by kernel_rfl) ?_ _
                  go_upto_region 20 with (fail)
                  refine wp_region_lit ?_
                  refine ls_ex (some 97) (.int .i64 k) rfl rfl (exec_move _ rfl (.int .i64 k) rfl) ?_
                  go_frame
                  refine ls_ex (some 98) (.int .i64 (k + 1)) rfl rfl (exec_add _ _ _ _ rfl k 1 (k + 1) rfl rfl (IntWalk.i64_in _ (by omega))) ?_
                  go_frame
                  refine ls_ex (some 14) (.int .i64 (k + 1)) rfl rfl (exec_assign _ rfl (.int .i64 (k + 1)) rfl) ?_
                  go_frame
                  refine wpList_nil ?_
                  go_wp2_with fail
                  go_roundw
                  case rel => exact ⟨k + 1, by omega, by go_num, hB, h1, h2, hL, hR, hN9⟩
                  case measure => simp [intOf]; omega
                · obtain ⟨X9, hX9⟩ : ∃ z9, xs[k]? = some z9 := ⟨_, List.getElem?_eq_getElem (by rw [HXl.out]; exact hlt4)⟩
                  have hX9b := inP.get HXi.out hX9
                  obtain ⟨V, hV⟩ : ∃ z9 : Int, (if k = 0 then 0 else (restR p xs z)[k - 1]?.getD 0) = z9 := ⟨_, rfl⟩
                  have hVb : 0 ≤ V ∧ V < p := by rw [← hV]; exact inP.prev (restR_in hp5.1 xs z) (by omega) (by rw [restR_len, HXl.out]; exact hlt4)
                  have hMb := mul_b9 (a := R) (b := X9) (by omega) (by omega)
                  obtain ⟨M1, hM1⟩ : ∃ z9 : Int, R * X9 = z9 := ⟨_, rfl⟩
                  rw [hM1] at hMb
                  obtain ⟨A1, hA1⟩ : ∃ z9 : Int, V - M1 = z9 := ⟨_, rfl⟩
                  obtain ⟨X, hX0⟩ : ∃ z9 : Int, A1 % p = z9 := ⟨_, rfl⟩
                  have HM1 : Hid (IntKind.i64.wrap (R * X9) = M1) := Lib.hid (by rw [hM1]; exact IntWalk.i64_in _ (by omega))
                  have HA1 : Hid (IntKind.i64.wrap (V - M1) = A1) := Lib.hid (by rw [hA1]; exact IntWalk.i64_in _ (by omega))
                  have HX0 := Lib.hid hX0
                  have HXg := Lib.hid hX9
                  have HNX : Hid (NEW[k]? = some X) := Lib.hid (by rw [← HNEW.out, restR_succ, stepR_get _ _ _ (by rw [restR_len, HXl.out]; exact hlt4)]; unfold stR; rw [restR_len, HXl.out, show d - 1 = L by omega, HRe.out, hX9, Option.getD_some, Option.getD_some, hV, ← stR_spec, hM1, hA1, hX0])
                  have HS0 : Hid ((mixR NEW ZER (k)).set k X = mixR NEW ZER (k + 1)) := Lib.hid (mixR_set HN1.out HZl.out hlt4 HNX.out)
                  have HMl : Hid ((mixR NEW ZER (k)).length = d) := Lib.hid (mixR_len HN1.out HZl.out (by omega))
                  obtain ⟨K1, hK1⟩ : ∃ z9, k - 1 = z9 := ⟨_, rfl⟩
                  have HK1 : Hid (IntKind.i64.wrap ((k : Int) - 1) = (K1 : Int)) := Lib.hid (by rw [IntWalk.i64_in _ (by omega)]; omega)
                  have HVr : Hid ((restR p xs z)[K1]? = some V) := Lib.hid (by rw [← hV, if_neg hk0, hK1, List.getElem?_eq_getElem (by rw [restR_len, HXl.out]; omega)]; rfl)
                  have HVo : Hid (((mixR NEW ZER (k)).set k V)[k]? = some V) := Lib.hid (List.getElem?_set_self (by rw [HMl.out]; exact hlt4))
                  have HS1 : Hid (((mixR NEW ZER (k)).set k V).set k X = mixR NEW ZER (k + 1)) := Lib.hid (by rw [List.set_set]; exact HS0.out)
                  have HMs : Hid (((mixR NEW ZER (k)).set k V).length = d) := Lib.hid (by rw [List.length_set, HMl.out])
                  clear hX9 hM1 hA1 hX0 hMb hV
                  go_upto_region 19 with (fail)
                  refine wp_region_lit ?_
                  refine ls_ex (some 94) (.int .i64 k) rfl rfl (exec_move _ rfl (.int .i64 k) rfl) ?_
                  go_frame
                  refine ls_ex (some 95) (.int .i64 d) rfl rfl (exec_move _ rfl (.int .i64 d) rfl) ?_
                  go_frame
                  refine ls_ex (some 96) (.bool true) rfl rfl (exec_lss _ _ _ _ rfl k d rfl rfl true (decide_eq_true (by omega))) ?_
                  go_frame
                  refine wpList_nil ?_
                  go_upto_region 21 with (fail)
                  refine wp_region_lit ?_
                  refine ls_ex (some 99) (.int .i64 k) rfl rfl (exec_move _ rfl (.int .i64 k) rfl) ?_
                  go_frame
                  refine ls_ex (some 100) (.bool true) rfl rfl (exec_gtr _ _ _ _ rfl k 0 rfl rfl true (decide_eq_true (by omega))) ?_
                  go_frame
                  refine wpList_nil ?_
                  go_upto_region 22 with (fail)
                  refine wp_region_lit ?_
                  refine ls_ex (some 101) (.slice (some ⟨wdz154.heap.size, 0, none⟩) d d) rfl rfl (exec_move _ rfl (.slice (some ⟨wdz154.heap.size, 0, none⟩) d d) rfl) ?_
                  go_frame
                  refine ls_ex (some 102) (.int .i64 k) rfl rfl (exec_move _ rfl (.int .i64 k) rfl) ?_
                  go_frame
                  refine ls_ex (some 103) (.slice (some ⟨h, 0, none⟩) d d) rfl rfl (exec_move _ rfl (.slice (some ⟨h, 0, none⟩) d d) rfl) ?_
                  go_frame
                  refine ls_ex (some 104) (.int .i64 k) rfl rfl (exec_move _ rfl (.int .i64 k) rfl) ?_
                  go_frame
                  refine ls_ex (some 105) (.int .i64 K1) rfl rfl (exec_sub _ _ _ _ rfl k 1 K1 rfl rfl HK1.out) ?_
                  go_frame
                  refine ls_ex (some 106) (.pointer (some ⟨h, 0 + K1 * 1, none⟩)) rfl rfl (exec_index_slice _ 2 _ _ rfl h 0 d d K1 1 rfl rfl Try.underlying22 (by kernel_rfl) (by omega)) ?_
                  go_frame
                  refine ls_ex (some 107) (.int .i64 V) rfl rfl (exec_load_one 2 _ rfl h (0 + K1 * 1) rfl (.int .i64 V) _ Try.underlying2 rfl (cell_iar9 hR HVr.out)) ?_
                  go_frame
                  refine ls_ex (some 108) (.pointer (some ⟨wdz154.heap.size, 0 + k * 1, none⟩)) rfl rfl (exec_index_slice _ 2 _ _ rfl wdz154.heap.size 0 d d k 1 rfl rfl Try.underlying22 (by kernel_rfl) hlt4) ?_
                  go_frame
                  refine ls_op rfl (fun K' hK' => ?_)
                  have lz232 := hB.size
                  have lz233 := h1.lt
                  have lz234 := h2.lt
                  have lz235 := hL.lt
                  have lz236 := hR.lt
                  have lz237 := hN9.lt
                  refine wp_store_one 2 _ _ rfl rfl wdz154.heap.size (0 + k * 1) rfl (.int .i64 V) rfl rfl rfl _ _ hN9 (by kernel_rfl) (by rw [iar_size, HMl.out]; omega) (fun Wz230 pz231 => ?_)
                  replace hB := pz231.below hB (by omega)
                  replace h1 := pz231.other h1 (by omega)
                  replace h2 := pz231.other h2 (by omega)
                  replace hL := pz231.other hL (by omega)
                  replace hR := pz231.other hR (by omega)
                  replace hN9 : At Wz230 wdz154.heap.size (.cells (iar ((mixR NEW ZER (k)).set k V)) 2 (0, 0)) := by have h9 := pz231.at_; rw [show 0 + k * 1 = k by omega, iar_set] at h9; exact h9
                  refine hK' _ _ ?_
                  clear hK' K' pz231
                  refine wpList_nil ?_
                  go_upto_region 23 with (fail)
                  refine wp_region_y (zs := [16]) (S := fun w' => Below w.heap.size w w') (S2 := fun w' => At w' wdz154.heap.size (.cells (iar ((mixR NEW ZER (k)).set k V)) 2 (0, 0))) (by kernel_rfl) ?_
                  change wpAnyY _ _ _ _ _ _ _ _ _ _ (World.drew _)
                  generalize hwdz238 : World.drew _ = wdz238
                  replace hB : Below w.heap.size w wdz238 := by rw [← hwdz238]; exact hB.drew
                  replace h1 : At wdz238 w.heap.size (.cells #[.int .i64 0, .int .i64 0, .int .i64 0, .int .i64 0, .slice none 0 0] 31 (0, 0)) := by rw [← hwdz238]; exact h1
                  replace h2 : At wdz238 Wz18.heap.size (.cells #[.int .i64 p, .int .i64 d, .int .i64 d, .int .i64 d, .slice (some ⟨g, 0, none⟩) N N] 31 (0, 0)) := by rw [← hwdz238]; exact h2
                  replace hL : At wdz238 g (.cells (iar (rsP p xs d (z + 1) (z + 2 - d) (0))) 2 (0, 0)) := by rw [← hwdz238]; exact hL
                  replace hR : At wdz238 h (.cells (iar (restR p xs z)) 2 (0, 0)) := by rw [← hwdz238]; exact hR
                  replace hN9 : At wdz238 wdz154.heap.size (.cells (iar ((mixR NEW ZER (k)).set k V)) 2 (0, 0)) := by rw [← hwdz238]; exact hN9
                  clear hwdz238
                  refine y_yield 0 (some 109) (.slice (some ⟨wdz154.heap.size, 0, none⟩) d d) rfl (by kernel_rfl) (by kernel_rfl) (by kernel_rfl) (fun _ _ _ h => h) rfl rfl hB (fun w' h' => exec_move _ rfl (.slice (some ⟨wdz154.heap.size, 0, none⟩) d d) rfl) ?_
                  go_frame
                  refine y_yield 1 (some 110) (.int .i64 k) rfl (by kernel_rfl) (by kernel_rfl) (by kernel_rfl) (fun _ _ _ h => h) rfl rfl hB (fun w' h' => exec_move _ rfl (.int .i64 k) rfl) ?_
                  go_frame
                  refine y_yield 2 (some 111) (.int .i64 p) rfl (by kernel_rfl) (by kernel_rfl) (by kernel_rfl) (fun _ _ _ h => h) rfl rfl hB (fun w' h' => exec_move _ rfl (.int .i64 p) rfl) ?_
                  go_frame
                  refine y_yield 3 (some 112) (.slice (some ⟨wdz154.heap.size, 0, none⟩) d d) rfl (by kernel_rfl) (by kernel_rfl) (by kernel_rfl) (fun _ _ _ h => h) rfl rfl hB (fun w' h' => exec_move _ rfl (.slice (some ⟨wdz154.heap.size, 0, none⟩) d d) rfl) ?_
                  go_frame
                  refine y_yield 4 (some 113) (.int .i64 k) rfl (by kernel_rfl) (by kernel_rfl) (by kernel_rfl) (fun _ _ _ h => h) rfl rfl hB (fun w' h' => exec_move _ rfl (.int .i64 k) rfl) ?_
                  go_frame
                  refine y_yield 5 (some 114) (.pointer (some ⟨wdz154.heap.size, 0 + k * 1, none⟩)) rfl (by kernel_rfl) (by kernel_rfl) (by kernel_rfl) (fun _ _ _ h => h) rfl rfl hB (fun w' h' => exec_index_slice _ 2 _ _ rfl wdz154.heap.size 0 d d k 1 rfl rfl Try.underlying22 (by kernel_rfl) hlt4) ?_
                  go_frame
                  refine y_yield2 6 (some 115) (.int .i64 V) rfl (by kernel_rfl) (by kernel_rfl) (by kernel_rfl) (by kernel_rfl) (fun _ _ _ h => h) rfl rfl hB hN9 (fun w' h' h2' => exec_load_one 2 _ rfl wdz154.heap.size (0 + k * 1) rfl (.int .i64 V) _ Try.underlying2 rfl (cell_iar9 h2' HVo.out)) ?_
                  go_frame
                  refine y_yield 7 (some 116) (.int .i64 R) rfl (by kernel_rfl) (by kernel_rfl) (by kernel_rfl) (fun _ _ _ h => h) rfl rfl hB (fun w' h' => exec_move _ rfl (.int .i64 R) rfl) ?_
                  go_frame
                  refine y_yield 8 (some 117) (.slice (some ⟨bB, oB, none⟩) d cB) rfl (by kernel_rfl) (by kernel_rfl) (by kernel_rfl) (fun _ _ _ h => h) rfl rfl hB (fun w' h' => exec_move _ rfl (.slice (some ⟨bB, oB, none⟩) d cB) rfl) ?_
                  go_frame
                  refine y_yield 9 (some 118) (.int .i64 k) rfl (by kernel_rfl) (by kernel_rfl) (by kernel_rfl) (fun _ _ _ h => h) rfl rfl hB (fun w' h' => exec_move _ rfl (.int .i64 k) rfl) ?_
                  go_frame
                  refine y_yield 10 (some 119) (.pointer (some ⟨bB, oB + k * 1, none⟩)) rfl (by kernel_rfl) (by kernel_rfl) (by kernel_rfl) (fun _ _ _ h => h) rfl rfl hB (fun w' h' => exec_index_slice _ 2 _ _ rfl bB oB d cB k 1 rfl rfl Try.underlying22 (by kernel_rfl) hlt4) ?_
                  go_frame
                  refine y_yield 11 (some 120) (.int .i64 X9) rfl (by kernel_rfl) (by kernel_rfl) (by kernel_rfl) (fun _ _ _ h => h) rfl rfl hB (fun w' h' => exec_load_one 2 _ rfl bB (oB + k * 1) rfl (.int .i64 X9) _ Try.underlying2 rfl (RdI.c1r (hX.keep h') HXg.out)) ?_
                  go_frame
                  refine y_yield 12 (some 121) (.int .i64 M1) rfl (by kernel_rfl) (by kernel_rfl) (by kernel_rfl) (fun _ _ _ h => h) rfl rfl hB (fun w' h' => exec_mul _ _ _ _ rfl R X9 M1 rfl rfl HM1.out) ?_
                  go_frame
                  refine y_yield 13 (some 122) (.int .i64 A1) rfl (by kernel_rfl) (by kernel_rfl) (by kernel_rfl) (fun _ _ _ h => h) rfl rfl hB (fun w' h' => exec_sub _ _ _ _ rfl V M1 A1 rfl rfl HA1.out) ?_
                  go_frame
                  refine y_oper 14 (by kernel_rfl) rfl rfl (fun K' hK' => ?_)
                  have lz241 := hB.size
                  have lz242 := h1.lt
                  have lz243 := h2.lt
                  have lz244 := hL.lt
                  have lz245 := hR.lt
                  have lz246 := hN9.lt
                  refine wp_call2 (some 123) rfl 42 _ _ _ rfl (fun args w => by kernel_rfl) _ _ rfl rfl _ (l01Mod_c p A1 _ (by omega) (by omega)) (fun e Wz239 h => ?_)
                  obtain ⟨rfl, rfl⟩ := h
                  rw [HX0.out]
                  refine ⟨_, rfl, ?_⟩
                  refine hK' _ _ hB (fun _ => hN9) ?_
                  clear hK' K'
                  go_frame
                  refine y_yield 15 (some 124) (.pointer (some ⟨wdz154.heap.size, 0 + k * 1, none⟩)) rfl (by kernel_rfl) (by kernel_rfl) (by kernel_rfl) (fun _ _ _ h => h) rfl rfl hB (fun w' h' => exec_index_slice _ 2 _ _ rfl wdz154.heap.size 0 d d k 1 rfl rfl Try.underlying22 (by kernel_rfl) hlt4) ?_
                  go_frame
                  refine y_oper 16 (by kernel_rfl) rfl rfl (fun K' hK' => ?_)
                  have lz249 := hB.size
                  have lz250 := h1.lt
                  have lz251 := h2.lt
                  have lz252 := hL.lt
                  have lz253 := hR.lt
                  have lz254 := hN9.lt
                  refine wp_store_one 2 _ _ rfl rfl wdz154.heap.size (0 + k * 1) rfl (.int .i64 X) rfl rfl rfl _ _ hN9 (by kernel_rfl) (by rw [iar_size, HMs.out]; omega) (fun Wz247 pz248 => ?_)
                  replace hB := pz248.below hB (by omega)
                  replace h1 := pz248.other h1 (by omega)
                  replace h2 := pz248.other h2 (by omega)
                  replace hL := pz248.other hL (by omega)
                  replace hR := pz248.other hR (by omega)
                  replace hN9 : At Wz247 wdz154.heap.size (.cells (iar (mixR NEW ZER (k + 1))) 2 (0, 0)) := by have h9 := pz248.at_; rw [show 0 + k * 1 = k by omega, iar_set] at h9; rwa [HS1.out] at h9
                  refine hK' _ _ hB (fun h => absurd (by decide) h) ?_
                  clear hK' K' pz248
                  refine y_done (by kernel_rfl) ?_ _
                  go_upto_region 20 with (fail)
                  refine wp_region_lit ?_
                  refine ls_ex (some 97) (.int .i64 k) rfl rfl (exec_move _ rfl (.int .i64 k) rfl) ?_
                  go_frame
                  refine ls_ex (some 98) (.int .i64 (k + 1)) rfl rfl (exec_add _ _ _ _ rfl k 1 (k + 1) rfl rfl (IntWalk.i64_in _ (by omega))) ?_
                  go_frame
                  refine ls_ex (some 14) (.int .i64 (k + 1)) rfl rfl (exec_assign _ rfl (.int .i64 (k + 1)) rfl) ?_
                  go_frame
                  refine wpList_nil ?_
                  go_wp2_with fail
                  go_roundw
                  case rel => exact ⟨k + 1, by omega, by go_num, hB, h1, h2, hL, hR, hN9⟩
                  case measure => simp [intOf]; omega
              · have HE9 : Hid (mixR NEW ZER (k) = restR p xs (z + 1)) := Lib.hid (by rw [show k = d by omega, mixR_all HN1.out HZl.out, HNEW.out])
                rw [HE9.out] at hN9
                go_upto_region 19 with (fail)
                refine wp_region_lit ?_
                refine ls_ex (some 94) (.int .i64 k) rfl rfl (exec_move _ rfl (.int .i64 k) rfl) ?_
                go_frame
                refine ls_ex (some 95) (.int .i64 d) rfl rfl (exec_move _ rfl (.int .i64 d) rfl) ?_
                go_frame
                refine ls_ex (some 96) (.bool false) rfl rfl (exec_lss _ _ _ _ rfl k d rfl rfl false (decide_eq_false (by omega))) ?_
                go_frame
                refine wpList_nil ?_
                go_upto_region 24 with (fail)
                refine wp_region_lit ?_
                refine ls_ex (some 125) (.slice (some ⟨wdz154.heap.size, 0, none⟩) d d) rfl rfl (exec_move _ rfl (.slice (some ⟨wdz154.heap.size, 0, none⟩) d d) rfl) ?_
                go_frame
                refine ls_ex (some 8) (.slice (some ⟨wdz154.heap.size, 0, none⟩) d d) rfl rfl (exec_assign _ rfl (.slice (some ⟨wdz154.heap.size, 0, none⟩) d d) rfl) ?_
                go_frame
                refine wpList_nil ?_
                go_upto_region 9 with (fail)
                refine wp_region_lit ?_
                refine ls_ex (some 47) (.int .i64 z) rfl rfl (exec_move _ rfl (.int .i64 z) rfl) ?_
                go_frame
                refine ls_ex (some 48) (.int .i64 (z + 1)) rfl rfl (exec_add _ _ _ _ rfl z 1 (z + 1) rfl rfl (IntWalk.i64_in _ (by omega))) ?_
                go_frame
                refine ls_ex (some 9) (.int .i64 (z + 1)) rfl rfl (exec_assign _ rfl (.int .i64 (z + 1)) rfl) ?_
                go_frame
                refine wpList_nil ?_
                go_wp2_with fail
                go_roundw
                case rel => exact ⟨z + 1, _, by omega, by go_num, rfl, by omega, hB, h1, h2, hL, hN9⟩
                case measure => simp [intOf]; omega
    · have HE : Hid (rsP p xs d (z) (z + 1 - d) (0) = rsL p xs) := Lib.hid (rsP_end hp5.1 xs HXl.out (by omega))
      rw [HE.out] at hL
      go_upto_region 8 with (fail)
      refine wp_region_lit ?_
      refine ls_ex (some 42) (.int .i64 z) rfl rfl (exec_move _ rfl (.int .i64 z) rfl) ?_
      go_frame
      refine ls_ex (some 43) (.int .i64 d) rfl rfl (exec_move _ rfl (.int .i64 d) rfl) ?_
      go_frame
      refine ls_ex (some 44) (.int .i64 M2) rfl rfl (exec_mul _ _ _ _ rfl 2 d M2 rfl rfl HM2.out) ?_
      go_frame
      refine ls_ex (some 45) (.int .i64 E) rfl rfl (exec_sub _ _ _ _ rfl M2 2 E rfl rfl HE2.out) ?_
      go_frame
      refine ls_ex (some 46) (.bool false) rfl rfl (exec_leq _ _ _ _ rfl z E rfl rfl false (decide_eq_false (by omega))) ?_
      go_frame
      refine wpList_nil ?_
      go_upto_region 25 with (fail)
      refine wp_region_lit ?_
      refine ls_ex (some 126) (.agg #[.int .i64 p, .int .i64 d, .int .i64 d, .int .i64 d, .slice (some ⟨g, 0, none⟩) N N]) rfl rfl (exec_load_all 31 _ rfl Wz18.heap.size rfl _ _ _ h2 Try.underlying31 rfl 5 (by kernel_rfl) rfl) ?_
      go_frame
      refine ls_op rfl (fun K' hK' => ?_)
      refine wp_store_all 31 _ _ rfl rfl w.heap.size rfl #[.int .i64 p, .int .i64 d, .int .i64 d, .int .i64 d, .slice (some ⟨g, 0, none⟩) N N] rfl _ _ h1 5 (by kernel_rfl) rfl rfl (one5 _ _ _ _ _ _ _) (fun Wz255 pz256 => ?_)
      replace hB := pz256.below hB (by omega)
      replace h2 := pz256.other h2 (by omega)
      replace hL := pz256.other hL (by omega)
      replace hR := pz256.other hR (by omega)
      replace h1 : At Wz255 w.heap.size (.cells #[.int .i64 p, .int .i64 d, .int .i64 d, .int .i64 d, .slice (some ⟨g, 0, none⟩) N N] 31 (0, 0)) := pz256.at_
      refine hK' _ _ ?_
      clear hK' K' pz256
      refine ls_ex (some 5) (.int .i64 0) rfl rfl (exec_assign _ rfl (.int .i64 0) rfl) ?_
      go_frame
      refine wpList_nil ?_
      go_wp2_with fail
      refine bodyPost_ret (results_at2 rfl _ _ w.heap.size _ _ _ rfl _ rfl h1 Try.underlying31 rfl 5 (by kernel_rfl) rfl) rfl ?_
      unfold ResT tZ tL
      rw [HC.out]
      exact ⟨_, rfl, (HOw.out _ _ hL).mono (by omega), hB⟩
theorem specRestTensor_c (p : Int) (B : Option Addr) (cB : Nat) (xs : List Int) (w : World) (hX : RdI w B xs) (hlen : xs.length ≤ 1048576) : Calls Try.prog 17 #[.int .i64 p, .slice B xs.length cB] w (ResT w (tZ (rsCode p xs) p) (tZ (rsCode p xs) (xs.length : Nat)) (tZ (rsCode p xs) (xs.length : Nat)) (tZ (rsCode p xs) (xs.length : Nat)) (tL (rsCode p xs) (rsL p xs)) (rsCode p xs)) := by
  cases hp : primeB p with
  | false => exact specRest_a p B cB xs w hX hlen hp
  | true =>
    cases hn : (decide (1 ≤ (xs.length : Int)) && decide ((xs.length : Int) ≤ 4)) with
    | false => exact specRest_b p B cB xs w hX hlen hp hn
    | true =>
      cases hl : numsB p xs with
      | false => exact specRest_d p B cB xs w hX hlen hp hn hl
      | true =>
        have hs : rsB p xs = true := by unfold rsB; rw [hp, hn, hl]; rfl
        have h0 := (rsB_parts hs).2.1
        obtain ⟨bB, oB, rfl, _⟩ := hX.at_ (i := 0) (by omega)
        exact specRest_yd p xs.length bB oB cB xs w hX rfl hs
end Go.Proofs.Ytdbcgbbokodndaa
