/-
  RowRank of both sides. (Made by mkrk4.py.)
-/
import Derived.Test.YtolgfpcadfjliaaRk2
import Derived.Test.YtolgfpcadfjliaaRk3
import Derived.Test.YtolgfpcadfjliaaCiM
namespace Go.Proofs.Ytolgfpcadfjliaa
open Go.RowKit
set_option maxRecDepth 100000
theorem inB_sp (x p : Int) : inB x p = (decide (0 ≤ x) && decide (x ≤ p - 1)) := by
  rw [Bool.eq_iff_iff]
  simp only [inB, Bool.and_eq_true, decide_eq_true_eq]
  omega
set_option maxHeartbeats 4000000 in
theorem l05Numbers_c (p n : Int) (Ax : Option Addr) (cx : Nat) (xs : List Int) (w : World) (hp : -1000 ≤ p ∧ p ≤ 1000) (hx : RdI w Ax xs) (hnx : xs.length ≤ 1048576) :
    Calls Try.prog 36 #[.int .i64 p, .slice Ax xs.length cx, .int .i64 n] w (fun e w' => e = .returned (.bool (numsB p xs && ((xs.length : Int) == n))) ∧ Below w.heap.size w w') := by
  have hB := Below.refl w.heap.size w
  skip
  go_enter Try.func36, Try.ntmps36
  go_upto_region 0 with (fail)
  refine wp_region_lit ?_
  refine ls_ex (some 6) (.bool false) rfl rfl (exec_assign _ rfl (.bool false) rfl) ?_
  go_frame
  refine wpList_nil ?_
  go_upto_region 1 with (fail)
  refine wp_region_lit ?_
  refine ls_ex (some 7) (.int .i64 0) rfl rfl (exec_assign _ rfl (.int .i64 0) rfl) ?_
  go_frame
  refine wpList_nil ?_
  go_wp2_with fail
  go_loopw [7] (fun s7 wr => ∃ i : Nat, i ≤ xs.length ∧ s7 = .int .i64 i ∧ Below w.heap.size w wr ∧ Hid (∀ (y : Nat) (hy : y < xs.length), y < i → inB xs[y] p = true)) (fun s7 _ => xs.length - (intOf s7).toNat)
  case atStart => exact ⟨0, by omega, rfl, hB, Lib.hid (by omega)⟩
  case round =>
    clear hB
    obtain ⟨i, hi, rfl, hB, HA⟩ := hrel
    by_cases hlt : i < xs.length
    · obtain ⟨b, off, rfl, hc⟩ := (hx.keep hB).at_ hlt
      have Hc := Lib.hid hc
      clear hc
      cases hb : inB xs[i] p with
      | false =>
        have HNo : Hid (numsB p xs = false) := Lib.hid (numsB_no hlt hb)
        have HIn : Hid ((decide (0 ≤ xs[i]) && decide (xs[i] ≤ p - 1)) = false) := Lib.hid (by rw [← inB_sp]; exact hb)
        clear hb
        go_upto_region 2 with (fail)
        refine wp_region_lit ?_
        refine ls_ex (some 8) (.int .i64 i) rfl rfl (exec_move _ rfl (.int .i64 i) rfl) ?_
        go_frame
        refine ls_ex (some 9) (.slice (some ⟨b, off, none⟩) xs.length cx) rfl rfl (exec_move _ rfl (.slice (some ⟨b, off, none⟩) xs.length cx) rfl) ?_
        go_frame
        refine ls_ex (some 10) (.int .i64 xs.length) rfl rfl (exec_len _ 22 2 rfl ((some ⟨b, off, none⟩)) xs.length cx rfl Try.underlying22) ?_
        go_frame
        refine ls_ex (some 11) (.bool true) rfl rfl (exec_lss _ _ _ _ rfl i xs.length rfl rfl true (decide_eq_true (by omega))) ?_
        go_frame
        refine wpList_nil ?_
        go_upto_region 4 with (fail)
        refine wp_region_lit ?_
        refine ls_ex (some 14) (.slice (some ⟨b, off, none⟩) xs.length cx) rfl rfl (exec_move _ rfl (.slice (some ⟨b, off, none⟩) xs.length cx) rfl) ?_
        go_frame
        refine ls_ex (some 15) (.int .i64 i) rfl rfl (exec_move _ rfl (.int .i64 i) rfl) ?_
        go_frame
        refine ls_ex (some 16) (.pointer (some ⟨b, off + i * 1, none⟩)) rfl rfl (exec_index_slice _ 2 _ _ rfl b off xs.length cx i 1 rfl rfl Try.underlying22 (by kernel_rfl) (by omega)) ?_
        go_frame
        refine ls_ex (some 17) (.int .i64 xs[i]) rfl rfl (exec_load_one 2 _ rfl b (off + i * 1) rfl (.int .i64 xs[i]) _ Try.underlying2 rfl (by rw [Nat.mul_one]; exact Hc.out)) ?_
        go_frame
        refine ls_ex (some 18) (.int .i64 p) rfl rfl (exec_move _ rfl (.int .i64 p) rfl) ?_
        go_frame
        refine ls_ex (some 19) (.int .i64 (p - 1)) rfl rfl (exec_sub _ _ _ _ rfl p 1 (p - 1) rfl rfl (IntWalk.i64_in _ (by omega))) ?_
        go_frame
        refine ls_op rfl (fun K' hK' => ?_)
        have lz3 := hB.size
        refine wp_call3 (some 20) rfl 26 _ _ _ _ rfl (fun args w => by kernel_rfl) _ _ _ rfl rfl rfl _ (l01In_c xs[i] 0 (p - 1) _) (fun e Wz1 h => ?_)
        obtain ⟨rfl, rfl⟩ := h
        rw [HIn.out]
        refine ⟨_, rfl, ?_⟩
        refine hK' _ _ ?_
        clear hK' K'
        go_frame
        refine ls_ex (some 21) (.bool true) rfl rfl (exec_not _ _ rfl false rfl) ?_
        go_frame
        refine wpList_nil ?_
        go_upto_region 5 with (fail)
        refine wp_region_lit ?_
        refine ls_ex (some 6) (.bool false) rfl rfl (exec_assign _ rfl (.bool false) rfl) ?_
        go_frame
        refine wpList_nil ?_
        go_wp2_with fail
        go_ret
        exact ⟨by rw [HNo.out]; rfl, hB⟩
      | true =>
        have HS : Hid (∀ (y : Nat) (hy : y < xs.length), y < i + 1 → inB xs[y] p = true) := Lib.hid (fun y hy hyk => by by_cases e : y = i; subst e; exact hb; exact HA.out y hy (by omega))
        have HIn : Hid ((decide (0 ≤ xs[i]) && decide (xs[i] ≤ p - 1)) = true) := Lib.hid (by rw [← inB_sp]; exact hb)
        clear hb
        go_upto_region 2 with (fail)
        refine wp_region_lit ?_
        refine ls_ex (some 8) (.int .i64 i) rfl rfl (exec_move _ rfl (.int .i64 i) rfl) ?_
        go_frame
        refine ls_ex (some 9) (.slice (some ⟨b, off, none⟩) xs.length cx) rfl rfl (exec_move _ rfl (.slice (some ⟨b, off, none⟩) xs.length cx) rfl) ?_
        go_frame
        refine ls_ex (some 10) (.int .i64 xs.length) rfl rfl (exec_len _ 22 2 rfl ((some ⟨b, off, none⟩)) xs.length cx rfl Try.underlying22) ?_
        go_frame
        refine ls_ex (some 11) (.bool true) rfl rfl (exec_lss _ _ _ _ rfl i xs.length rfl rfl true (decide_eq_true (by omega))) ?_
        go_frame
        refine wpList_nil ?_
        go_upto_region 4 with (fail)
        refine wp_region_lit ?_
        refine ls_ex (some 14) (.slice (some ⟨b, off, none⟩) xs.length cx) rfl rfl (exec_move _ rfl (.slice (some ⟨b, off, none⟩) xs.length cx) rfl) ?_
        go_frame
        refine ls_ex (some 15) (.int .i64 i) rfl rfl (exec_move _ rfl (.int .i64 i) rfl) ?_
        go_frame
        refine ls_ex (some 16) (.pointer (some ⟨b, off + i * 1, none⟩)) rfl rfl (exec_index_slice _ 2 _ _ rfl b off xs.length cx i 1 rfl rfl Try.underlying22 (by kernel_rfl) (by omega)) ?_
        go_frame
        refine ls_ex (some 17) (.int .i64 xs[i]) rfl rfl (exec_load_one 2 _ rfl b (off + i * 1) rfl (.int .i64 xs[i]) _ Try.underlying2 rfl (by rw [Nat.mul_one]; exact Hc.out)) ?_
        go_frame
        refine ls_ex (some 18) (.int .i64 p) rfl rfl (exec_move _ rfl (.int .i64 p) rfl) ?_
        go_frame
        refine ls_ex (some 19) (.int .i64 (p - 1)) rfl rfl (exec_sub _ _ _ _ rfl p 1 (p - 1) rfl rfl (IntWalk.i64_in _ (by omega))) ?_
        go_frame
        refine ls_op rfl (fun K' hK' => ?_)
        have lz6 := hB.size
        refine wp_call3 (some 20) rfl 26 _ _ _ _ rfl (fun args w => by kernel_rfl) _ _ _ rfl rfl rfl _ (l01In_c xs[i] 0 (p - 1) _) (fun e Wz4 h => ?_)
        obtain ⟨rfl, rfl⟩ := h
        rw [HIn.out]
        refine ⟨_, rfl, ?_⟩
        refine hK' _ _ ?_
        clear hK' K'
        go_frame
        refine ls_ex (some 21) (.bool false) rfl rfl (exec_not _ _ rfl true rfl) ?_
        go_frame
        refine wpList_nil ?_
        go_upto_region 3 with (fail)
        refine wp_region_lit ?_
        refine ls_ex (some 12) (.int .i64 i) rfl rfl (exec_move _ rfl (.int .i64 i) rfl) ?_
        go_frame
        refine ls_ex (some 13) (.int .i64 (i + 1)) rfl rfl (exec_add _ _ _ _ rfl i 1 (i + 1) rfl rfl (IntWalk.i64_in _ (by omega))) ?_
        go_frame
        refine ls_ex (some 7) (.int .i64 (i + 1)) rfl rfl (exec_assign _ rfl (.int .i64 (i + 1)) rfl) ?_
        go_frame
        refine wpList_nil ?_
        go_wp2_with fail
        go_roundw
        case rel => exact ⟨i + 1, by omega, by go_num, hB, HS⟩
        case measure => simp [intOf]; omega
    · have HY : Hid (numsB p xs = true) := Lib.hid (numsB_yes fun y hy => HA.out y hy (by omega))
      clear HA
      go_upto_region 2 with (fail)
      refine wp_region_lit ?_
      refine ls_ex (some 8) (.int .i64 i) rfl rfl (exec_move _ rfl (.int .i64 i) rfl) ?_
      go_frame
      refine ls_ex (some 9) (.slice Ax xs.length cx) rfl rfl (exec_move _ rfl (.slice Ax xs.length cx) rfl) ?_
      go_frame
      refine ls_ex (some 10) (.int .i64 xs.length) rfl rfl (exec_len _ 22 2 rfl Ax xs.length cx rfl Try.underlying22) ?_
      go_frame
      refine ls_ex (some 11) (.bool false) rfl rfl (exec_lss _ _ _ _ rfl i xs.length rfl rfl false (decide_eq_false (by omega))) ?_
      go_frame
      refine wpList_nil ?_
      go_upto_region 6 with (fail)
      refine wp_region_lit ?_
      refine ls_ex (some 22) (.slice Ax xs.length cx) rfl rfl (exec_move _ rfl (.slice Ax xs.length cx) rfl) ?_
      go_frame
      refine ls_ex (some 23) (.int .i64 xs.length) rfl rfl (exec_len _ 22 2 rfl Ax xs.length cx rfl Try.underlying22) ?_
      go_frame
      refine ls_ex (some 24) (.int .i64 n) rfl rfl (exec_move _ rfl (.int .i64 n) rfl) ?_
      go_frame
      refine ls_ex (some 25) (.bool ((xs.length : Int) == n)) rfl rfl (exec_eql _ _ _ _ rfl (xs.length : Int) n rfl rfl _ rfl) ?_
      go_frame
      refine ls_ex (some 6) (.bool ((xs.length : Int) == n)) rfl rfl (exec_assign _ rfl (.bool ((xs.length : Int) == n)) rfl) ?_
      go_frame
      refine wpList_nil ?_
      go_wp2_with fail
      go_ret
      exact ⟨by rw [HY.out]; rfl, hB⟩
attribute [local irreducible] wpList
def rrOK (p : Int) (n : Nat) (row : Nat → List Int) : Bool := primeB p && (decide (1 ≤ n ∧ n ≤ 9) && (decide (1 ≤ (row 0).length ∧ (row 0).length ≤ 81) && (List.range n).all fun i => listB p (row 0).length (row i)))
def rrV (p : Int) (n : Nat) (row : Nat → List Int) : Int := if rrOK p n row = true then (((rkS p n (row 0).length row (row 0).length).2 : Nat) : Int) else 0
def rrC (p : Int) (n : Nat) (row : Nat → List Int) : Int := if rrOK p n row = true then 0 else 2
theorem RdM.keepM {w w' : World} {A : Option Addr} {n : Nat} {row : Nat → List Int} (h : RdM w A n row) (hb : Below w.heap.size w w') : RdM w' A n row := by
  rcases h with h0 | ⟨b, off, hA, hc⟩
  · exact .inl h0
  · refine .inr ⟨b, off, hA, fun i hi => ?_⟩
    obtain ⟨B, c, h1, h2⟩ := hc i hi
    exact ⟨B, c, cellK hb h1, h2.keep hb⟩
theorem rowB_listB (p m : Int) (xs : List Int) : rowB p m xs = listB p m xs := by
  unfold rowB listB numsB
  congr 2
theorem matB_all {p : Int} {n C : Nat} {row : Nat → List Int} : matB p n C n row = (List.range n).all fun i => listB p C (row i) := by
  simp [matB, rowB_listB]
theorem rr_rg {p : Int} {n C : Nat} {row : Nat → List Int} (h : ∀ i, i < n → listB p C (row i) = true) : Rg p n C row := fun i hi => by
  have h1 := h i hi
  simp only [listB, numsB, Bool.and_eq_true, decide_eq_true_eq, List.all_eq_true] at h1
  refine ⟨by omega, fun t ht => ?_⟩
  have h2 : t < (row i).length := by omega
  have h3 := h1.2 _ (List.getElem_mem h2)
  unfold ent
  rw [List.getElem?_eq_getElem h2]
  simpa [inB] using h3
theorem tot_const {row : Nat → List Int} {n C : Nat} (h : ∀ i, i < n → (row i).length = C) : ∀ i, i ≤ n → tot row i = i * C
  | 0, _ => by simp [tot]
  | i + 1, hi => by rw [tot, tot_const h i (by omega), h i (by omega), Nat.succ_mul]
theorem tabP_of {p : Int} {n C G : Nat} {row : Nat → List Int} {cs D : Array Value} (h : Rg p n C row) (hc : ∀ (i : Nat) (u : Value), (rowVs G C n)[i]? = some u → cs[i]? = some u) (hD : ∀ (t : Nat) (X : Int), (catI row n)[t]? = some X → D[t]? = some (.int .i64 X)) :
    TabP cs D G (fun i => i * C) n C row := by
  refine ⟨fun i hi => hc i _ (by simp [rowVs, hi]), fun i hi t X hX => hD _ _ ?_, fun i hi => (h i hi).1, fun i j _ _ hij => ?_⟩
  · have h1 := (List.getElem?_eq_some_iff.1 hX).1
    have h2 := catI_get row hi h1
    rw [tot_const (fun i hi => (h i hi).1) i (by omega)] at h2
    rw [h2]
    exact hX
  · rcases Nat.lt_or_ge i j with h1 | h1
    · have h2 : (i + 1) * C ≤ j * C := Nat.mul_le_mul_right _ h1
      rw [Nat.succ_mul] at h2
      exact .inl h2
    · have h2 : (j + 1) * C ≤ i * C := Nat.mul_le_mul_right _ (by omega)
      rw [Nat.succ_mul] at h2
      exact .inr h2
theorem l05NumbersL_c (p n : Int) (A : Option Addr) (c : Nat) (xs : List Int) (w : World) (hp : -1000 ≤ p ∧ p ≤ 1000) (hx : RdI w A xs) (hnx : xs.length ≤ 1048576) :
    Calls Try.prog 36 #[.int .i64 p, .slice A xs.length c, .int .i64 n] w fun e w' => e = .returned (.bool (listB p n xs)) ∧ Below w.heap.size w w' := by
  have h := l05Numbers_c p n A c xs w hp hx hnx
  rwa [show (numsB p xs && ((xs.length : Int) == n)) = listB p n xs by simp [listB, Bool.and_comm]; first | rfl | (rw [Bool.eq_iff_iff]; simp)] at h
theorem alRr_impl_shape {o : Oper} {a : Act} {w : World} (ho : o.op = .alloc 62) : (execOp a.eval o).run Try.prog w = .ok (.value (.pointer (some ⟨w.heap.size, 0, none⟩))) (w.alloc (.cells #[.int .i64 0, .int .i64 0] 62 (0, 0))) := by
  unfold execOp
  rw [ho]
  kernel_rfl
set_option maxHeartbeats 4000000 in
theorem specRr_a (p : Int) (n : Nat) (AR : Option Addr) (c0 : Nat) (row : Nat → List Int) (w : World) (hM : RdM w AR n row) (hN9 : n ≤ 1048576) (hL9 : ∀ i, i < n → (row i).length ≤ 1048576) (hp : primeB p = false) :
    Calls Try.prog 21 #[.int .i64 p, .slice AR n c0] w (fun e w' => e = .returned (.tuple #[.int .i64 (rrV p n row), .int .i64 (rrC p n row)]) ∧ Below w.heap.size w w') := by
  have hB := Below.refl w.heap.size w
  have _u0 := hM
  have _u1 := hN9
  have _u2 := hL9
  clear _u0 _u1 _u2
  have h0 : rrOK p n row = false := by
    simp [rrOK, hp]
  have HV : Hid (rrV p n row = 0) := Lib.hid (by unfold rrV; rw [h0]; rfl)
  have HC : Hid (rrC p n row = 2) := Lib.hid (by unfold rrC; rw [h0]; rfl)
  have Hp := Lib.hid hp
  clear h0 hp
  go_enter Try.func21, Try.ntmps21
  go_upto_region 0 with (fail)
  refine wp_region_lit ?_
  refine ls_ex (some 4) (.int .i64 0) rfl rfl (exec_assign _ rfl (.int .i64 0) rfl) ?_
  go_frame
  refine ls_ex (some 5) (.int .i64 0) rfl rfl (exec_assign _ rfl (.int .i64 0) rfl) ?_
  go_frame
  refine wpList_nil ?_
  go_upto_region 1 with (fail)
  refine wp_region_lit ?_
  refine ls_ex (some 7) (.int .i64 p) rfl rfl (exec_move _ rfl (.int .i64 p) rfl) ?_
  go_frame
  refine ls_op rfl (fun K' hK' => ?_)
  have lz3 := hB.size
  refine wp_call1 (some 8) rfl 42 _ _ rfl (fun args w => by kernel_rfl) _ rfl _ (l01Prime_c p _) (fun e Wz1 h => ?_)
  obtain ⟨rfl, rfl⟩ := h
  rw [Hp.out]
  refine ⟨_, rfl, ?_⟩
  refine hK' _ _ ?_
  clear hK' K'
  go_frame
  refine ls_ex (some 9) (.bool true) rfl rfl (exec_not _ _ rfl false rfl) ?_
  go_frame
  refine ls_ex (some 10) (.bool true) rfl rfl (exec_move _ rfl (.bool true) rfl) ?_
  go_frame
  refine ls_skip_g (some 11) rfl rfl ?_
  go_frame
  refine ls_skip_g (some 12) rfl rfl ?_
  go_frame
  refine ls_skip_g (some 13) rfl rfl ?_
  go_frame
  refine ls_ex (some 14) (.bool true) rfl rfl (exec_pick _ _ _ rfl true rfl (.bool true) rfl) ?_
  go_frame
  refine ls_ex (some 15) (.bool true) rfl rfl (exec_move _ rfl (.bool true) rfl) ?_
  go_frame
  refine ls_skip_g (some 16) rfl rfl ?_
  go_frame
  refine ls_skip_g (some 17) rfl rfl ?_
  go_frame
  refine ls_skip_g (some 18) rfl rfl ?_
  go_frame
  refine ls_ex (some 19) (.bool true) rfl rfl (exec_pick _ _ _ rfl true rfl (.bool true) rfl) ?_
  go_frame
  refine ls_ex (some 20) (.bool true) rfl rfl (exec_move _ rfl (.bool true) rfl) ?_
  go_frame
  refine ls_skip_g (some 21) rfl rfl ?_
  go_frame
  refine ls_skip_g (some 22) rfl rfl ?_
  go_frame
  refine ls_skip_g (some 23) rfl rfl ?_
  go_frame
  refine ls_skip_g (some 24) rfl rfl ?_
  go_frame
  refine ls_skip_g (some 25) rfl rfl ?_
  go_frame
  refine ls_ex (some 26) (.bool true) rfl rfl (exec_pick _ _ _ rfl true rfl (.bool true) rfl) ?_
  go_frame
  refine ls_ex (some 27) (.bool true) rfl rfl (exec_move _ rfl (.bool true) rfl) ?_
  go_frame
  refine ls_skip_g (some 28) rfl rfl ?_
  go_frame
  refine ls_skip_g (some 29) rfl rfl ?_
  go_frame
  refine ls_skip_g (some 30) rfl rfl ?_
  go_frame
  refine ls_skip_g (some 31) rfl rfl ?_
  go_frame
  refine ls_skip_g (some 32) rfl rfl ?_
  go_frame
  refine ls_ex (some 33) (.bool true) rfl rfl (exec_pick _ _ _ rfl true rfl (.bool true) rfl) ?_
  go_frame
  refine wpList_nil ?_
  go_upto_region 2 with (fail)
  refine wp_region_lit ?_
  refine ls_ex (some 4) (.int .i64 0) rfl rfl (exec_assign _ rfl (.int .i64 0) rfl) ?_
  go_frame
  refine ls_ex (some 5) (.int .i64 2) rfl rfl (exec_assign _ rfl (.int .i64 2) rfl) ?_
  go_frame
  refine wpList_nil ?_
  go_wp2_with fail
  go_ret2
  rw [HV.out, HC.out]
  exact ⟨rfl, hB⟩
set_option maxHeartbeats 4000000 in
theorem specRr_b (p : Int) (n : Nat) (AR : Option Addr) (c0 : Nat) (row : Nat → List Int) (w : World) (hM : RdM w AR n row) (hN9 : n ≤ 1048576) (hL9 : ∀ i, i < n → (row i).length ≤ 1048576) (hp : primeB p = true) (hz : n = 0) :
    Calls Try.prog 21 #[.int .i64 p, .slice AR n c0] w (fun e w' => e = .returned (.tuple #[.int .i64 (rrV p n row), .int .i64 (rrC p n row)]) ∧ Below w.heap.size w w') := by
  have hB := Below.refl w.heap.size w
  have _u0 := hM
  have _u1 := hN9
  have _u2 := hL9
  clear _u0 _u1 _u2
  have h0 : rrOK p n row = false := by
    simp [rrOK, hz]
  have HV : Hid (rrV p n row = 0) := Lib.hid (by unfold rrV; rw [h0]; rfl)
  have HC : Hid (rrC p n row = 2) := Lib.hid (by unfold rrC; rw [h0]; rfl)
  have Hp := Lib.hid hp
  clear h0 hp
  go_enter Try.func21, Try.ntmps21
  go_upto_region 0 with (fail)
  refine wp_region_lit ?_
  refine ls_ex (some 4) (.int .i64 0) rfl rfl (exec_assign _ rfl (.int .i64 0) rfl) ?_
  go_frame
  refine ls_ex (some 5) (.int .i64 0) rfl rfl (exec_assign _ rfl (.int .i64 0) rfl) ?_
  go_frame
  refine wpList_nil ?_
  go_upto_region 1 with (fail)
  refine wp_region_lit ?_
  refine ls_ex (some 7) (.int .i64 p) rfl rfl (exec_move _ rfl (.int .i64 p) rfl) ?_
  go_frame
  refine ls_op rfl (fun K' hK' => ?_)
  have lz3 := hB.size
  refine wp_call1 (some 8) rfl 42 _ _ rfl (fun args w => by kernel_rfl) _ rfl _ (l01Prime_c p _) (fun e Wz1 h => ?_)
  obtain ⟨rfl, rfl⟩ := h
  rw [Hp.out]
  refine ⟨_, rfl, ?_⟩
  refine hK' _ _ ?_
  clear hK' K'
  go_frame
  refine ls_ex (some 9) (.bool false) rfl rfl (exec_not _ _ rfl true rfl) ?_
  go_frame
  refine ls_ex (some 10) (.bool false) rfl rfl (exec_move _ rfl (.bool false) rfl) ?_
  go_frame
  refine ls_ex_g (some 11) (.slice AR n c0) rfl rfl (exec_move _ rfl (.slice AR n c0) rfl) ?_
  go_frame
  refine ls_ex_g (some 12) (.int .i64 n) rfl rfl (exec_len _ 26 22 rfl AR n c0 rfl Try.underlying26) ?_
  go_frame
  refine ls_ex_g (some 13) (.bool true) rfl rfl (exec_lss _ _ _ _ rfl n 1 rfl rfl true (decide_eq_true (by omega))) ?_
  go_frame
  refine ls_ex (some 14) (.bool true) rfl rfl (exec_pick _ _ _ rfl false rfl (.bool true) rfl) ?_
  go_frame
  refine ls_ex (some 15) (.bool true) rfl rfl (exec_move _ rfl (.bool true) rfl) ?_
  go_frame
  refine ls_skip_g (some 16) rfl rfl ?_
  go_frame
  refine ls_skip_g (some 17) rfl rfl ?_
  go_frame
  refine ls_skip_g (some 18) rfl rfl ?_
  go_frame
  refine ls_ex (some 19) (.bool true) rfl rfl (exec_pick _ _ _ rfl true rfl (.bool true) rfl) ?_
  go_frame
  refine ls_ex (some 20) (.bool true) rfl rfl (exec_move _ rfl (.bool true) rfl) ?_
  go_frame
  refine ls_skip_g (some 21) rfl rfl ?_
  go_frame
  refine ls_skip_g (some 22) rfl rfl ?_
  go_frame
  refine ls_skip_g (some 23) rfl rfl ?_
  go_frame
  refine ls_skip_g (some 24) rfl rfl ?_
  go_frame
  refine ls_skip_g (some 25) rfl rfl ?_
  go_frame
  refine ls_ex (some 26) (.bool true) rfl rfl (exec_pick _ _ _ rfl true rfl (.bool true) rfl) ?_
  go_frame
  refine ls_ex (some 27) (.bool true) rfl rfl (exec_move _ rfl (.bool true) rfl) ?_
  go_frame
  refine ls_skip_g (some 28) rfl rfl ?_
  go_frame
  refine ls_skip_g (some 29) rfl rfl ?_
  go_frame
  refine ls_skip_g (some 30) rfl rfl ?_
  go_frame
  refine ls_skip_g (some 31) rfl rfl ?_
  go_frame
  refine ls_skip_g (some 32) rfl rfl ?_
  go_frame
  refine ls_ex (some 33) (.bool true) rfl rfl (exec_pick _ _ _ rfl true rfl (.bool true) rfl) ?_
  go_frame
  refine wpList_nil ?_
  go_upto_region 2 with (fail)
  refine wp_region_lit ?_
  refine ls_ex (some 4) (.int .i64 0) rfl rfl (exec_assign _ rfl (.int .i64 0) rfl) ?_
  go_frame
  refine ls_ex (some 5) (.int .i64 2) rfl rfl (exec_assign _ rfl (.int .i64 2) rfl) ?_
  go_frame
  refine wpList_nil ?_
  go_wp2_with fail
  go_ret2
  rw [HV.out, HC.out]
  exact ⟨rfl, hB⟩
set_option maxHeartbeats 4000000 in
theorem specRr_d (p : Int) (n bA oA c0 C : Nat) (row : Nat → List Int) (w : World) (hM : RdM w (some ⟨bA, oA, none⟩) n row) (hN9 : n ≤ 1048576) (hL9 : ∀ i, i < n → (row i).length ≤ 1048576) (hn1 : 1 ≤ n) (hC0 : (row 0).length = C) (hp : primeB p = true) (hn : 9 < n) :
    Calls Try.prog 21 #[.int .i64 p, .slice (some ⟨bA, oA, none⟩) n c0] w (fun e w' => e = .returned (.tuple #[.int .i64 (rrV p n row), .int .i64 (rrC p n row)]) ∧ Below w.heap.size w w') := by
  have hB := Below.refl w.heap.size w
  have _u0 := hM
  have _u1 := hN9
  have _u2 := hL9
  clear _u0 _u1 _u2
  have h0 : rrOK p n row = false := by
    have h9 : decide (1 ≤ n ∧ n ≤ 9) = false := decide_eq_false (by omega)
    unfold rrOK
    rw [h9, Bool.false_and, Bool.and_false]
  have HV : Hid (rrV p n row = 0) := Lib.hid (by unfold rrV; rw [h0]; rfl)
  have HC : Hid (rrC p n row = 2) := Lib.hid (by unfold rrC; rw [h0]; rfl)
  have Hp := Lib.hid hp
  have HArg : Hid (∀ i, i < n → ∃ B c, w.cell? ⟨bA, oA + i * 1, none⟩ = some (.slice B (row i).length c) ∧ RdI w B (row i)) := Lib.hid (fun i hi => by
    obtain ⟨b, off, B, c, e, h1, h2⟩ := hM.at_ hi
    simp only [Option.some.injEq, Addr.mk.injEq, and_true] at e
    obtain ⟨rfl, rfl⟩ := e
    rw [Nat.mul_one]
    exact ⟨B, c, h1, h2⟩)
  obtain ⟨B0, c9, hz9, hR9⟩ := HArg.out 0 (by omega)
  rw [hC0] at hz9
  have HZ := Lib.hid hz9
  have HRl := Lib.hid hL9
  clear hz9
  clear h0 hp
  go_enter Try.func21, Try.ntmps21
  go_upto_region 0 with (fail)
  refine wp_region_lit ?_
  refine ls_ex (some 4) (.int .i64 0) rfl rfl (exec_assign _ rfl (.int .i64 0) rfl) ?_
  go_frame
  refine ls_ex (some 5) (.int .i64 0) rfl rfl (exec_assign _ rfl (.int .i64 0) rfl) ?_
  go_frame
  refine wpList_nil ?_
  go_upto_region 1 with (fail)
  refine wp_region_lit ?_
  refine ls_ex (some 7) (.int .i64 p) rfl rfl (exec_move _ rfl (.int .i64 p) rfl) ?_
  go_frame
  refine ls_op rfl (fun K' hK' => ?_)
  have lz3 := hB.size
  refine wp_call1 (some 8) rfl 42 _ _ rfl (fun args w => by kernel_rfl) _ rfl _ (l01Prime_c p _) (fun e Wz1 h => ?_)
  obtain ⟨rfl, rfl⟩ := h
  rw [Hp.out]
  refine ⟨_, rfl, ?_⟩
  refine hK' _ _ ?_
  clear hK' K'
  go_frame
  refine ls_ex (some 9) (.bool false) rfl rfl (exec_not _ _ rfl true rfl) ?_
  go_frame
  refine ls_ex (some 10) (.bool false) rfl rfl (exec_move _ rfl (.bool false) rfl) ?_
  go_frame
  refine ls_ex_g (some 11) (.slice (some ⟨bA, oA, none⟩) n c0) rfl rfl (exec_move _ rfl (.slice (some ⟨bA, oA, none⟩) n c0) rfl) ?_
  go_frame
  refine ls_ex_g (some 12) (.int .i64 n) rfl rfl (exec_len _ 26 22 rfl ((some ⟨bA, oA, none⟩)) n c0 rfl Try.underlying26) ?_
  go_frame
  refine ls_ex_g (some 13) (.bool false) rfl rfl (exec_lss _ _ _ _ rfl n 1 rfl rfl false (decide_eq_false (by omega))) ?_
  go_frame
  refine ls_ex (some 14) (.bool false) rfl rfl (exec_pick _ _ _ rfl false rfl (.bool false) rfl) ?_
  go_frame
  refine ls_ex (some 15) (.bool false) rfl rfl (exec_move _ rfl (.bool false) rfl) ?_
  go_frame
  refine ls_ex_g (some 16) (.slice (some ⟨bA, oA, none⟩) n c0) rfl rfl (exec_move _ rfl (.slice (some ⟨bA, oA, none⟩) n c0) rfl) ?_
  go_frame
  refine ls_ex_g (some 17) (.int .i64 n) rfl rfl (exec_len _ 26 22 rfl ((some ⟨bA, oA, none⟩)) n c0 rfl Try.underlying26) ?_
  go_frame
  refine ls_ex_g (some 18) (.bool true) rfl rfl (exec_gtr _ _ _ _ rfl n 9 rfl rfl true (decide_eq_true (by omega))) ?_
  go_frame
  refine ls_ex (some 19) (.bool true) rfl rfl (exec_pick _ _ _ rfl false rfl (.bool true) rfl) ?_
  go_frame
  refine ls_ex (some 20) (.bool true) rfl rfl (exec_move _ rfl (.bool true) rfl) ?_
  go_frame
  refine ls_skip_g (some 21) rfl rfl ?_
  go_frame
  refine ls_skip_g (some 22) rfl rfl ?_
  go_frame
  refine ls_skip_g (some 23) rfl rfl ?_
  go_frame
  refine ls_skip_g (some 24) rfl rfl ?_
  go_frame
  refine ls_skip_g (some 25) rfl rfl ?_
  go_frame
  refine ls_ex (some 26) (.bool true) rfl rfl (exec_pick _ _ _ rfl true rfl (.bool true) rfl) ?_
  go_frame
  refine ls_ex (some 27) (.bool true) rfl rfl (exec_move _ rfl (.bool true) rfl) ?_
  go_frame
  refine ls_skip_g (some 28) rfl rfl ?_
  go_frame
  refine ls_skip_g (some 29) rfl rfl ?_
  go_frame
  refine ls_skip_g (some 30) rfl rfl ?_
  go_frame
  refine ls_skip_g (some 31) rfl rfl ?_
  go_frame
  refine ls_skip_g (some 32) rfl rfl ?_
  go_frame
  refine ls_ex (some 33) (.bool true) rfl rfl (exec_pick _ _ _ rfl true rfl (.bool true) rfl) ?_
  go_frame
  refine wpList_nil ?_
  go_upto_region 2 with (fail)
  refine wp_region_lit ?_
  refine ls_ex (some 4) (.int .i64 0) rfl rfl (exec_assign _ rfl (.int .i64 0) rfl) ?_
  go_frame
  refine ls_ex (some 5) (.int .i64 2) rfl rfl (exec_assign _ rfl (.int .i64 2) rfl) ?_
  go_frame
  refine wpList_nil ?_
  go_wp2_with fail
  go_ret2
  rw [HV.out, HC.out]
  exact ⟨rfl, hB⟩
set_option maxHeartbeats 4000000 in
theorem specRr_c (p : Int) (n bA oA c0 C : Nat) (row : Nat → List Int) (w : World) (hM : RdM w (some ⟨bA, oA, none⟩) n row) (hN9 : n ≤ 1048576) (hL9 : ∀ i, i < n → (row i).length ≤ 1048576) (hn1 : 1 ≤ n) (hC0 : (row 0).length = C) (hp : primeB p = true) (hn : n ≤ 9) (hz : C = 0) :
    Calls Try.prog 21 #[.int .i64 p, .slice (some ⟨bA, oA, none⟩) n c0] w (fun e w' => e = .returned (.tuple #[.int .i64 (rrV p n row), .int .i64 (rrC p n row)]) ∧ Below w.heap.size w w') := by
  have hB := Below.refl w.heap.size w
  have _u0 := hM
  have _u1 := hN9
  have _u2 := hL9
  clear _u0 _u1 _u2
  have h0 : rrOK p n row = false := by
    simp [rrOK, hC0, hz]
  have HV : Hid (rrV p n row = 0) := Lib.hid (by unfold rrV; rw [h0]; rfl)
  have HC : Hid (rrC p n row = 2) := Lib.hid (by unfold rrC; rw [h0]; rfl)
  have Hp := Lib.hid hp
  have HArg : Hid (∀ i, i < n → ∃ B c, w.cell? ⟨bA, oA + i * 1, none⟩ = some (.slice B (row i).length c) ∧ RdI w B (row i)) := Lib.hid (fun i hi => by
    obtain ⟨b, off, B, c, e, h1, h2⟩ := hM.at_ hi
    simp only [Option.some.injEq, Addr.mk.injEq, and_true] at e
    obtain ⟨rfl, rfl⟩ := e
    rw [Nat.mul_one]
    exact ⟨B, c, h1, h2⟩)
  obtain ⟨B0, c9, hz9, hR9⟩ := HArg.out 0 (by omega)
  rw [hC0] at hz9
  have HZ := Lib.hid hz9
  have HRl := Lib.hid hL9
  clear hz9
  clear h0 hp
  go_enter Try.func21, Try.ntmps21
  go_upto_region 0 with (fail)
  refine wp_region_lit ?_
  refine ls_ex (some 4) (.int .i64 0) rfl rfl (exec_assign _ rfl (.int .i64 0) rfl) ?_
  go_frame
  refine ls_ex (some 5) (.int .i64 0) rfl rfl (exec_assign _ rfl (.int .i64 0) rfl) ?_
  go_frame
  refine wpList_nil ?_
  go_upto_region 1 with (fail)
  refine wp_region_lit ?_
  refine ls_ex (some 7) (.int .i64 p) rfl rfl (exec_move _ rfl (.int .i64 p) rfl) ?_
  go_frame
  refine ls_op rfl (fun K' hK' => ?_)
  have lz3 := hB.size
  refine wp_call1 (some 8) rfl 42 _ _ rfl (fun args w => by kernel_rfl) _ rfl _ (l01Prime_c p _) (fun e Wz1 h => ?_)
  obtain ⟨rfl, rfl⟩ := h
  rw [Hp.out]
  refine ⟨_, rfl, ?_⟩
  refine hK' _ _ ?_
  clear hK' K'
  go_frame
  refine ls_ex (some 9) (.bool false) rfl rfl (exec_not _ _ rfl true rfl) ?_
  go_frame
  refine ls_ex (some 10) (.bool false) rfl rfl (exec_move _ rfl (.bool false) rfl) ?_
  go_frame
  refine ls_ex_g (some 11) (.slice (some ⟨bA, oA, none⟩) n c0) rfl rfl (exec_move _ rfl (.slice (some ⟨bA, oA, none⟩) n c0) rfl) ?_
  go_frame
  refine ls_ex_g (some 12) (.int .i64 n) rfl rfl (exec_len _ 26 22 rfl ((some ⟨bA, oA, none⟩)) n c0 rfl Try.underlying26) ?_
  go_frame
  refine ls_ex_g (some 13) (.bool false) rfl rfl (exec_lss _ _ _ _ rfl n 1 rfl rfl false (decide_eq_false (by omega))) ?_
  go_frame
  refine ls_ex (some 14) (.bool false) rfl rfl (exec_pick _ _ _ rfl false rfl (.bool false) rfl) ?_
  go_frame
  refine ls_ex (some 15) (.bool false) rfl rfl (exec_move _ rfl (.bool false) rfl) ?_
  go_frame
  refine ls_ex_g (some 16) (.slice (some ⟨bA, oA, none⟩) n c0) rfl rfl (exec_move _ rfl (.slice (some ⟨bA, oA, none⟩) n c0) rfl) ?_
  go_frame
  refine ls_ex_g (some 17) (.int .i64 n) rfl rfl (exec_len _ 26 22 rfl ((some ⟨bA, oA, none⟩)) n c0 rfl Try.underlying26) ?_
  go_frame
  refine ls_ex_g (some 18) (.bool false) rfl rfl (exec_gtr _ _ _ _ rfl n 9 rfl rfl false (decide_eq_false (by omega))) ?_
  go_frame
  refine ls_ex (some 19) (.bool false) rfl rfl (exec_pick _ _ _ rfl false rfl (.bool false) rfl) ?_
  go_frame
  refine ls_ex (some 20) (.bool false) rfl rfl (exec_move _ rfl (.bool false) rfl) ?_
  go_frame
  refine ls_ex_g (some 21) (.slice (some ⟨bA, oA, none⟩) n c0) rfl rfl (exec_move _ rfl (.slice (some ⟨bA, oA, none⟩) n c0) rfl) ?_
  go_frame
  refine ls_ex_g (some 22) (.pointer (some ⟨bA, oA + 0 * 1, none⟩)) rfl rfl (exec_index_slice _ 22 _ _ rfl bA oA n c0 0 1 rfl rfl Try.underlying26 (by kernel_rfl) (by omega)) ?_
  go_frame
  refine ls_ex_g (some 23) (.slice B0 C c9) rfl rfl (exec_load_one 22 _ rfl bA (oA + 0 * 1) rfl (.slice B0 C c9) _ Try.underlying22 rfl (cellK hB HZ.out)) ?_
  go_frame
  refine ls_ex_g (some 24) (.int .i64 C) rfl rfl (exec_len _ 22 2 rfl B0 C c9 rfl Try.underlying22) ?_
  go_frame
  refine ls_ex_g (some 25) (.bool true) rfl rfl (exec_lss _ _ _ _ rfl C 1 rfl rfl true (decide_eq_true (by omega))) ?_
  go_frame
  refine ls_ex (some 26) (.bool true) rfl rfl (exec_pick _ _ _ rfl false rfl (.bool true) rfl) ?_
  go_frame
  refine ls_ex (some 27) (.bool true) rfl rfl (exec_move _ rfl (.bool true) rfl) ?_
  go_frame
  refine ls_skip_g (some 28) rfl rfl ?_
  go_frame
  refine ls_skip_g (some 29) rfl rfl ?_
  go_frame
  refine ls_skip_g (some 30) rfl rfl ?_
  go_frame
  refine ls_skip_g (some 31) rfl rfl ?_
  go_frame
  refine ls_skip_g (some 32) rfl rfl ?_
  go_frame
  refine ls_ex (some 33) (.bool true) rfl rfl (exec_pick _ _ _ rfl true rfl (.bool true) rfl) ?_
  go_frame
  refine wpList_nil ?_
  go_upto_region 2 with (fail)
  refine wp_region_lit ?_
  refine ls_ex (some 4) (.int .i64 0) rfl rfl (exec_assign _ rfl (.int .i64 0) rfl) ?_
  go_frame
  refine ls_ex (some 5) (.int .i64 2) rfl rfl (exec_assign _ rfl (.int .i64 2) rfl) ?_
  go_frame
  refine wpList_nil ?_
  go_wp2_with fail
  go_ret2
  rw [HV.out, HC.out]
  exact ⟨rfl, hB⟩
set_option maxHeartbeats 4000000 in
theorem specRr_e (p : Int) (n bA oA c0 C : Nat) (row : Nat → List Int) (w : World) (hM : RdM w (some ⟨bA, oA, none⟩) n row) (hN9 : n ≤ 1048576) (hL9 : ∀ i, i < n → (row i).length ≤ 1048576) (hn1 : 1 ≤ n) (hC0 : (row 0).length = C) (hp : primeB p = true) (hn : n ≤ 9) (hz : 81 < C) :
    Calls Try.prog 21 #[.int .i64 p, .slice (some ⟨bA, oA, none⟩) n c0] w (fun e w' => e = .returned (.tuple #[.int .i64 (rrV p n row), .int .i64 (rrC p n row)]) ∧ Below w.heap.size w w') := by
  have hB := Below.refl w.heap.size w
  have _u0 := hM
  have _u1 := hN9
  have _u2 := hL9
  clear _u0 _u1 _u2
  have h0 : rrOK p n row = false := by
    have h9 : decide (1 ≤ C ∧ C ≤ 81) = false := decide_eq_false (by omega)
    unfold rrOK
    rw [hC0, h9, Bool.false_and, Bool.and_false, Bool.and_false]
  have HV : Hid (rrV p n row = 0) := Lib.hid (by unfold rrV; rw [h0]; rfl)
  have HC : Hid (rrC p n row = 2) := Lib.hid (by unfold rrC; rw [h0]; rfl)
  have Hp := Lib.hid hp
  have HArg : Hid (∀ i, i < n → ∃ B c, w.cell? ⟨bA, oA + i * 1, none⟩ = some (.slice B (row i).length c) ∧ RdI w B (row i)) := Lib.hid (fun i hi => by
    obtain ⟨b, off, B, c, e, h1, h2⟩ := hM.at_ hi
    simp only [Option.some.injEq, Addr.mk.injEq, and_true] at e
    obtain ⟨rfl, rfl⟩ := e
    rw [Nat.mul_one]
    exact ⟨B, c, h1, h2⟩)
  obtain ⟨B0, c9, hz9, hR9⟩ := HArg.out 0 (by omega)
  rw [hC0] at hz9
  have HZ := Lib.hid hz9
  have HRl := Lib.hid hL9
  clear hz9
  clear h0 hp
  go_enter Try.func21, Try.ntmps21
  go_upto_region 0 with (fail)
  refine wp_region_lit ?_
  refine ls_ex (some 4) (.int .i64 0) rfl rfl (exec_assign _ rfl (.int .i64 0) rfl) ?_
  go_frame
  refine ls_ex (some 5) (.int .i64 0) rfl rfl (exec_assign _ rfl (.int .i64 0) rfl) ?_
  go_frame
  refine wpList_nil ?_
  go_upto_region 1 with (fail)
  refine wp_region_lit ?_
  refine ls_ex (some 7) (.int .i64 p) rfl rfl (exec_move _ rfl (.int .i64 p) rfl) ?_
  go_frame
  refine ls_op rfl (fun K' hK' => ?_)
  have lz3 := hB.size
  refine wp_call1 (some 8) rfl 42 _ _ rfl (fun args w => by kernel_rfl) _ rfl _ (l01Prime_c p _) (fun e Wz1 h => ?_)
  obtain ⟨rfl, rfl⟩ := h
  rw [Hp.out]
  refine ⟨_, rfl, ?_⟩
  refine hK' _ _ ?_
  clear hK' K'
  go_frame
  refine ls_ex (some 9) (.bool false) rfl rfl (exec_not _ _ rfl true rfl) ?_
  go_frame
  refine ls_ex (some 10) (.bool false) rfl rfl (exec_move _ rfl (.bool false) rfl) ?_
  go_frame
  refine ls_ex_g (some 11) (.slice (some ⟨bA, oA, none⟩) n c0) rfl rfl (exec_move _ rfl (.slice (some ⟨bA, oA, none⟩) n c0) rfl) ?_
  go_frame
  refine ls_ex_g (some 12) (.int .i64 n) rfl rfl (exec_len _ 26 22 rfl ((some ⟨bA, oA, none⟩)) n c0 rfl Try.underlying26) ?_
  go_frame
  refine ls_ex_g (some 13) (.bool false) rfl rfl (exec_lss _ _ _ _ rfl n 1 rfl rfl false (decide_eq_false (by omega))) ?_
  go_frame
  refine ls_ex (some 14) (.bool false) rfl rfl (exec_pick _ _ _ rfl false rfl (.bool false) rfl) ?_
  go_frame
  refine ls_ex (some 15) (.bool false) rfl rfl (exec_move _ rfl (.bool false) rfl) ?_
  go_frame
  refine ls_ex_g (some 16) (.slice (some ⟨bA, oA, none⟩) n c0) rfl rfl (exec_move _ rfl (.slice (some ⟨bA, oA, none⟩) n c0) rfl) ?_
  go_frame
  refine ls_ex_g (some 17) (.int .i64 n) rfl rfl (exec_len _ 26 22 rfl ((some ⟨bA, oA, none⟩)) n c0 rfl Try.underlying26) ?_
  go_frame
  refine ls_ex_g (some 18) (.bool false) rfl rfl (exec_gtr _ _ _ _ rfl n 9 rfl rfl false (decide_eq_false (by omega))) ?_
  go_frame
  refine ls_ex (some 19) (.bool false) rfl rfl (exec_pick _ _ _ rfl false rfl (.bool false) rfl) ?_
  go_frame
  refine ls_ex (some 20) (.bool false) rfl rfl (exec_move _ rfl (.bool false) rfl) ?_
  go_frame
  refine ls_ex_g (some 21) (.slice (some ⟨bA, oA, none⟩) n c0) rfl rfl (exec_move _ rfl (.slice (some ⟨bA, oA, none⟩) n c0) rfl) ?_
  go_frame
  refine ls_ex_g (some 22) (.pointer (some ⟨bA, oA + 0 * 1, none⟩)) rfl rfl (exec_index_slice _ 22 _ _ rfl bA oA n c0 0 1 rfl rfl Try.underlying26 (by kernel_rfl) (by omega)) ?_
  go_frame
  refine ls_ex_g (some 23) (.slice B0 C c9) rfl rfl (exec_load_one 22 _ rfl bA (oA + 0 * 1) rfl (.slice B0 C c9) _ Try.underlying22 rfl (cellK hB HZ.out)) ?_
  go_frame
  refine ls_ex_g (some 24) (.int .i64 C) rfl rfl (exec_len _ 22 2 rfl B0 C c9 rfl Try.underlying22) ?_
  go_frame
  refine ls_ex_g (some 25) (.bool false) rfl rfl (exec_lss _ _ _ _ rfl C 1 rfl rfl false (decide_eq_false (by omega))) ?_
  go_frame
  refine ls_ex (some 26) (.bool false) rfl rfl (exec_pick _ _ _ rfl false rfl (.bool false) rfl) ?_
  go_frame
  refine ls_ex (some 27) (.bool false) rfl rfl (exec_move _ rfl (.bool false) rfl) ?_
  go_frame
  refine ls_ex_g (some 28) (.slice (some ⟨bA, oA, none⟩) n c0) rfl rfl (exec_move _ rfl (.slice (some ⟨bA, oA, none⟩) n c0) rfl) ?_
  go_frame
  refine ls_ex_g (some 29) (.pointer (some ⟨bA, oA + 0 * 1, none⟩)) rfl rfl (exec_index_slice _ 22 _ _ rfl bA oA n c0 0 1 rfl rfl Try.underlying26 (by kernel_rfl) (by omega)) ?_
  go_frame
  refine ls_ex_g (some 30) (.slice B0 C c9) rfl rfl (exec_load_one 22 _ rfl bA (oA + 0 * 1) rfl (.slice B0 C c9) _ Try.underlying22 rfl (cellK hB HZ.out)) ?_
  go_frame
  refine ls_ex_g (some 31) (.int .i64 C) rfl rfl (exec_len _ 22 2 rfl B0 C c9 rfl Try.underlying22) ?_
  go_frame
  refine ls_ex_g (some 32) (.bool true) rfl rfl (exec_gtr _ _ _ _ rfl C 81 rfl rfl true (decide_eq_true (by omega))) ?_
  go_frame
  refine ls_ex (some 33) (.bool true) rfl rfl (exec_pick _ _ _ rfl false rfl (.bool true) rfl) ?_
  go_frame
  refine wpList_nil ?_
  go_upto_region 2 with (fail)
  refine wp_region_lit ?_
  refine ls_ex (some 4) (.int .i64 0) rfl rfl (exec_assign _ rfl (.int .i64 0) rfl) ?_
  go_frame
  refine ls_ex (some 5) (.int .i64 2) rfl rfl (exec_assign _ rfl (.int .i64 2) rfl) ?_
  go_frame
  refine wpList_nil ?_
  go_wp2_with fail
  go_ret2
  rw [HV.out, HC.out]
  exact ⟨rfl, hB⟩
set_option maxHeartbeats 4000000 in
theorem specRr_f (p : Int) (n bA oA c0 C : Nat) (row : Nat → List Int) (w : World) (hM : RdM w (some ⟨bA, oA, none⟩) n row) (hN9 : n ≤ 1048576) (hL9 : ∀ i, i < n → (row i).length ≤ 1048576) (hn1 : 1 ≤ n) (hC0 : (row 0).length = C) (hp : primeB p = true) (hn : n ≤ 9) (hz : 1 ≤ C ∧ C ≤ 81) (hm : ((List.range n).all fun i => listB p C (row i)) = false) :
    Calls Try.prog 21 #[.int .i64 p, .slice (some ⟨bA, oA, none⟩) n c0] w (fun e w' => e = .returned (.tuple #[.int .i64 (rrV p n row), .int .i64 (rrC p n row)]) ∧ Below w.heap.size w w') := by
  have hB := Below.refl w.heap.size w
  have _u0 := hM
  have _u1 := hN9
  have _u2 := hL9
  clear _u0 _u1 _u2
  have h0 : rrOK p n row = false := by
    unfold rrOK; rw [hC0, hm]; simp
  have HV : Hid (rrV p n row = 0) := Lib.hid (by unfold rrV; rw [h0]; rfl)
  have HC : Hid (rrC p n row = 2) := Lib.hid (by unfold rrC; rw [h0]; rfl)
  have Hp := Lib.hid hp
  have HArg : Hid (∀ i, i < n → ∃ B c, w.cell? ⟨bA, oA + i * 1, none⟩ = some (.slice B (row i).length c) ∧ RdI w B (row i)) := Lib.hid (fun i hi => by
    obtain ⟨b, off, B, c, e, h1, h2⟩ := hM.at_ hi
    simp only [Option.some.injEq, Addr.mk.injEq, and_true] at e
    obtain ⟨rfl, rfl⟩ := e
    rw [Nat.mul_one]
    exact ⟨B, c, h1, h2⟩)
  obtain ⟨B0, c9, hz9, hR9⟩ := HArg.out 0 (by omega)
  rw [hC0] at hz9
  have HZ := Lib.hid hz9
  have HRl := Lib.hid hL9
  clear hz9
  have hpp : -1000 ≤ p ∧ p ≤ 1000 := by simp only [primeB, Bool.or_eq_true, beq_iff_eq] at hp; omega
  have HNot : Hid ((∀ j, j < n → listB p C (row j) = true) → false = true) := Lib.hid (fun h9 => by rw [← hm, List.all_eq_true]; exact fun x hx => h9 x (List.mem_range.1 hx))
  clear h0 hp hm
  go_enter Try.func21, Try.ntmps21
  go_upto_region 0 with (fail)
  refine wp_region_lit ?_
  refine ls_ex (some 4) (.int .i64 0) rfl rfl (exec_assign _ rfl (.int .i64 0) rfl) ?_
  go_frame
  refine ls_ex (some 5) (.int .i64 0) rfl rfl (exec_assign _ rfl (.int .i64 0) rfl) ?_
  go_frame
  refine wpList_nil ?_
  go_upto_region 1 with (fail)
  refine wp_region_lit ?_
  refine ls_ex (some 7) (.int .i64 p) rfl rfl (exec_move _ rfl (.int .i64 p) rfl) ?_
  go_frame
  refine ls_op rfl (fun K' hK' => ?_)
  have lz3 := hB.size
  refine wp_call1 (some 8) rfl 42 _ _ rfl (fun args w => by kernel_rfl) _ rfl _ (l01Prime_c p _) (fun e Wz1 h => ?_)
  obtain ⟨rfl, rfl⟩ := h
  rw [Hp.out]
  refine ⟨_, rfl, ?_⟩
  refine hK' _ _ ?_
  clear hK' K'
  go_frame
  refine ls_ex (some 9) (.bool false) rfl rfl (exec_not _ _ rfl true rfl) ?_
  go_frame
  refine ls_ex (some 10) (.bool false) rfl rfl (exec_move _ rfl (.bool false) rfl) ?_
  go_frame
  refine ls_ex_g (some 11) (.slice (some ⟨bA, oA, none⟩) n c0) rfl rfl (exec_move _ rfl (.slice (some ⟨bA, oA, none⟩) n c0) rfl) ?_
  go_frame
  refine ls_ex_g (some 12) (.int .i64 n) rfl rfl (exec_len _ 26 22 rfl ((some ⟨bA, oA, none⟩)) n c0 rfl Try.underlying26) ?_
  go_frame
  refine ls_ex_g (some 13) (.bool false) rfl rfl (exec_lss _ _ _ _ rfl n 1 rfl rfl false (decide_eq_false (by omega))) ?_
  go_frame
  refine ls_ex (some 14) (.bool false) rfl rfl (exec_pick _ _ _ rfl false rfl (.bool false) rfl) ?_
  go_frame
  refine ls_ex (some 15) (.bool false) rfl rfl (exec_move _ rfl (.bool false) rfl) ?_
  go_frame
  refine ls_ex_g (some 16) (.slice (some ⟨bA, oA, none⟩) n c0) rfl rfl (exec_move _ rfl (.slice (some ⟨bA, oA, none⟩) n c0) rfl) ?_
  go_frame
  refine ls_ex_g (some 17) (.int .i64 n) rfl rfl (exec_len _ 26 22 rfl ((some ⟨bA, oA, none⟩)) n c0 rfl Try.underlying26) ?_
  go_frame
  refine ls_ex_g (some 18) (.bool false) rfl rfl (exec_gtr _ _ _ _ rfl n 9 rfl rfl false (decide_eq_false (by omega))) ?_
  go_frame
  refine ls_ex (some 19) (.bool false) rfl rfl (exec_pick _ _ _ rfl false rfl (.bool false) rfl) ?_
  go_frame
  refine ls_ex (some 20) (.bool false) rfl rfl (exec_move _ rfl (.bool false) rfl) ?_
  go_frame
  refine ls_ex_g (some 21) (.slice (some ⟨bA, oA, none⟩) n c0) rfl rfl (exec_move _ rfl (.slice (some ⟨bA, oA, none⟩) n c0) rfl) ?_
  go_frame
  refine ls_ex_g (some 22) (.pointer (some ⟨bA, oA + 0 * 1, none⟩)) rfl rfl (exec_index_slice _ 22 _ _ rfl bA oA n c0 0 1 rfl rfl Try.underlying26 (by kernel_rfl) (by omega)) ?_
  go_frame
  refine ls_ex_g (some 23) (.slice B0 C c9) rfl rfl (exec_load_one 22 _ rfl bA (oA + 0 * 1) rfl (.slice B0 C c9) _ Try.underlying22 rfl (cellK hB HZ.out)) ?_
  go_frame
  refine ls_ex_g (some 24) (.int .i64 C) rfl rfl (exec_len _ 22 2 rfl B0 C c9 rfl Try.underlying22) ?_
  go_frame
  refine ls_ex_g (some 25) (.bool false) rfl rfl (exec_lss _ _ _ _ rfl C 1 rfl rfl false (decide_eq_false (by omega))) ?_
  go_frame
  refine ls_ex (some 26) (.bool false) rfl rfl (exec_pick _ _ _ rfl false rfl (.bool false) rfl) ?_
  go_frame
  refine ls_ex (some 27) (.bool false) rfl rfl (exec_move _ rfl (.bool false) rfl) ?_
  go_frame
  refine ls_ex_g (some 28) (.slice (some ⟨bA, oA, none⟩) n c0) rfl rfl (exec_move _ rfl (.slice (some ⟨bA, oA, none⟩) n c0) rfl) ?_
  go_frame
  refine ls_ex_g (some 29) (.pointer (some ⟨bA, oA + 0 * 1, none⟩)) rfl rfl (exec_index_slice _ 22 _ _ rfl bA oA n c0 0 1 rfl rfl Try.underlying26 (by kernel_rfl) (by omega)) ?_
  go_frame
  refine ls_ex_g (some 30) (.slice B0 C c9) rfl rfl (exec_load_one 22 _ rfl bA (oA + 0 * 1) rfl (.slice B0 C c9) _ Try.underlying22 rfl (cellK hB HZ.out)) ?_
  go_frame
  refine ls_ex_g (some 31) (.int .i64 C) rfl rfl (exec_len _ 22 2 rfl B0 C c9 rfl Try.underlying22) ?_
  go_frame
  refine ls_ex_g (some 32) (.bool false) rfl rfl (exec_gtr _ _ _ _ rfl C 81 rfl rfl false (decide_eq_false (by omega))) ?_
  go_frame
  refine ls_ex (some 33) (.bool false) rfl rfl (exec_pick _ _ _ rfl false rfl (.bool false) rfl) ?_
  go_frame
  refine wpList_nil ?_
  go_upto_region 3 with (fail)
  refine wp_region_lit ?_
  refine ls_ex (some 6) (.int .i64 0) rfl rfl (exec_assign _ rfl (.int .i64 0) rfl) ?_
  go_frame
  refine wpList_nil ?_
  go_wp2_with fail
  go_loopw [6] (fun s6 wr => ∃ i : Nat, i ≤ n ∧ s6 = .int .i64 i ∧ (∀ j, j < i → listB p C (row j) = true) ∧ Below w.heap.size w wr) (fun s6 _ => n - (intOf s6).toNat)
  case atStart => exact ⟨0, by omega, rfl, (fun j hj => by omega), hB⟩
  case round =>
    clear hB
    obtain ⟨i, hle, rfl, hall, hB⟩ := hrel
    by_cases hlt : i < n
    · rcases Bool.eq_false_or_eq_true (listB p C (row i)) with hb | hb
      · have hin : i < n := hlt
        obtain ⟨Bi, ci, hci, hRi⟩ := HArg.out i hin
        have HCi := Lib.hid hci
        clear hci
        have HRw := Lib.hid hb
        have hall2 : ∀ j, j < i + 1 → listB p C (row j) = true := fun j hj => by
          rcases Nat.lt_or_ge j i with h9 | h9
          · exact hall j h9
          · rw [show j = i by omega]; exact hb
        clear hb hall
        go_upto_region 4 with (fail)
        refine wp_region_lit ?_
        refine ls_ex (some 34) (.int .i64 i) rfl rfl (exec_move _ rfl (.int .i64 i) rfl) ?_
        go_frame
        refine ls_ex (some 35) (.slice (some ⟨bA, oA, none⟩) n c0) rfl rfl (exec_move _ rfl (.slice (some ⟨bA, oA, none⟩) n c0) rfl) ?_
        go_frame
        refine ls_ex (some 36) (.int .i64 n) rfl rfl (exec_len _ 26 22 rfl ((some ⟨bA, oA, none⟩)) n c0 rfl Try.underlying26) ?_
        go_frame
        refine ls_ex (some 37) (.bool true) rfl rfl (exec_lss _ _ _ _ rfl i n rfl rfl true (decide_eq_true (by omega))) ?_
        go_frame
        refine wpList_nil ?_
        go_upto_region 6 with (fail)
        refine wp_region_y (zs := []) (S := fun w' => Below w.heap.size w w') (S2 := fun w' => True) (by kernel_rfl) ?_
        change wpAnyY _ _ _ _ _ _ _ _ _ _ (World.drew _)
        generalize hwdz4 : World.drew _ = wdz4
        replace hB : Below w.heap.size w wdz4 := by rw [← hwdz4]; exact hB.drew
        clear hwdz4
        refine y_yield 0 (some 40) (.int .i64 p) rfl (by kernel_rfl) (by kernel_rfl) (by kernel_rfl) (fun _ _ _ h => h) rfl rfl hB (fun w' h' => exec_move _ rfl (.int .i64 p) rfl) ?_
        go_frame
        refine y_yield 1 (some 41) (.slice (some ⟨bA, oA, none⟩) n c0) rfl (by kernel_rfl) (by kernel_rfl) (by kernel_rfl) (fun _ _ _ h => h) rfl rfl hB (fun w' h' => exec_move _ rfl (.slice (some ⟨bA, oA, none⟩) n c0) rfl) ?_
        go_frame
        refine y_yield 2 (some 42) (.int .i64 i) rfl (by kernel_rfl) (by kernel_rfl) (by kernel_rfl) (fun _ _ _ h => h) rfl rfl hB (fun w' h' => exec_move _ rfl (.int .i64 i) rfl) ?_
        go_frame
        refine y_yield 3 (some 43) (.pointer (some ⟨bA, oA + i * 1, none⟩)) rfl (by kernel_rfl) (by kernel_rfl) (by kernel_rfl) (fun _ _ _ h => h) rfl rfl hB (fun w' h' => exec_index_slice _ 22 _ _ rfl bA oA n c0 i 1 rfl rfl Try.underlying26 (by kernel_rfl) hlt) ?_
        go_frame
        refine y_yield 4 (some 44) (.slice Bi (row i).length ci) rfl (by kernel_rfl) (by kernel_rfl) (by kernel_rfl) (fun _ _ _ h => h) rfl rfl hB (fun w' h' => exec_load_one 22 _ rfl bA (oA + i * 1) rfl (.slice Bi (row i).length ci) _ Try.underlying22 rfl (cellK h' HCi.out)) ?_
        go_frame
        refine y_yield 5 (some 45) (.slice (some ⟨bA, oA, none⟩) n c0) rfl (by kernel_rfl) (by kernel_rfl) (by kernel_rfl) (fun _ _ _ h => h) rfl rfl hB (fun w' h' => exec_move _ rfl (.slice (some ⟨bA, oA, none⟩) n c0) rfl) ?_
        go_frame
        refine y_yield 6 (some 46) (.pointer (some ⟨bA, oA + 0 * 1, none⟩)) rfl (by kernel_rfl) (by kernel_rfl) (by kernel_rfl) (fun _ _ _ h => h) rfl rfl hB (fun w' h' => exec_index_slice _ 22 _ _ rfl bA oA n c0 0 1 rfl rfl Try.underlying26 (by kernel_rfl) (by omega)) ?_
        go_frame
        refine y_yield 7 (some 47) (.slice B0 C c9) rfl (by kernel_rfl) (by kernel_rfl) (by kernel_rfl) (fun _ _ _ h => h) rfl rfl hB (fun w' h' => exec_load_one 22 _ rfl bA (oA + 0 * 1) rfl (.slice B0 C c9) _ Try.underlying22 rfl (cellK h' HZ.out)) ?_
        go_frame
        refine y_yield 8 (some 48) (.int .i64 C) rfl (by kernel_rfl) (by kernel_rfl) (by kernel_rfl) (fun _ _ _ h => h) rfl rfl hB (fun w' h' => exec_len _ 22 2 rfl B0 C c9 rfl Try.underlying22) ?_
        go_frame
        refine y_oper 9 (by kernel_rfl) rfl rfl (fun K' hK' => ?_)
        have lz7 := hB.size
        refine wp_call3 (some 49) rfl 36 _ _ _ _ rfl (fun args w => by kernel_rfl) _ _ _ rfl rfl rfl _ (l05NumbersL_c p C Bi ci (row i) _ (by omega) (hRi.keep hB) (HRl.out i hin)) (fun e Wz5 h => ?_)
        obtain ⟨rfl, bz6⟩ := h
        replace hB := below_after hB bz6
        rw [HRw.out]
        clear bz6
        refine ⟨_, rfl, ?_⟩
        refine hK' _ _ hB (fun _ => trivial) ?_
        clear hK' K'
        go_frame
        refine y_yield 10 (some 50) (.bool false) rfl (by kernel_rfl) (by kernel_rfl) (by kernel_rfl) (fun _ _ _ h => h) rfl rfl hB (fun w' h' => exec_not _ _ rfl true rfl) ?_
        go_frame
        refine y_done (by kernel_rfl) ?_ _
        go_upto_region 5 with (fail)
        refine wp_region_lit ?_
        refine ls_ex (some 38) (.int .i64 i) rfl rfl (exec_move _ rfl (.int .i64 i) rfl) ?_
        go_frame
        refine ls_ex (some 39) (.int .i64 (i + 1)) rfl rfl (exec_add _ _ _ _ rfl i 1 (i + 1) rfl rfl (IntWalk.i64_in _ (by omega))) ?_
        go_frame
        refine ls_ex (some 6) (.int .i64 (i + 1)) rfl rfl (exec_assign _ rfl (.int .i64 (i + 1)) rfl) ?_
        go_frame
        refine wpList_nil ?_
        go_wp2_with fail
        go_roundw
        case rel => exact ⟨i + 1, by omega, by go_num, hall2, hB⟩
        case measure => simp [intOf] <;> omega
      · have hin : i < n := hlt
        obtain ⟨Bi, ci, hci, hRi⟩ := HArg.out i hin
        have HCi := Lib.hid hci
        clear hci
        have HRw := Lib.hid hb
        clear hb
        go_upto_region 4 with (fail)
        refine wp_region_lit ?_
        refine ls_ex (some 34) (.int .i64 i) rfl rfl (exec_move _ rfl (.int .i64 i) rfl) ?_
        go_frame
        refine ls_ex (some 35) (.slice (some ⟨bA, oA, none⟩) n c0) rfl rfl (exec_move _ rfl (.slice (some ⟨bA, oA, none⟩) n c0) rfl) ?_
        go_frame
        refine ls_ex (some 36) (.int .i64 n) rfl rfl (exec_len _ 26 22 rfl ((some ⟨bA, oA, none⟩)) n c0 rfl Try.underlying26) ?_
        go_frame
        refine ls_ex (some 37) (.bool true) rfl rfl (exec_lss _ _ _ _ rfl i n rfl rfl true (decide_eq_true (by omega))) ?_
        go_frame
        refine wpList_nil ?_
        go_upto_region 6 with (fail)
        refine wp_region_y (zs := []) (S := fun w' => Below w.heap.size w w') (S2 := fun w' => True) (by kernel_rfl) ?_
        change wpAnyY _ _ _ _ _ _ _ _ _ _ (World.drew _)
        generalize hwdz8 : World.drew _ = wdz8
        replace hB : Below w.heap.size w wdz8 := by rw [← hwdz8]; exact hB.drew
        clear hwdz8
        refine y_yield 0 (some 40) (.int .i64 p) rfl (by kernel_rfl) (by kernel_rfl) (by kernel_rfl) (fun _ _ _ h => h) rfl rfl hB (fun w' h' => exec_move _ rfl (.int .i64 p) rfl) ?_
        go_frame
        refine y_yield 1 (some 41) (.slice (some ⟨bA, oA, none⟩) n c0) rfl (by kernel_rfl) (by kernel_rfl) (by kernel_rfl) (fun _ _ _ h => h) rfl rfl hB (fun w' h' => exec_move _ rfl (.slice (some ⟨bA, oA, none⟩) n c0) rfl) ?_
        go_frame
        refine y_yield 2 (some 42) (.int .i64 i) rfl (by kernel_rfl) (by kernel_rfl) (by kernel_rfl) (fun _ _ _ h => h) rfl rfl hB (fun w' h' => exec_move _ rfl (.int .i64 i) rfl) ?_
        go_frame
        refine y_yield 3 (some 43) (.pointer (some ⟨bA, oA + i * 1, none⟩)) rfl (by kernel_rfl) (by kernel_rfl) (by kernel_rfl) (fun _ _ _ h => h) rfl rfl hB (fun w' h' => exec_index_slice _ 22 _ _ rfl bA oA n c0 i 1 rfl rfl Try.underlying26 (by kernel_rfl) hlt) ?_
        go_frame
        refine y_yield 4 (some 44) (.slice Bi (row i).length ci) rfl (by kernel_rfl) (by kernel_rfl) (by kernel_rfl) (fun _ _ _ h => h) rfl rfl hB (fun w' h' => exec_load_one 22 _ rfl bA (oA + i * 1) rfl (.slice Bi (row i).length ci) _ Try.underlying22 rfl (cellK h' HCi.out)) ?_
        go_frame
        refine y_yield 5 (some 45) (.slice (some ⟨bA, oA, none⟩) n c0) rfl (by kernel_rfl) (by kernel_rfl) (by kernel_rfl) (fun _ _ _ h => h) rfl rfl hB (fun w' h' => exec_move _ rfl (.slice (some ⟨bA, oA, none⟩) n c0) rfl) ?_
        go_frame
        refine y_yield 6 (some 46) (.pointer (some ⟨bA, oA + 0 * 1, none⟩)) rfl (by kernel_rfl) (by kernel_rfl) (by kernel_rfl) (fun _ _ _ h => h) rfl rfl hB (fun w' h' => exec_index_slice _ 22 _ _ rfl bA oA n c0 0 1 rfl rfl Try.underlying26 (by kernel_rfl) (by omega)) ?_
        go_frame
        refine y_yield 7 (some 47) (.slice B0 C c9) rfl (by kernel_rfl) (by kernel_rfl) (by kernel_rfl) (fun _ _ _ h => h) rfl rfl hB (fun w' h' => exec_load_one 22 _ rfl bA (oA + 0 * 1) rfl (.slice B0 C c9) _ Try.underlying22 rfl (cellK h' HZ.out)) ?_
        go_frame
        refine y_yield 8 (some 48) (.int .i64 C) rfl (by kernel_rfl) (by kernel_rfl) (by kernel_rfl) (fun _ _ _ h => h) rfl rfl hB (fun w' h' => exec_len _ 22 2 rfl B0 C c9 rfl Try.underlying22) ?_
        go_frame
        refine y_oper 9 (by kernel_rfl) rfl rfl (fun K' hK' => ?_)
        have lz11 := hB.size
        refine wp_call3 (some 49) rfl 36 _ _ _ _ rfl (fun args w => by kernel_rfl) _ _ _ rfl rfl rfl _ (l05NumbersL_c p C Bi ci (row i) _ (by omega) (hRi.keep hB) (HRl.out i hin)) (fun e Wz9 h => ?_)
        obtain ⟨rfl, bz10⟩ := h
        replace hB := below_after hB bz10
        rw [HRw.out]
        clear bz10
        refine ⟨_, rfl, ?_⟩
        refine hK' _ _ hB (fun _ => trivial) ?_
        clear hK' K'
        go_frame
        refine y_yield 10 (some 50) (.bool true) rfl (by kernel_rfl) (by kernel_rfl) (by kernel_rfl) (fun _ _ _ h => h) rfl rfl hB (fun w' h' => exec_not _ _ rfl false rfl) ?_
        go_frame
        refine y_done (by kernel_rfl) ?_ _
        go_upto_region 7 with (fail)
        refine wp_region_lit ?_
        refine ls_ex (some 4) (.int .i64 0) rfl rfl (exec_assign _ rfl (.int .i64 0) rfl) ?_
        go_frame
        refine ls_ex (some 5) (.int .i64 2) rfl rfl (exec_assign _ rfl (.int .i64 2) rfl) ?_
        go_frame
        refine wpList_nil ?_
        go_wp2_with fail
        go_ret2
        rw [HV.out, HC.out]
        exact ⟨rfl, hB⟩
    · exact absurd (HNot.out (fun j hj => hall j (by omega))) (by decide)
set_option maxHeartbeats 4000000 in
theorem specRr_y (p : Int) (n bA oA c0 C : Nat) (row : Nat → List Int) (w : World) (hM : RdM w (some ⟨bA, oA, none⟩) n row) (hN9 : n ≤ 1048576) (hL9 : ∀ i, i < n → (row i).length ≤ 1048576) (hn1 : 1 ≤ n) (hC0 : (row 0).length = C) (hp : primeB p = true) (hn : n ≤ 9) (hz : 1 ≤ C ∧ C ≤ 81) (hm : ((List.range n).all fun i => listB p C (row i)) = true) :
    Calls Try.prog 21 #[.int .i64 p, .slice (some ⟨bA, oA, none⟩) n c0] w (fun e w' => e = .returned (.tuple #[.int .i64 (rrV p n row), .int .i64 (rrC p n row)]) ∧ Below w.heap.size w w') := by
  have hB := Below.refl w.heap.size w
  have _u0 := hM
  have _u1 := hN9
  have _u2 := hL9
  clear _u0 _u1 _u2
  have h0 : rrOK p n row = true := by
    have h9 : decide (1 ≤ C ∧ C ≤ 81) = true := decide_eq_true hz
    have h8 : decide (1 ≤ n ∧ n ≤ 9) = true := decide_eq_true (by omega)
    unfold rrOK
    rw [hp, hC0, hm, h9, h8]
    rfl
  have hall := fun i (hi : i < n) => (List.all_eq_true.1 hm) i (List.mem_range.2 hi)
  have HRg : Hid (Rg p n C row) := Lib.hid (rr_rg hall)
  have HAll := Lib.hid hall
  have HV : Hid (rrV p n row = ((rkS p n C row C).2 : Nat)) := Lib.hid (by unfold rrV; rw [h0, if_pos rfl, hC0])
  have HC : Hid (rrC p n row = 0) := Lib.hid (by unfold rrC; rw [h0]; rfl)
  have hp5 := primeB_5 hp
  have hp5 : 2 ≤ p ∧ p ≤ 5 := by simp only [primeB, Bool.or_eq_true, beq_iff_eq] at hp; omega
  have Hp := Lib.hid hp
  have HArg : Hid (∀ i, i < n → ∃ B c, w.cell? ⟨bA, oA + i * 1, none⟩ = some (.slice B (row i).length c) ∧ RdI w B (row i)) := Lib.hid (fun i hi => by
    obtain ⟨b, off, B, c, e, h1, h2⟩ := hM.at_ hi
    simp only [Option.some.injEq, Addr.mk.injEq, and_true] at e
    obtain ⟨rfl, rfl⟩ := e
    rw [Nat.mul_one]
    exact ⟨B, c, h1, h2⟩)
  obtain ⟨B0, c9, hz9, hR9⟩ := HArg.out 0 (by omega)
  rw [hC0] at hz9
  have HZ := Lib.hid hz9
  have HRl := Lib.hid hL9
  clear hz9
  have HRM := Lib.hid hM
  clear h0 hp hm hall
  go_enter Try.func21, Try.ntmps21
  go_upto_region 0 with (fail)
  refine wp_region_lit ?_
  refine ls_ex (some 4) (.int .i64 0) rfl rfl (exec_assign _ rfl (.int .i64 0) rfl) ?_
  go_frame
  refine ls_ex (some 5) (.int .i64 0) rfl rfl (exec_assign _ rfl (.int .i64 0) rfl) ?_
  go_frame
  refine wpList_nil ?_
  go_upto_region 1 with (fail)
  refine wp_region_lit ?_
  refine ls_ex (some 7) (.int .i64 p) rfl rfl (exec_move _ rfl (.int .i64 p) rfl) ?_
  go_frame
  refine ls_op rfl (fun K' hK' => ?_)
  have lz3 := hB.size
  refine wp_call1 (some 8) rfl 42 _ _ rfl (fun args w => by kernel_rfl) _ rfl _ (l01Prime_c p _) (fun e Wz1 h => ?_)
  obtain ⟨rfl, rfl⟩ := h
  rw [Hp.out]
  refine ⟨_, rfl, ?_⟩
  refine hK' _ _ ?_
  clear hK' K'
  go_frame
  refine ls_ex (some 9) (.bool false) rfl rfl (exec_not _ _ rfl true rfl) ?_
  go_frame
  refine ls_ex (some 10) (.bool false) rfl rfl (exec_move _ rfl (.bool false) rfl) ?_
  go_frame
  refine ls_ex_g (some 11) (.slice (some ⟨bA, oA, none⟩) n c0) rfl rfl (exec_move _ rfl (.slice (some ⟨bA, oA, none⟩) n c0) rfl) ?_
  go_frame
  refine ls_ex_g (some 12) (.int .i64 n) rfl rfl (exec_len _ 26 22 rfl ((some ⟨bA, oA, none⟩)) n c0 rfl Try.underlying26) ?_
  go_frame
  refine ls_ex_g (some 13) (.bool false) rfl rfl (exec_lss _ _ _ _ rfl n 1 rfl rfl false (decide_eq_false (by omega))) ?_
  go_frame
  refine ls_ex (some 14) (.bool false) rfl rfl (exec_pick _ _ _ rfl false rfl (.bool false) rfl) ?_
  go_frame
  refine ls_ex (some 15) (.bool false) rfl rfl (exec_move _ rfl (.bool false) rfl) ?_
  go_frame
  refine ls_ex_g (some 16) (.slice (some ⟨bA, oA, none⟩) n c0) rfl rfl (exec_move _ rfl (.slice (some ⟨bA, oA, none⟩) n c0) rfl) ?_
  go_frame
  refine ls_ex_g (some 17) (.int .i64 n) rfl rfl (exec_len _ 26 22 rfl ((some ⟨bA, oA, none⟩)) n c0 rfl Try.underlying26) ?_
  go_frame
  refine ls_ex_g (some 18) (.bool false) rfl rfl (exec_gtr _ _ _ _ rfl n 9 rfl rfl false (decide_eq_false (by omega))) ?_
  go_frame
  refine ls_ex (some 19) (.bool false) rfl rfl (exec_pick _ _ _ rfl false rfl (.bool false) rfl) ?_
  go_frame
  refine ls_ex (some 20) (.bool false) rfl rfl (exec_move _ rfl (.bool false) rfl) ?_
  go_frame
  refine ls_ex_g (some 21) (.slice (some ⟨bA, oA, none⟩) n c0) rfl rfl (exec_move _ rfl (.slice (some ⟨bA, oA, none⟩) n c0) rfl) ?_
  go_frame
  refine ls_ex_g (some 22) (.pointer (some ⟨bA, oA + 0 * 1, none⟩)) rfl rfl (exec_index_slice _ 22 _ _ rfl bA oA n c0 0 1 rfl rfl Try.underlying26 (by kernel_rfl) (by omega)) ?_
  go_frame
  refine ls_ex_g (some 23) (.slice B0 C c9) rfl rfl (exec_load_one 22 _ rfl bA (oA + 0 * 1) rfl (.slice B0 C c9) _ Try.underlying22 rfl (cellK hB HZ.out)) ?_
  go_frame
  refine ls_ex_g (some 24) (.int .i64 C) rfl rfl (exec_len _ 22 2 rfl B0 C c9 rfl Try.underlying22) ?_
  go_frame
  refine ls_ex_g (some 25) (.bool false) rfl rfl (exec_lss _ _ _ _ rfl C 1 rfl rfl false (decide_eq_false (by omega))) ?_
  go_frame
  refine ls_ex (some 26) (.bool false) rfl rfl (exec_pick _ _ _ rfl false rfl (.bool false) rfl) ?_
  go_frame
  refine ls_ex (some 27) (.bool false) rfl rfl (exec_move _ rfl (.bool false) rfl) ?_
  go_frame
  refine ls_ex_g (some 28) (.slice (some ⟨bA, oA, none⟩) n c0) rfl rfl (exec_move _ rfl (.slice (some ⟨bA, oA, none⟩) n c0) rfl) ?_
  go_frame
  refine ls_ex_g (some 29) (.pointer (some ⟨bA, oA + 0 * 1, none⟩)) rfl rfl (exec_index_slice _ 22 _ _ rfl bA oA n c0 0 1 rfl rfl Try.underlying26 (by kernel_rfl) (by omega)) ?_
  go_frame
  refine ls_ex_g (some 30) (.slice B0 C c9) rfl rfl (exec_load_one 22 _ rfl bA (oA + 0 * 1) rfl (.slice B0 C c9) _ Try.underlying22 rfl (cellK hB HZ.out)) ?_
  go_frame
  refine ls_ex_g (some 31) (.int .i64 C) rfl rfl (exec_len _ 22 2 rfl B0 C c9 rfl Try.underlying22) ?_
  go_frame
  refine ls_ex_g (some 32) (.bool false) rfl rfl (exec_gtr _ _ _ _ rfl C 81 rfl rfl false (decide_eq_false (by omega))) ?_
  go_frame
  refine ls_ex (some 33) (.bool false) rfl rfl (exec_pick _ _ _ rfl false rfl (.bool false) rfl) ?_
  go_frame
  refine wpList_nil ?_
  go_upto_region 3 with (fail)
  refine wp_region_lit ?_
  refine ls_ex (some 6) (.int .i64 0) rfl rfl (exec_assign _ rfl (.int .i64 0) rfl) ?_
  go_frame
  refine wpList_nil ?_
  go_wp2_with fail
  go_loopw [6] (fun s6 wr => ∃ i : Nat, i ≤ n ∧ s6 = .int .i64 i ∧ (∀ j, j < i → listB p C (row j) = true) ∧ Below w.heap.size w wr) (fun s6 _ => n - (intOf s6).toNat)
  case atStart => exact ⟨0, by omega, rfl, (fun j hj => by omega), hB⟩
  case round =>
    clear hB
    obtain ⟨i, hle, rfl, hall, hB⟩ := hrel
    by_cases hlt : i < n
    · rcases Bool.eq_false_or_eq_true (listB p C (row i)) with hb | hb
      · have hin : i < n := hlt
        obtain ⟨Bi, ci, hci, hRi⟩ := HArg.out i hin
        have HCi := Lib.hid hci
        clear hci
        have HRw := Lib.hid hb
        have hall2 : ∀ j, j < i + 1 → listB p C (row j) = true := fun j hj => by
          rcases Nat.lt_or_ge j i with h9 | h9
          · exact hall j h9
          · rw [show j = i by omega]; exact hb
        clear hb hall
        go_upto_region 4 with (fail)
        refine wp_region_lit ?_
        refine ls_ex (some 34) (.int .i64 i) rfl rfl (exec_move _ rfl (.int .i64 i) rfl) ?_
        go_frame
        refine ls_ex (some 35) (.slice (some ⟨bA, oA, none⟩) n c0) rfl rfl (exec_move _ rfl (.slice (some ⟨bA, oA, none⟩) n c0) rfl) ?_
        go_frame
        refine ls_ex (some 36) (.int .i64 n) rfl rfl (exec_len _ 26 22 rfl ((some ⟨bA, oA, none⟩)) n c0 rfl Try.underlying26) ?_
        go_frame
        refine ls_ex (some 37) (.bool true) rfl rfl (exec_lss _ _ _ _ rfl i n rfl rfl true (decide_eq_true (by omega))) ?_
        go_frame
        refine wpList_nil ?_
        go_upto_region 6 with (fail)
        refine wp_region_y (zs := []) (S := fun w' => Below w.heap.size w w') (S2 := fun w' => True) (by kernel_rfl) ?_
        change wpAnyY _ _ _ _ _ _ _ _ _ _ (World.drew _)
        generalize hwdz4 : World.drew _ = wdz4
        replace hB : Below w.heap.size w wdz4 := by rw [← hwdz4]; exact hB.drew
        clear hwdz4
        refine y_yield 0 (some 40) (.int .i64 p) rfl (by kernel_rfl) (by kernel_rfl) (by kernel_rfl) (fun _ _ _ h => h) rfl rfl hB (fun w' h' => exec_move _ rfl (.int .i64 p) rfl) ?_
        go_frame
        refine y_yield 1 (some 41) (.slice (some ⟨bA, oA, none⟩) n c0) rfl (by kernel_rfl) (by kernel_rfl) (by kernel_rfl) (fun _ _ _ h => h) rfl rfl hB (fun w' h' => exec_move _ rfl (.slice (some ⟨bA, oA, none⟩) n c0) rfl) ?_
        go_frame
        refine y_yield 2 (some 42) (.int .i64 i) rfl (by kernel_rfl) (by kernel_rfl) (by kernel_rfl) (fun _ _ _ h => h) rfl rfl hB (fun w' h' => exec_move _ rfl (.int .i64 i) rfl) ?_
        go_frame
        refine y_yield 3 (some 43) (.pointer (some ⟨bA, oA + i * 1, none⟩)) rfl (by kernel_rfl) (by kernel_rfl) (by kernel_rfl) (fun _ _ _ h => h) rfl rfl hB (fun w' h' => exec_index_slice _ 22 _ _ rfl bA oA n c0 i 1 rfl rfl Try.underlying26 (by kernel_rfl) hlt) ?_
        go_frame
        refine y_yield 4 (some 44) (.slice Bi (row i).length ci) rfl (by kernel_rfl) (by kernel_rfl) (by kernel_rfl) (fun _ _ _ h => h) rfl rfl hB (fun w' h' => exec_load_one 22 _ rfl bA (oA + i * 1) rfl (.slice Bi (row i).length ci) _ Try.underlying22 rfl (cellK h' HCi.out)) ?_
        go_frame
        refine y_yield 5 (some 45) (.slice (some ⟨bA, oA, none⟩) n c0) rfl (by kernel_rfl) (by kernel_rfl) (by kernel_rfl) (fun _ _ _ h => h) rfl rfl hB (fun w' h' => exec_move _ rfl (.slice (some ⟨bA, oA, none⟩) n c0) rfl) ?_
        go_frame
        refine y_yield 6 (some 46) (.pointer (some ⟨bA, oA + 0 * 1, none⟩)) rfl (by kernel_rfl) (by kernel_rfl) (by kernel_rfl) (fun _ _ _ h => h) rfl rfl hB (fun w' h' => exec_index_slice _ 22 _ _ rfl bA oA n c0 0 1 rfl rfl Try.underlying26 (by kernel_rfl) (by omega)) ?_
        go_frame
        refine y_yield 7 (some 47) (.slice B0 C c9) rfl (by kernel_rfl) (by kernel_rfl) (by kernel_rfl) (fun _ _ _ h => h) rfl rfl hB (fun w' h' => exec_load_one 22 _ rfl bA (oA + 0 * 1) rfl (.slice B0 C c9) _ Try.underlying22 rfl (cellK h' HZ.out)) ?_
        go_frame
        refine y_yield 8 (some 48) (.int .i64 C) rfl (by kernel_rfl) (by kernel_rfl) (by kernel_rfl) (fun _ _ _ h => h) rfl rfl hB (fun w' h' => exec_len _ 22 2 rfl B0 C c9 rfl Try.underlying22) ?_
        go_frame
        refine y_oper 9 (by kernel_rfl) rfl rfl (fun K' hK' => ?_)
        have lz7 := hB.size
        refine wp_call3 (some 49) rfl 36 _ _ _ _ rfl (fun args w => by kernel_rfl) _ _ _ rfl rfl rfl _ (l05NumbersL_c p C Bi ci (row i) _ (by omega) (hRi.keep hB) (HRl.out i hin)) (fun e Wz5 h => ?_)
        obtain ⟨rfl, bz6⟩ := h
        replace hB := below_after hB bz6
        rw [HRw.out]
        clear bz6
        refine ⟨_, rfl, ?_⟩
        refine hK' _ _ hB (fun _ => trivial) ?_
        clear hK' K'
        go_frame
        refine y_yield 10 (some 50) (.bool false) rfl (by kernel_rfl) (by kernel_rfl) (by kernel_rfl) (fun _ _ _ h => h) rfl rfl hB (fun w' h' => exec_not _ _ rfl true rfl) ?_
        go_frame
        refine y_done (by kernel_rfl) ?_ _
        go_upto_region 5 with (fail)
        refine wp_region_lit ?_
        refine ls_ex (some 38) (.int .i64 i) rfl rfl (exec_move _ rfl (.int .i64 i) rfl) ?_
        go_frame
        refine ls_ex (some 39) (.int .i64 (i + 1)) rfl rfl (exec_add _ _ _ _ rfl i 1 (i + 1) rfl rfl (IntWalk.i64_in _ (by omega))) ?_
        go_frame
        refine ls_ex (some 6) (.int .i64 (i + 1)) rfl rfl (exec_assign _ rfl (.int .i64 (i + 1)) rfl) ?_
        go_frame
        refine wpList_nil ?_
        go_wp2_with fail
        go_roundw
        case rel => exact ⟨i + 1, by omega, by go_num, hall2, hB⟩
        case measure => simp [intOf] <;> omega
      · exact absurd hb (by rw [HAll.out i hlt]; decide)
    · have hin : i = n := by omega
      clear hall
      go_upto_region 4 with (fail)
      refine wp_region_lit ?_
      refine ls_ex (some 34) (.int .i64 i) rfl rfl (exec_move _ rfl (.int .i64 i) rfl) ?_
      go_frame
      refine ls_ex (some 35) (.slice (some ⟨bA, oA, none⟩) n c0) rfl rfl (exec_move _ rfl (.slice (some ⟨bA, oA, none⟩) n c0) rfl) ?_
      go_frame
      refine ls_ex (some 36) (.int .i64 n) rfl rfl (exec_len _ 26 22 rfl ((some ⟨bA, oA, none⟩)) n c0 rfl Try.underlying26) ?_
      go_frame
      refine ls_ex (some 37) (.bool false) rfl rfl (exec_lss _ _ _ _ rfl i n rfl rfl false (decide_eq_false (by omega))) ?_
      go_frame
      refine wpList_nil ?_
      go_upto_region 8 with (fail)
      refine wp_region_lit ?_
      refine ls_ex (some 51) (.int .i64 p) rfl rfl (exec_move _ rfl (.int .i64 p) rfl) ?_
      go_frame
      refine ls_ex (some 52) (.slice (some ⟨bA, oA, none⟩) n c0) rfl rfl (exec_move _ rfl (.slice (some ⟨bA, oA, none⟩) n c0) rfl) ?_
      go_frame
      refine ls_op rfl (fun K' hK' => ?_)
      have lz10 := hB.size
      refine wp_call2 (some 53) rfl 43 _ _ _ rfl (fun args w => by kernel_rfl) _ _ rfl rfl _ (rankS_c p n C bA oA c0 row _ Hp.out (HRM.out.keepM hB) HRg.out (by omega) (by omega)) (fun e Wz8 h => ?_)
      obtain ⟨rfl, bz9⟩ := h
      replace hB := below_after hB bz9
      clear bz9
      refine ⟨_, rfl, ?_⟩
      refine hK' _ _ ?_
      clear hK' K'
      go_frame
      refine ls_ex (some 4) (.int .i64 ((rkS p n C row C).2 : Nat)) rfl rfl (exec_assign _ rfl (.int .i64 ((rkS p n C row C).2 : Nat)) rfl) ?_
      go_frame
      refine ls_ex (some 5) (.int .i64 0) rfl rfl (exec_assign _ rfl (.int .i64 0) rfl) ?_
      go_frame
      refine wpList_nil ?_
      go_wp2_with fail
      go_ret2
      rw [HV.out, HC.out]
      exact ⟨rfl, hB⟩
set_option maxHeartbeats 4000000 in
theorem implRr_a (p : Int) (n : Nat) (AR : Option Addr) (c0 : Nat) (row : Nat → List Int) (w : World) (hM : RdM w AR n row) (hN9 : n ≤ 1048576) (hL9 : ∀ i, i < n → (row i).length ≤ 1048576) (hp : primeB p = false) :
    Calls Try.prog 23 #[.int .i64 p, .slice AR n c0] w (fun e w' => e = .returned (.tuple #[.int .i64 (rrV p n row), .int .i64 (rrC p n row)]) ∧ Below w.heap.size w w') := by
  have hB := Below.refl w.heap.size w
  have _u0 := hM
  have _u1 := hN9
  have _u2 := hL9
  clear _u0 _u1 _u2
  have h0 : rrOK p n row = false := by
    simp [rrOK, hp]
  have HV : Hid (rrV p n row = 0) := Lib.hid (by unfold rrV; rw [h0]; rfl)
  have HC : Hid (rrC p n row = 2) := Lib.hid (by unfold rrC; rw [h0]; rfl)
  have Hp := Lib.hid hp
  obtain ⟨CM, hCM⟩ : ∃ z9, colM n row = z9 := ⟨_, rfl⟩
  have HCM := Lib.hid hCM
  clear hCM
  clear h0 hp
  go_enter Try.func23, Try.ntmps23
  go_upto_region 0 with (fail)
  refine wp_region_lit ?_
  refine ls_ex (some 4) (.int .i64 0) rfl rfl (exec_assign _ rfl (.int .i64 0) rfl) ?_
  go_frame
  refine ls_ex (some 5) (.int .i64 0) rfl rfl (exec_assign _ rfl (.int .i64 0) rfl) ?_
  go_frame
  refine wpList_nil ?_
  go_upto_region 1 with (fail)
  refine wp_region_lit ?_
  refine ls_ex (some 7) (.slice AR n c0) rfl rfl (exec_move _ rfl (.slice AR n c0) rfl) ?_
  go_frame
  refine ls_op rfl (fun K' hK' => ?_)
  have lz3 := hB.size
  refine wp_call1 (some 8) rfl 44 _ _ rfl (fun args w => by kernel_rfl) _ rfl _ (shapeOfRows_c AR c0 n row _ (hM.keepM hB) hN9 hL9) (fun e Wz1 h => ?_)
  obtain ⟨rfl, bz2⟩ := h
  replace hB := below_after hB bz2
  rw [HCM.out]
  clear bz2
  refine ⟨_, rfl, ?_⟩
  refine hK' _ _ ?_
  clear hK' K'
  go_frame
  refine ls_op rfl (fun K' hK' => ?_)
  have lz4 := hB.size
  refine wp_new (some 6) rfl (alRr_impl_shape rfl) (fun Wz5 nnz6 => ?_)
  have bz7 := nnz6.below (Below.refl _ _) (Nat.le_refl _)
  replace hB := below_after hB bz7
  have hz8 : At Wz5 Wz1.heap.size (.cells #[.int .i64 0, .int .i64 0] 62 (0, 0)) := nnz6.at_
  refine hK' _ _ ?_
  clear hK' K' nnz6 bz7
  go_frame
  refine ls_op rfl (fun K' hK' => ?_)
  refine wp_store_all 62 _ _ rfl rfl Wz1.heap.size rfl #[.int .i64 n, .int .i64 CM] rfl _ _ hz8 2 (by kernel_rfl) rfl rfl (by intro x hx; simp at hx; rcases hx with rfl | rfl <;> rfl) (fun Wz9 pz10 => ?_)
  replace hB := pz10.below hB (by omega)
  replace hz8 : At Wz9 Wz1.heap.size (.cells #[.int .i64 n, .int .i64 CM] 62 (0, 0)) := pz10.at_
  refine hK' _ _ ?_
  clear hK' K' pz10
  refine wpList_nil ?_
  go_upto_region 2 with (fail)
  refine wp_region_lit ?_
  refine ls_ex (some 9) (.int .i64 p) rfl rfl (exec_move _ rfl (.int .i64 p) rfl) ?_
  go_frame
  refine ls_op rfl (fun K' hK' => ?_)
  have lz13 := hB.size
  have lz14 := hz8.lt
  refine wp_call1 (some 10) rfl 45 _ _ rfl (fun args w => by kernel_rfl) _ rfl _ (isPrime_c p _) (fun e Wz11 h => ?_)
  obtain ⟨rfl, rfl⟩ := h
  rw [Hp.out]
  refine ⟨_, rfl, ?_⟩
  refine hK' _ _ ?_
  clear hK' K'
  go_frame
  refine ls_ex (some 11) (.bool true) rfl rfl (exec_not _ _ rfl false rfl) ?_
  go_frame
  refine ls_ex (some 12) (.bool true) rfl rfl (exec_move _ rfl (.bool true) rfl) ?_
  go_frame
  refine ls_skip_g (some 13) rfl rfl ?_
  go_frame
  refine ls_skip_g (some 14) rfl rfl ?_
  go_frame
  refine ls_skip_g (some 15) rfl rfl ?_
  go_frame
  refine ls_ex (some 16) (.bool true) rfl rfl (exec_pick _ _ _ rfl true rfl (.bool true) rfl) ?_
  go_frame
  refine ls_ex (some 17) (.bool true) rfl rfl (exec_move _ rfl (.bool true) rfl) ?_
  go_frame
  refine ls_skip_g (some 18) rfl rfl ?_
  go_frame
  refine ls_skip_g (some 19) rfl rfl ?_
  go_frame
  refine ls_skip_g (some 20) rfl rfl ?_
  go_frame
  refine ls_ex (some 21) (.bool true) rfl rfl (exec_pick _ _ _ rfl true rfl (.bool true) rfl) ?_
  go_frame
  refine ls_ex (some 22) (.bool true) rfl rfl (exec_move _ rfl (.bool true) rfl) ?_
  go_frame
  refine ls_skip_g (some 23) rfl rfl ?_
  go_frame
  refine ls_skip_g (some 24) rfl rfl ?_
  go_frame
  refine ls_skip_g (some 25) rfl rfl ?_
  go_frame
  refine ls_ex (some 26) (.bool true) rfl rfl (exec_pick _ _ _ rfl true rfl (.bool true) rfl) ?_
  go_frame
  refine ls_ex (some 27) (.bool true) rfl rfl (exec_move _ rfl (.bool true) rfl) ?_
  go_frame
  refine ls_skip_g (some 28) rfl rfl ?_
  go_frame
  refine ls_skip_g (some 29) rfl rfl ?_
  go_frame
  refine ls_skip_g (some 30) rfl rfl ?_
  go_frame
  refine ls_skip_g (some 31) rfl rfl ?_
  go_frame
  refine ls_skip_g (some 32) rfl rfl ?_
  go_frame
  refine ls_ex (some 33) (.bool true) rfl rfl (exec_pick _ _ _ rfl true rfl (.bool true) rfl) ?_
  go_frame
  refine wpList_nil ?_
  go_upto_region 3 with (fail)
  refine wp_region_lit ?_
  refine ls_ex (some 4) (.int .i64 0) rfl rfl (exec_assign _ rfl (.int .i64 0) rfl) ?_
  go_frame
  refine ls_ex (some 5) (.int .i64 2) rfl rfl (exec_assign _ rfl (.int .i64 2) rfl) ?_
  go_frame
  refine wpList_nil ?_
  go_wp2_with fail
  go_ret2
  rw [HV.out, HC.out]
  exact ⟨rfl, hB⟩
set_option maxHeartbeats 4000000 in
theorem implRr_b (p : Int) (n : Nat) (AR : Option Addr) (c0 : Nat) (row : Nat → List Int) (w : World) (hM : RdM w AR n row) (hN9 : n ≤ 1048576) (hL9 : ∀ i, i < n → (row i).length ≤ 1048576) (hp : primeB p = true) (hz : n = 0) :
    Calls Try.prog 23 #[.int .i64 p, .slice AR n c0] w (fun e w' => e = .returned (.tuple #[.int .i64 (rrV p n row), .int .i64 (rrC p n row)]) ∧ Below w.heap.size w w') := by
  have hB := Below.refl w.heap.size w
  have _u0 := hM
  have _u1 := hN9
  have _u2 := hL9
  clear _u0 _u1 _u2
  have h0 : rrOK p n row = false := by
    simp [rrOK, hz]
  have HV : Hid (rrV p n row = 0) := Lib.hid (by unfold rrV; rw [h0]; rfl)
  have HC : Hid (rrC p n row = 2) := Lib.hid (by unfold rrC; rw [h0]; rfl)
  have Hp := Lib.hid hp
  obtain ⟨CM, hCM⟩ : ∃ z9, colM n row = z9 := ⟨_, rfl⟩
  have HCM := Lib.hid hCM
  have hCM0 : CM = 0 := by rw [← hCM, hz]; rfl
  clear hCM
  clear h0 hp
  go_enter Try.func23, Try.ntmps23
  go_upto_region 0 with (fail)
  refine wp_region_lit ?_
  refine ls_ex (some 4) (.int .i64 0) rfl rfl (exec_assign _ rfl (.int .i64 0) rfl) ?_
  go_frame
  refine ls_ex (some 5) (.int .i64 0) rfl rfl (exec_assign _ rfl (.int .i64 0) rfl) ?_
  go_frame
  refine wpList_nil ?_
  go_upto_region 1 with (fail)
  refine wp_region_lit ?_
  refine ls_ex (some 7) (.slice AR n c0) rfl rfl (exec_move _ rfl (.slice AR n c0) rfl) ?_
  go_frame
  refine ls_op rfl (fun K' hK' => ?_)
  have lz3 := hB.size
  refine wp_call1 (some 8) rfl 44 _ _ rfl (fun args w => by kernel_rfl) _ rfl _ (shapeOfRows_c AR c0 n row _ (hM.keepM hB) hN9 hL9) (fun e Wz1 h => ?_)
  obtain ⟨rfl, bz2⟩ := h
  replace hB := below_after hB bz2
  rw [HCM.out]
  clear bz2
  refine ⟨_, rfl, ?_⟩
  refine hK' _ _ ?_
  clear hK' K'
  go_frame
  refine ls_op rfl (fun K' hK' => ?_)
  have lz4 := hB.size
  refine wp_new (some 6) rfl (alRr_impl_shape rfl) (fun Wz5 nnz6 => ?_)
  have bz7 := nnz6.below (Below.refl _ _) (Nat.le_refl _)
  replace hB := below_after hB bz7
  have hz8 : At Wz5 Wz1.heap.size (.cells #[.int .i64 0, .int .i64 0] 62 (0, 0)) := nnz6.at_
  refine hK' _ _ ?_
  clear hK' K' nnz6 bz7
  go_frame
  refine ls_op rfl (fun K' hK' => ?_)
  refine wp_store_all 62 _ _ rfl rfl Wz1.heap.size rfl #[.int .i64 n, .int .i64 CM] rfl _ _ hz8 2 (by kernel_rfl) rfl rfl (by intro x hx; simp at hx; rcases hx with rfl | rfl <;> rfl) (fun Wz9 pz10 => ?_)
  replace hB := pz10.below hB (by omega)
  replace hz8 : At Wz9 Wz1.heap.size (.cells #[.int .i64 n, .int .i64 CM] 62 (0, 0)) := pz10.at_
  refine hK' _ _ ?_
  clear hK' K' pz10
  refine wpList_nil ?_
  go_upto_region 2 with (fail)
  refine wp_region_lit ?_
  refine ls_ex (some 9) (.int .i64 p) rfl rfl (exec_move _ rfl (.int .i64 p) rfl) ?_
  go_frame
  refine ls_op rfl (fun K' hK' => ?_)
  have lz13 := hB.size
  have lz14 := hz8.lt
  refine wp_call1 (some 10) rfl 45 _ _ rfl (fun args w => by kernel_rfl) _ rfl _ (isPrime_c p _) (fun e Wz11 h => ?_)
  obtain ⟨rfl, rfl⟩ := h
  rw [Hp.out]
  refine ⟨_, rfl, ?_⟩
  refine hK' _ _ ?_
  clear hK' K'
  go_frame
  refine ls_ex (some 11) (.bool false) rfl rfl (exec_not _ _ rfl true rfl) ?_
  go_frame
  refine ls_ex (some 12) (.bool false) rfl rfl (exec_move _ rfl (.bool false) rfl) ?_
  go_frame
  refine ls_ex_g (some 13) (.pointer (some ⟨Wz1.heap.size, 0, none⟩)) rfl rfl (exec_fieldAddr 62 _ 0 rfl _ (by kernel_rfl)) ?_
  go_frame
  refine ls_ex_g (some 14) (.int .i64 n) rfl rfl (exec_load_one 2 _ rfl Wz1.heap.size 0 rfl (.int .i64 n) _ Try.underlying2 rfl (hz8.at_ 0)) ?_
  go_frame
  refine ls_ex_g (some 15) (.bool false) rfl rfl (exec_gtr _ _ _ _ rfl n 9 rfl rfl false (decide_eq_false (by omega))) ?_
  go_frame
  refine ls_ex (some 16) (.bool false) rfl rfl (exec_pick _ _ _ rfl false rfl (.bool false) rfl) ?_
  go_frame
  refine ls_ex (some 17) (.bool false) rfl rfl (exec_move _ rfl (.bool false) rfl) ?_
  go_frame
  refine ls_ex_g (some 18) (.pointer (some ⟨Wz1.heap.size, 1, none⟩)) rfl rfl (exec_fieldAddr 62 _ 1 rfl _ (by kernel_rfl)) ?_
  go_frame
  refine ls_ex_g (some 19) (.int .i64 CM) rfl rfl (exec_load_one 2 _ rfl Wz1.heap.size 1 rfl (.int .i64 CM) _ Try.underlying2 rfl (hz8.at_ 1)) ?_
  go_frame
  refine ls_ex_g (some 20) (.bool true) rfl rfl (exec_lss _ _ _ _ rfl CM 1 rfl rfl true (decide_eq_true (by omega))) ?_
  go_frame
  refine ls_ex (some 21) (.bool true) rfl rfl (exec_pick _ _ _ rfl false rfl (.bool true) rfl) ?_
  go_frame
  refine ls_ex (some 22) (.bool true) rfl rfl (exec_move _ rfl (.bool true) rfl) ?_
  go_frame
  refine ls_skip_g (some 23) rfl rfl ?_
  go_frame
  refine ls_skip_g (some 24) rfl rfl ?_
  go_frame
  refine ls_skip_g (some 25) rfl rfl ?_
  go_frame
  refine ls_ex (some 26) (.bool true) rfl rfl (exec_pick _ _ _ rfl true rfl (.bool true) rfl) ?_
  go_frame
  refine ls_ex (some 27) (.bool true) rfl rfl (exec_move _ rfl (.bool true) rfl) ?_
  go_frame
  refine ls_skip_g (some 28) rfl rfl ?_
  go_frame
  refine ls_skip_g (some 29) rfl rfl ?_
  go_frame
  refine ls_skip_g (some 30) rfl rfl ?_
  go_frame
  refine ls_skip_g (some 31) rfl rfl ?_
  go_frame
  refine ls_skip_g (some 32) rfl rfl ?_
  go_frame
  refine ls_ex (some 33) (.bool true) rfl rfl (exec_pick _ _ _ rfl true rfl (.bool true) rfl) ?_
  go_frame
  refine wpList_nil ?_
  go_upto_region 3 with (fail)
  refine wp_region_lit ?_
  refine ls_ex (some 4) (.int .i64 0) rfl rfl (exec_assign _ rfl (.int .i64 0) rfl) ?_
  go_frame
  refine ls_ex (some 5) (.int .i64 2) rfl rfl (exec_assign _ rfl (.int .i64 2) rfl) ?_
  go_frame
  refine wpList_nil ?_
  go_wp2_with fail
  go_ret2
  rw [HV.out, HC.out]
  exact ⟨rfl, hB⟩
set_option maxHeartbeats 4000000 in
theorem implRr_d (p : Int) (n bA oA c0 C : Nat) (row : Nat → List Int) (w : World) (hM : RdM w (some ⟨bA, oA, none⟩) n row) (hN9 : n ≤ 1048576) (hL9 : ∀ i, i < n → (row i).length ≤ 1048576) (hn1 : 1 ≤ n) (hC0 : (row 0).length = C) (hp : primeB p = true) (hn : 9 < n) :
    Calls Try.prog 23 #[.int .i64 p, .slice (some ⟨bA, oA, none⟩) n c0] w (fun e w' => e = .returned (.tuple #[.int .i64 (rrV p n row), .int .i64 (rrC p n row)]) ∧ Below w.heap.size w w') := by
  have hB := Below.refl w.heap.size w
  have _u0 := hM
  have _u1 := hN9
  have _u2 := hL9
  clear _u0 _u1 _u2
  have h0 : rrOK p n row = false := by
    have h9 : decide (1 ≤ n ∧ n ≤ 9) = false := decide_eq_false (by omega)
    unfold rrOK
    rw [h9, Bool.false_and, Bool.and_false]
  have HV : Hid (rrV p n row = 0) := Lib.hid (by unfold rrV; rw [h0]; rfl)
  have HC : Hid (rrC p n row = 2) := Lib.hid (by unfold rrC; rw [h0]; rfl)
  have Hp := Lib.hid hp
  obtain ⟨CM, hCM⟩ : ∃ z9, colM n row = z9 := ⟨_, rfl⟩
  have HCM := Lib.hid hCM
  have hCMC : CM = C := by rw [← hCM, colM, if_neg (by omega), hC0]
  clear hCM
  clear h0 hp
  go_enter Try.func23, Try.ntmps23
  go_upto_region 0 with (fail)
  refine wp_region_lit ?_
  refine ls_ex (some 4) (.int .i64 0) rfl rfl (exec_assign _ rfl (.int .i64 0) rfl) ?_
  go_frame
  refine ls_ex (some 5) (.int .i64 0) rfl rfl (exec_assign _ rfl (.int .i64 0) rfl) ?_
  go_frame
  refine wpList_nil ?_
  go_upto_region 1 with (fail)
  refine wp_region_lit ?_
  refine ls_ex (some 7) (.slice (some ⟨bA, oA, none⟩) n c0) rfl rfl (exec_move _ rfl (.slice (some ⟨bA, oA, none⟩) n c0) rfl) ?_
  go_frame
  refine ls_op rfl (fun K' hK' => ?_)
  have lz3 := hB.size
  refine wp_call1 (some 8) rfl 44 _ _ rfl (fun args w => by kernel_rfl) _ rfl _ (shapeOfRows_c (some ⟨bA, oA, none⟩) c0 n row _ (hM.keepM hB) hN9 hL9) (fun e Wz1 h => ?_)
  obtain ⟨rfl, bz2⟩ := h
  replace hB := below_after hB bz2
  rw [HCM.out]
  clear bz2
  refine ⟨_, rfl, ?_⟩
  refine hK' _ _ ?_
  clear hK' K'
  go_frame
  refine ls_op rfl (fun K' hK' => ?_)
  have lz4 := hB.size
  refine wp_new (some 6) rfl (alRr_impl_shape rfl) (fun Wz5 nnz6 => ?_)
  have bz7 := nnz6.below (Below.refl _ _) (Nat.le_refl _)
  replace hB := below_after hB bz7
  have hz8 : At Wz5 Wz1.heap.size (.cells #[.int .i64 0, .int .i64 0] 62 (0, 0)) := nnz6.at_
  refine hK' _ _ ?_
  clear hK' K' nnz6 bz7
  go_frame
  refine ls_op rfl (fun K' hK' => ?_)
  refine wp_store_all 62 _ _ rfl rfl Wz1.heap.size rfl #[.int .i64 n, .int .i64 CM] rfl _ _ hz8 2 (by kernel_rfl) rfl rfl (by intro x hx; simp at hx; rcases hx with rfl | rfl <;> rfl) (fun Wz9 pz10 => ?_)
  replace hB := pz10.below hB (by omega)
  replace hz8 : At Wz9 Wz1.heap.size (.cells #[.int .i64 n, .int .i64 CM] 62 (0, 0)) := pz10.at_
  refine hK' _ _ ?_
  clear hK' K' pz10
  refine wpList_nil ?_
  go_upto_region 2 with (fail)
  refine wp_region_lit ?_
  refine ls_ex (some 9) (.int .i64 p) rfl rfl (exec_move _ rfl (.int .i64 p) rfl) ?_
  go_frame
  refine ls_op rfl (fun K' hK' => ?_)
  have lz13 := hB.size
  have lz14 := hz8.lt
  refine wp_call1 (some 10) rfl 45 _ _ rfl (fun args w => by kernel_rfl) _ rfl _ (isPrime_c p _) (fun e Wz11 h => ?_)
  obtain ⟨rfl, rfl⟩ := h
  rw [Hp.out]
  refine ⟨_, rfl, ?_⟩
  refine hK' _ _ ?_
  clear hK' K'
  go_frame
  refine ls_ex (some 11) (.bool false) rfl rfl (exec_not _ _ rfl true rfl) ?_
  go_frame
  refine ls_ex (some 12) (.bool false) rfl rfl (exec_move _ rfl (.bool false) rfl) ?_
  go_frame
  refine ls_ex_g (some 13) (.pointer (some ⟨Wz1.heap.size, 0, none⟩)) rfl rfl (exec_fieldAddr 62 _ 0 rfl _ (by kernel_rfl)) ?_
  go_frame
  refine ls_ex_g (some 14) (.int .i64 n) rfl rfl (exec_load_one 2 _ rfl Wz1.heap.size 0 rfl (.int .i64 n) _ Try.underlying2 rfl (hz8.at_ 0)) ?_
  go_frame
  refine ls_ex_g (some 15) (.bool true) rfl rfl (exec_gtr _ _ _ _ rfl n 9 rfl rfl true (decide_eq_true (by omega))) ?_
  go_frame
  refine ls_ex (some 16) (.bool true) rfl rfl (exec_pick _ _ _ rfl false rfl (.bool true) rfl) ?_
  go_frame
  refine ls_ex (some 17) (.bool true) rfl rfl (exec_move _ rfl (.bool true) rfl) ?_
  go_frame
  refine ls_skip_g (some 18) rfl rfl ?_
  go_frame
  refine ls_skip_g (some 19) rfl rfl ?_
  go_frame
  refine ls_skip_g (some 20) rfl rfl ?_
  go_frame
  refine ls_ex (some 21) (.bool true) rfl rfl (exec_pick _ _ _ rfl true rfl (.bool true) rfl) ?_
  go_frame
  refine ls_ex (some 22) (.bool true) rfl rfl (exec_move _ rfl (.bool true) rfl) ?_
  go_frame
  refine ls_skip_g (some 23) rfl rfl ?_
  go_frame
  refine ls_skip_g (some 24) rfl rfl ?_
  go_frame
  refine ls_skip_g (some 25) rfl rfl ?_
  go_frame
  refine ls_ex (some 26) (.bool true) rfl rfl (exec_pick _ _ _ rfl true rfl (.bool true) rfl) ?_
  go_frame
  refine ls_ex (some 27) (.bool true) rfl rfl (exec_move _ rfl (.bool true) rfl) ?_
  go_frame
  refine ls_skip_g (some 28) rfl rfl ?_
  go_frame
  refine ls_skip_g (some 29) rfl rfl ?_
  go_frame
  refine ls_skip_g (some 30) rfl rfl ?_
  go_frame
  refine ls_skip_g (some 31) rfl rfl ?_
  go_frame
  refine ls_skip_g (some 32) rfl rfl ?_
  go_frame
  refine ls_ex (some 33) (.bool true) rfl rfl (exec_pick _ _ _ rfl true rfl (.bool true) rfl) ?_
  go_frame
  refine wpList_nil ?_
  go_upto_region 3 with (fail)
  refine wp_region_lit ?_
  refine ls_ex (some 4) (.int .i64 0) rfl rfl (exec_assign _ rfl (.int .i64 0) rfl) ?_
  go_frame
  refine ls_ex (some 5) (.int .i64 2) rfl rfl (exec_assign _ rfl (.int .i64 2) rfl) ?_
  go_frame
  refine wpList_nil ?_
  go_wp2_with fail
  go_ret2
  rw [HV.out, HC.out]
  exact ⟨rfl, hB⟩
set_option maxHeartbeats 4000000 in
theorem implRr_c (p : Int) (n bA oA c0 C : Nat) (row : Nat → List Int) (w : World) (hM : RdM w (some ⟨bA, oA, none⟩) n row) (hN9 : n ≤ 1048576) (hL9 : ∀ i, i < n → (row i).length ≤ 1048576) (hn1 : 1 ≤ n) (hC0 : (row 0).length = C) (hp : primeB p = true) (hn : n ≤ 9) (hz : C = 0) :
    Calls Try.prog 23 #[.int .i64 p, .slice (some ⟨bA, oA, none⟩) n c0] w (fun e w' => e = .returned (.tuple #[.int .i64 (rrV p n row), .int .i64 (rrC p n row)]) ∧ Below w.heap.size w w') := by
  have hB := Below.refl w.heap.size w
  have _u0 := hM
  have _u1 := hN9
  have _u2 := hL9
  clear _u0 _u1 _u2
  have h0 : rrOK p n row = false := by
    simp [rrOK, hC0, hz]
  have HV : Hid (rrV p n row = 0) := Lib.hid (by unfold rrV; rw [h0]; rfl)
  have HC : Hid (rrC p n row = 2) := Lib.hid (by unfold rrC; rw [h0]; rfl)
  have Hp := Lib.hid hp
  obtain ⟨CM, hCM⟩ : ∃ z9, colM n row = z9 := ⟨_, rfl⟩
  have HCM := Lib.hid hCM
  have hCMC : CM = C := by rw [← hCM, colM, if_neg (by omega), hC0]
  clear hCM
  clear h0 hp
  go_enter Try.func23, Try.ntmps23
  go_upto_region 0 with (fail)
  refine wp_region_lit ?_
  refine ls_ex (some 4) (.int .i64 0) rfl rfl (exec_assign _ rfl (.int .i64 0) rfl) ?_
  go_frame
  refine ls_ex (some 5) (.int .i64 0) rfl rfl (exec_assign _ rfl (.int .i64 0) rfl) ?_
  go_frame
  refine wpList_nil ?_
  go_upto_region 1 with (fail)
  refine wp_region_lit ?_
  refine ls_ex (some 7) (.slice (some ⟨bA, oA, none⟩) n c0) rfl rfl (exec_move _ rfl (.slice (some ⟨bA, oA, none⟩) n c0) rfl) ?_
  go_frame
  refine ls_op rfl (fun K' hK' => ?_)
  have lz3 := hB.size
  refine wp_call1 (some 8) rfl 44 _ _ rfl (fun args w => by kernel_rfl) _ rfl _ (shapeOfRows_c (some ⟨bA, oA, none⟩) c0 n row _ (hM.keepM hB) hN9 hL9) (fun e Wz1 h => ?_)
  obtain ⟨rfl, bz2⟩ := h
  replace hB := below_after hB bz2
  rw [HCM.out]
  clear bz2
  refine ⟨_, rfl, ?_⟩
  refine hK' _ _ ?_
  clear hK' K'
  go_frame
  refine ls_op rfl (fun K' hK' => ?_)
  have lz4 := hB.size
  refine wp_new (some 6) rfl (alRr_impl_shape rfl) (fun Wz5 nnz6 => ?_)
  have bz7 := nnz6.below (Below.refl _ _) (Nat.le_refl _)
  replace hB := below_after hB bz7
  have hz8 : At Wz5 Wz1.heap.size (.cells #[.int .i64 0, .int .i64 0] 62 (0, 0)) := nnz6.at_
  refine hK' _ _ ?_
  clear hK' K' nnz6 bz7
  go_frame
  refine ls_op rfl (fun K' hK' => ?_)
  refine wp_store_all 62 _ _ rfl rfl Wz1.heap.size rfl #[.int .i64 n, .int .i64 CM] rfl _ _ hz8 2 (by kernel_rfl) rfl rfl (by intro x hx; simp at hx; rcases hx with rfl | rfl <;> rfl) (fun Wz9 pz10 => ?_)
  replace hB := pz10.below hB (by omega)
  replace hz8 : At Wz9 Wz1.heap.size (.cells #[.int .i64 n, .int .i64 CM] 62 (0, 0)) := pz10.at_
  refine hK' _ _ ?_
  clear hK' K' pz10
  refine wpList_nil ?_
  go_upto_region 2 with (fail)
  refine wp_region_lit ?_
  refine ls_ex (some 9) (.int .i64 p) rfl rfl (exec_move _ rfl (.int .i64 p) rfl) ?_
  go_frame
  refine ls_op rfl (fun K' hK' => ?_)
  have lz13 := hB.size
  have lz14 := hz8.lt
  refine wp_call1 (some 10) rfl 45 _ _ rfl (fun args w => by kernel_rfl) _ rfl _ (isPrime_c p _) (fun e Wz11 h => ?_)
  obtain ⟨rfl, rfl⟩ := h
  rw [Hp.out]
  refine ⟨_, rfl, ?_⟩
  refine hK' _ _ ?_
  clear hK' K'
  go_frame
  refine ls_ex (some 11) (.bool false) rfl rfl (exec_not _ _ rfl true rfl) ?_
  go_frame
  refine ls_ex (some 12) (.bool false) rfl rfl (exec_move _ rfl (.bool false) rfl) ?_
  go_frame
  refine ls_ex_g (some 13) (.pointer (some ⟨Wz1.heap.size, 0, none⟩)) rfl rfl (exec_fieldAddr 62 _ 0 rfl _ (by kernel_rfl)) ?_
  go_frame
  refine ls_ex_g (some 14) (.int .i64 n) rfl rfl (exec_load_one 2 _ rfl Wz1.heap.size 0 rfl (.int .i64 n) _ Try.underlying2 rfl (hz8.at_ 0)) ?_
  go_frame
  refine ls_ex_g (some 15) (.bool false) rfl rfl (exec_gtr _ _ _ _ rfl n 9 rfl rfl false (decide_eq_false (by omega))) ?_
  go_frame
  refine ls_ex (some 16) (.bool false) rfl rfl (exec_pick _ _ _ rfl false rfl (.bool false) rfl) ?_
  go_frame
  refine ls_ex (some 17) (.bool false) rfl rfl (exec_move _ rfl (.bool false) rfl) ?_
  go_frame
  refine ls_ex_g (some 18) (.pointer (some ⟨Wz1.heap.size, 1, none⟩)) rfl rfl (exec_fieldAddr 62 _ 1 rfl _ (by kernel_rfl)) ?_
  go_frame
  refine ls_ex_g (some 19) (.int .i64 CM) rfl rfl (exec_load_one 2 _ rfl Wz1.heap.size 1 rfl (.int .i64 CM) _ Try.underlying2 rfl (hz8.at_ 1)) ?_
  go_frame
  refine ls_ex_g (some 20) (.bool true) rfl rfl (exec_lss _ _ _ _ rfl CM 1 rfl rfl true (decide_eq_true (by omega))) ?_
  go_frame
  refine ls_ex (some 21) (.bool true) rfl rfl (exec_pick _ _ _ rfl false rfl (.bool true) rfl) ?_
  go_frame
  refine ls_ex (some 22) (.bool true) rfl rfl (exec_move _ rfl (.bool true) rfl) ?_
  go_frame
  refine ls_skip_g (some 23) rfl rfl ?_
  go_frame
  refine ls_skip_g (some 24) rfl rfl ?_
  go_frame
  refine ls_skip_g (some 25) rfl rfl ?_
  go_frame
  refine ls_ex (some 26) (.bool true) rfl rfl (exec_pick _ _ _ rfl true rfl (.bool true) rfl) ?_
  go_frame
  refine ls_ex (some 27) (.bool true) rfl rfl (exec_move _ rfl (.bool true) rfl) ?_
  go_frame
  refine ls_skip_g (some 28) rfl rfl ?_
  go_frame
  refine ls_skip_g (some 29) rfl rfl ?_
  go_frame
  refine ls_skip_g (some 30) rfl rfl ?_
  go_frame
  refine ls_skip_g (some 31) rfl rfl ?_
  go_frame
  refine ls_skip_g (some 32) rfl rfl ?_
  go_frame
  refine ls_ex (some 33) (.bool true) rfl rfl (exec_pick _ _ _ rfl true rfl (.bool true) rfl) ?_
  go_frame
  refine wpList_nil ?_
  go_upto_region 3 with (fail)
  refine wp_region_lit ?_
  refine ls_ex (some 4) (.int .i64 0) rfl rfl (exec_assign _ rfl (.int .i64 0) rfl) ?_
  go_frame
  refine ls_ex (some 5) (.int .i64 2) rfl rfl (exec_assign _ rfl (.int .i64 2) rfl) ?_
  go_frame
  refine wpList_nil ?_
  go_wp2_with fail
  go_ret2
  rw [HV.out, HC.out]
  exact ⟨rfl, hB⟩
set_option maxHeartbeats 4000000 in
theorem implRr_e (p : Int) (n bA oA c0 C : Nat) (row : Nat → List Int) (w : World) (hM : RdM w (some ⟨bA, oA, none⟩) n row) (hN9 : n ≤ 1048576) (hL9 : ∀ i, i < n → (row i).length ≤ 1048576) (hn1 : 1 ≤ n) (hC0 : (row 0).length = C) (hp : primeB p = true) (hn : n ≤ 9) (hz : 81 < C) :
    Calls Try.prog 23 #[.int .i64 p, .slice (some ⟨bA, oA, none⟩) n c0] w (fun e w' => e = .returned (.tuple #[.int .i64 (rrV p n row), .int .i64 (rrC p n row)]) ∧ Below w.heap.size w w') := by
  have hB := Below.refl w.heap.size w
  have _u0 := hM
  have _u1 := hN9
  have _u2 := hL9
  clear _u0 _u1 _u2
  have h0 : rrOK p n row = false := by
    have h9 : decide (1 ≤ C ∧ C ≤ 81) = false := decide_eq_false (by omega)
    unfold rrOK
    rw [hC0, h9, Bool.false_and, Bool.and_false, Bool.and_false]
  have HV : Hid (rrV p n row = 0) := Lib.hid (by unfold rrV; rw [h0]; rfl)
  have HC : Hid (rrC p n row = 2) := Lib.hid (by unfold rrC; rw [h0]; rfl)
  have Hp := Lib.hid hp
  obtain ⟨CM, hCM⟩ : ∃ z9, colM n row = z9 := ⟨_, rfl⟩
  have HCM := Lib.hid hCM
  have hCMC : CM = C := by rw [← hCM, colM, if_neg (by omega), hC0]
  clear hCM
  clear h0 hp
  go_enter Try.func23, Try.ntmps23
  go_upto_region 0 with (fail)
  refine wp_region_lit ?_
  refine ls_ex (some 4) (.int .i64 0) rfl rfl (exec_assign _ rfl (.int .i64 0) rfl) ?_
  go_frame
  refine ls_ex (some 5) (.int .i64 0) rfl rfl (exec_assign _ rfl (.int .i64 0) rfl) ?_
  go_frame
  refine wpList_nil ?_
  go_upto_region 1 with (fail)
  refine wp_region_lit ?_
  refine ls_ex (some 7) (.slice (some ⟨bA, oA, none⟩) n c0) rfl rfl (exec_move _ rfl (.slice (some ⟨bA, oA, none⟩) n c0) rfl) ?_
  go_frame
  refine ls_op rfl (fun K' hK' => ?_)
  have lz3 := hB.size
  refine wp_call1 (some 8) rfl 44 _ _ rfl (fun args w => by kernel_rfl) _ rfl _ (shapeOfRows_c (some ⟨bA, oA, none⟩) c0 n row _ (hM.keepM hB) hN9 hL9) (fun e Wz1 h => ?_)
  obtain ⟨rfl, bz2⟩ := h
  replace hB := below_after hB bz2
  rw [HCM.out]
  clear bz2
  refine ⟨_, rfl, ?_⟩
  refine hK' _ _ ?_
  clear hK' K'
  go_frame
  refine ls_op rfl (fun K' hK' => ?_)
  have lz4 := hB.size
  refine wp_new (some 6) rfl (alRr_impl_shape rfl) (fun Wz5 nnz6 => ?_)
  have bz7 := nnz6.below (Below.refl _ _) (Nat.le_refl _)
  replace hB := below_after hB bz7
  have hz8 : At Wz5 Wz1.heap.size (.cells #[.int .i64 0, .int .i64 0] 62 (0, 0)) := nnz6.at_
  refine hK' _ _ ?_
  clear hK' K' nnz6 bz7
  go_frame
  refine ls_op rfl (fun K' hK' => ?_)
  refine wp_store_all 62 _ _ rfl rfl Wz1.heap.size rfl #[.int .i64 n, .int .i64 CM] rfl _ _ hz8 2 (by kernel_rfl) rfl rfl (by intro x hx; simp at hx; rcases hx with rfl | rfl <;> rfl) (fun Wz9 pz10 => ?_)
  replace hB := pz10.below hB (by omega)
  replace hz8 : At Wz9 Wz1.heap.size (.cells #[.int .i64 n, .int .i64 CM] 62 (0, 0)) := pz10.at_
  refine hK' _ _ ?_
  clear hK' K' pz10
  refine wpList_nil ?_
  go_upto_region 2 with (fail)
  refine wp_region_lit ?_
  refine ls_ex (some 9) (.int .i64 p) rfl rfl (exec_move _ rfl (.int .i64 p) rfl) ?_
  go_frame
  refine ls_op rfl (fun K' hK' => ?_)
  have lz13 := hB.size
  have lz14 := hz8.lt
  refine wp_call1 (some 10) rfl 45 _ _ rfl (fun args w => by kernel_rfl) _ rfl _ (isPrime_c p _) (fun e Wz11 h => ?_)
  obtain ⟨rfl, rfl⟩ := h
  rw [Hp.out]
  refine ⟨_, rfl, ?_⟩
  refine hK' _ _ ?_
  clear hK' K'
  go_frame
  refine ls_ex (some 11) (.bool false) rfl rfl (exec_not _ _ rfl true rfl) ?_
  go_frame
  refine ls_ex (some 12) (.bool false) rfl rfl (exec_move _ rfl (.bool false) rfl) ?_
  go_frame
  refine ls_ex_g (some 13) (.pointer (some ⟨Wz1.heap.size, 0, none⟩)) rfl rfl (exec_fieldAddr 62 _ 0 rfl _ (by kernel_rfl)) ?_
  go_frame
  refine ls_ex_g (some 14) (.int .i64 n) rfl rfl (exec_load_one 2 _ rfl Wz1.heap.size 0 rfl (.int .i64 n) _ Try.underlying2 rfl (hz8.at_ 0)) ?_
  go_frame
  refine ls_ex_g (some 15) (.bool false) rfl rfl (exec_gtr _ _ _ _ rfl n 9 rfl rfl false (decide_eq_false (by omega))) ?_
  go_frame
  refine ls_ex (some 16) (.bool false) rfl rfl (exec_pick _ _ _ rfl false rfl (.bool false) rfl) ?_
  go_frame
  refine ls_ex (some 17) (.bool false) rfl rfl (exec_move _ rfl (.bool false) rfl) ?_
  go_frame
  refine ls_ex_g (some 18) (.pointer (some ⟨Wz1.heap.size, 1, none⟩)) rfl rfl (exec_fieldAddr 62 _ 1 rfl _ (by kernel_rfl)) ?_
  go_frame
  refine ls_ex_g (some 19) (.int .i64 CM) rfl rfl (exec_load_one 2 _ rfl Wz1.heap.size 1 rfl (.int .i64 CM) _ Try.underlying2 rfl (hz8.at_ 1)) ?_
  go_frame
  refine ls_ex_g (some 20) (.bool false) rfl rfl (exec_lss _ _ _ _ rfl CM 1 rfl rfl false (decide_eq_false (by omega))) ?_
  go_frame
  refine ls_ex (some 21) (.bool false) rfl rfl (exec_pick _ _ _ rfl false rfl (.bool false) rfl) ?_
  go_frame
  refine ls_ex (some 22) (.bool false) rfl rfl (exec_move _ rfl (.bool false) rfl) ?_
  go_frame
  refine ls_ex_g (some 23) (.pointer (some ⟨Wz1.heap.size, 1, none⟩)) rfl rfl (exec_fieldAddr 62 _ 1 rfl _ (by kernel_rfl)) ?_
  go_frame
  refine ls_ex_g (some 24) (.int .i64 CM) rfl rfl (exec_load_one 2 _ rfl Wz1.heap.size 1 rfl (.int .i64 CM) _ Try.underlying2 rfl (hz8.at_ 1)) ?_
  go_frame
  refine ls_ex_g (some 25) (.bool true) rfl rfl (exec_gtr _ _ _ _ rfl CM 81 rfl rfl true (decide_eq_true (by omega))) ?_
  go_frame
  refine ls_ex (some 26) (.bool true) rfl rfl (exec_pick _ _ _ rfl false rfl (.bool true) rfl) ?_
  go_frame
  refine ls_ex (some 27) (.bool true) rfl rfl (exec_move _ rfl (.bool true) rfl) ?_
  go_frame
  refine ls_skip_g (some 28) rfl rfl ?_
  go_frame
  refine ls_skip_g (some 29) rfl rfl ?_
  go_frame
  refine ls_skip_g (some 30) rfl rfl ?_
  go_frame
  refine ls_skip_g (some 31) rfl rfl ?_
  go_frame
  refine ls_skip_g (some 32) rfl rfl ?_
  go_frame
  refine ls_ex (some 33) (.bool true) rfl rfl (exec_pick _ _ _ rfl true rfl (.bool true) rfl) ?_
  go_frame
  refine wpList_nil ?_
  go_upto_region 3 with (fail)
  refine wp_region_lit ?_
  refine ls_ex (some 4) (.int .i64 0) rfl rfl (exec_assign _ rfl (.int .i64 0) rfl) ?_
  go_frame
  refine ls_ex (some 5) (.int .i64 2) rfl rfl (exec_assign _ rfl (.int .i64 2) rfl) ?_
  go_frame
  refine wpList_nil ?_
  go_wp2_with fail
  go_ret2
  rw [HV.out, HC.out]
  exact ⟨rfl, hB⟩
set_option maxHeartbeats 4000000 in
theorem implRr_f (p : Int) (n bA oA c0 C : Nat) (row : Nat → List Int) (w : World) (hM : RdM w (some ⟨bA, oA, none⟩) n row) (hN9 : n ≤ 1048576) (hL9 : ∀ i, i < n → (row i).length ≤ 1048576) (hn1 : 1 ≤ n) (hC0 : (row 0).length = C) (hp : primeB p = true) (hn : n ≤ 9) (hz : 1 ≤ C ∧ C ≤ 81) (hm : ((List.range n).all fun i => listB p C (row i)) = false) :
    Calls Try.prog 23 #[.int .i64 p, .slice (some ⟨bA, oA, none⟩) n c0] w (fun e w' => e = .returned (.tuple #[.int .i64 (rrV p n row), .int .i64 (rrC p n row)]) ∧ Below w.heap.size w w') := by
  have hB := Below.refl w.heap.size w
  have _u0 := hM
  have _u1 := hN9
  have _u2 := hL9
  clear _u0 _u1 _u2
  have h0 : rrOK p n row = false := by
    unfold rrOK; rw [hC0, hm]; simp
  have HV : Hid (rrV p n row = 0) := Lib.hid (by unfold rrV; rw [h0]; rfl)
  have HC : Hid (rrC p n row = 2) := Lib.hid (by unfold rrC; rw [h0]; rfl)
  have Hp := Lib.hid hp
  obtain ⟨CM, hCM⟩ : ∃ z9, colM n row = z9 := ⟨_, rfl⟩
  have HCM := Lib.hid hCM
  have hCMC : CM = C := by rw [← hCM, colM, if_neg (by omega), hC0]
  have HMt : Hid (matB p n CM n row = false) := Lib.hid (by rw [hCMC, matB_all]; exact hm)
  clear hCM
  clear h0 hp hm
  go_enter Try.func23, Try.ntmps23
  go_upto_region 0 with (fail)
  refine wp_region_lit ?_
  refine ls_ex (some 4) (.int .i64 0) rfl rfl (exec_assign _ rfl (.int .i64 0) rfl) ?_
  go_frame
  refine ls_ex (some 5) (.int .i64 0) rfl rfl (exec_assign _ rfl (.int .i64 0) rfl) ?_
  go_frame
  refine wpList_nil ?_
  go_upto_region 1 with (fail)
  refine wp_region_lit ?_
  refine ls_ex (some 7) (.slice (some ⟨bA, oA, none⟩) n c0) rfl rfl (exec_move _ rfl (.slice (some ⟨bA, oA, none⟩) n c0) rfl) ?_
  go_frame
  refine ls_op rfl (fun K' hK' => ?_)
  have lz3 := hB.size
  refine wp_call1 (some 8) rfl 44 _ _ rfl (fun args w => by kernel_rfl) _ rfl _ (shapeOfRows_c (some ⟨bA, oA, none⟩) c0 n row _ (hM.keepM hB) hN9 hL9) (fun e Wz1 h => ?_)
  obtain ⟨rfl, bz2⟩ := h
  replace hB := below_after hB bz2
  rw [HCM.out]
  clear bz2
  refine ⟨_, rfl, ?_⟩
  refine hK' _ _ ?_
  clear hK' K'
  go_frame
  refine ls_op rfl (fun K' hK' => ?_)
  have lz4 := hB.size
  refine wp_new (some 6) rfl (alRr_impl_shape rfl) (fun Wz5 nnz6 => ?_)
  have bz7 := nnz6.below (Below.refl _ _) (Nat.le_refl _)
  replace hB := below_after hB bz7
  have hz8 : At Wz5 Wz1.heap.size (.cells #[.int .i64 0, .int .i64 0] 62 (0, 0)) := nnz6.at_
  refine hK' _ _ ?_
  clear hK' K' nnz6 bz7
  go_frame
  refine ls_op rfl (fun K' hK' => ?_)
  refine wp_store_all 62 _ _ rfl rfl Wz1.heap.size rfl #[.int .i64 n, .int .i64 CM] rfl _ _ hz8 2 (by kernel_rfl) rfl rfl (by intro x hx; simp at hx; rcases hx with rfl | rfl <;> rfl) (fun Wz9 pz10 => ?_)
  replace hB := pz10.below hB (by omega)
  replace hz8 : At Wz9 Wz1.heap.size (.cells #[.int .i64 n, .int .i64 CM] 62 (0, 0)) := pz10.at_
  refine hK' _ _ ?_
  clear hK' K' pz10
  refine wpList_nil ?_
  go_upto_region 2 with (fail)
  refine wp_region_lit ?_
  refine ls_ex (some 9) (.int .i64 p) rfl rfl (exec_move _ rfl (.int .i64 p) rfl) ?_
  go_frame
  refine ls_op rfl (fun K' hK' => ?_)
  have lz13 := hB.size
  have lz14 := hz8.lt
  refine wp_call1 (some 10) rfl 45 _ _ rfl (fun args w => by kernel_rfl) _ rfl _ (isPrime_c p _) (fun e Wz11 h => ?_)
  obtain ⟨rfl, rfl⟩ := h
  rw [Hp.out]
  refine ⟨_, rfl, ?_⟩
  refine hK' _ _ ?_
  clear hK' K'
  go_frame
  refine ls_ex (some 11) (.bool false) rfl rfl (exec_not _ _ rfl true rfl) ?_
  go_frame
  refine ls_ex (some 12) (.bool false) rfl rfl (exec_move _ rfl (.bool false) rfl) ?_
  go_frame
  refine ls_ex_g (some 13) (.pointer (some ⟨Wz1.heap.size, 0, none⟩)) rfl rfl (exec_fieldAddr 62 _ 0 rfl _ (by kernel_rfl)) ?_
  go_frame
  refine ls_ex_g (some 14) (.int .i64 n) rfl rfl (exec_load_one 2 _ rfl Wz1.heap.size 0 rfl (.int .i64 n) _ Try.underlying2 rfl (hz8.at_ 0)) ?_
  go_frame
  refine ls_ex_g (some 15) (.bool false) rfl rfl (exec_gtr _ _ _ _ rfl n 9 rfl rfl false (decide_eq_false (by omega))) ?_
  go_frame
  refine ls_ex (some 16) (.bool false) rfl rfl (exec_pick _ _ _ rfl false rfl (.bool false) rfl) ?_
  go_frame
  refine ls_ex (some 17) (.bool false) rfl rfl (exec_move _ rfl (.bool false) rfl) ?_
  go_frame
  refine ls_ex_g (some 18) (.pointer (some ⟨Wz1.heap.size, 1, none⟩)) rfl rfl (exec_fieldAddr 62 _ 1 rfl _ (by kernel_rfl)) ?_
  go_frame
  refine ls_ex_g (some 19) (.int .i64 CM) rfl rfl (exec_load_one 2 _ rfl Wz1.heap.size 1 rfl (.int .i64 CM) _ Try.underlying2 rfl (hz8.at_ 1)) ?_
  go_frame
  refine ls_ex_g (some 20) (.bool false) rfl rfl (exec_lss _ _ _ _ rfl CM 1 rfl rfl false (decide_eq_false (by omega))) ?_
  go_frame
  refine ls_ex (some 21) (.bool false) rfl rfl (exec_pick _ _ _ rfl false rfl (.bool false) rfl) ?_
  go_frame
  refine ls_ex (some 22) (.bool false) rfl rfl (exec_move _ rfl (.bool false) rfl) ?_
  go_frame
  refine ls_ex_g (some 23) (.pointer (some ⟨Wz1.heap.size, 1, none⟩)) rfl rfl (exec_fieldAddr 62 _ 1 rfl _ (by kernel_rfl)) ?_
  go_frame
  refine ls_ex_g (some 24) (.int .i64 CM) rfl rfl (exec_load_one 2 _ rfl Wz1.heap.size 1 rfl (.int .i64 CM) _ Try.underlying2 rfl (hz8.at_ 1)) ?_
  go_frame
  refine ls_ex_g (some 25) (.bool false) rfl rfl (exec_gtr _ _ _ _ rfl CM 81 rfl rfl false (decide_eq_false (by omega))) ?_
  go_frame
  refine ls_ex (some 26) (.bool false) rfl rfl (exec_pick _ _ _ rfl false rfl (.bool false) rfl) ?_
  go_frame
  refine ls_ex (some 27) (.bool false) rfl rfl (exec_move _ rfl (.bool false) rfl) ?_
  go_frame
  refine ls_ex_g (some 28) (.int .i64 p) rfl rfl (exec_move _ rfl (.int .i64 p) rfl) ?_
  go_frame
  refine ls_ex_g (some 29) (.agg #[.int .i64 n, .int .i64 CM]) rfl rfl (exec_load_all 62 _ rfl Wz1.heap.size rfl _ _ _ hz8 Try.underlying62 rfl 2 (by kernel_rfl) rfl) ?_
  go_frame
  refine ls_ex_g (some 30) (.slice (some ⟨bA, oA, none⟩) n c0) rfl rfl (exec_move _ rfl (.slice (some ⟨bA, oA, none⟩) n c0) rfl) ?_
  go_frame
  refine ls_op_g rfl (fun K' hK' => ?_)
  have lz17 := hB.size
  have lz18 := hz8.lt
  refine wp_call3 (some 31) rfl 46 _ _ _ _ rfl (fun args w => by kernel_rfl) _ _ _ rfl rfl rfl _ (isMatrix_c p n CM (some ⟨bA, oA, none⟩) c0 n row _ (hM.keepM hB) hN9 hL9) (fun e Wz15 h => ?_)
  obtain ⟨rfl, bz16⟩ := h
  replace hB := below_after hB bz16
  replace hz8 := hz8.after bz16
  rw [HMt.out]
  clear bz16
  refine ⟨_, rfl, ?_⟩
  refine hK' _ _ ?_
  clear hK' K'
  go_frame
  refine ls_ex_g (some 32) (.bool true) rfl rfl (exec_not _ _ rfl false rfl) ?_
  go_frame
  refine ls_ex (some 33) (.bool true) rfl rfl (exec_pick _ _ _ rfl false rfl (.bool true) rfl) ?_
  go_frame
  refine wpList_nil ?_
  go_upto_region 3 with (fail)
  refine wp_region_lit ?_
  refine ls_ex (some 4) (.int .i64 0) rfl rfl (exec_assign _ rfl (.int .i64 0) rfl) ?_
  go_frame
  refine ls_ex (some 5) (.int .i64 2) rfl rfl (exec_assign _ rfl (.int .i64 2) rfl) ?_
  go_frame
  refine wpList_nil ?_
  go_wp2_with fail
  go_ret2
  rw [HV.out, HC.out]
  exact ⟨rfl, hB⟩
set_option maxHeartbeats 4000000 in
theorem implRr_y (p : Int) (n bA oA c0 C : Nat) (row : Nat → List Int) (w : World) (hM : RdM w (some ⟨bA, oA, none⟩) n row) (hN9 : n ≤ 1048576) (hL9 : ∀ i, i < n → (row i).length ≤ 1048576) (hn1 : 1 ≤ n) (hC0 : (row 0).length = C) (hp : primeB p = true) (hn : n ≤ 9) (hz : 1 ≤ C ∧ C ≤ 81) (hm : ((List.range n).all fun i => listB p C (row i)) = true) :
    Calls Try.prog 23 #[.int .i64 p, .slice (some ⟨bA, oA, none⟩) n c0] w (fun e w' => e = .returned (.tuple #[.int .i64 (rrV p n row), .int .i64 (rrC p n row)]) ∧ Below w.heap.size w w') := by
  have hB := Below.refl w.heap.size w
  have _u0 := hM
  have _u1 := hN9
  have _u2 := hL9
  clear _u0 _u1 _u2
  have h0 : rrOK p n row = true := by
    have h9 : decide (1 ≤ C ∧ C ≤ 81) = true := decide_eq_true hz
    have h8 : decide (1 ≤ n ∧ n ≤ 9) = true := decide_eq_true (by omega)
    unfold rrOK
    rw [hp, hC0, hm, h9, h8]
    rfl
  have hall := fun i (hi : i < n) => (List.all_eq_true.1 hm) i (List.mem_range.2 hi)
  have HRg : Hid (Rg p n C row) := Lib.hid (rr_rg hall)
  have HAll := Lib.hid hall
  have HV : Hid (rrV p n row = ((rkI p n C row C).2 : Nat)) := Lib.hid (by unfold rrV; rw [h0, if_pos rfl, hC0, rank_eq hp HRg.out])
  have HC : Hid (rrC p n row = 0) := Lib.hid (by unfold rrC; rw [h0]; rfl)
  have hp5 := primeB_5 hp
  have hp5 : 2 ≤ p ∧ p ≤ 5 := by simp only [primeB, Bool.or_eq_true, beq_iff_eq] at hp; omega
  have Hp := Lib.hid hp
  obtain ⟨CM, hCM⟩ : ∃ z9, colM n row = z9 := ⟨_, rfl⟩
  have HCM := Lib.hid hCM
  have hCMC : CM = C := by rw [← hCM, colM, if_neg (by omega), hC0]
  have HMt : Hid (matB p n CM n row = true) := Lib.hid (by rw [hCMC, matB_all]; exact hm)
  subst hCMC
  obtain ⟨LL, hLL⟩ : ∃ z9, n * C = z9 := ⟨_, rfl⟩
  have HLL := Lib.hid hLL
  have hLb : n * C ≤ 9 * 81 := Nat.mul_le_mul hn hz.2
  have hL0 : 0 < LL := by rw [← hLL]; exact Nat.mul_pos hn1 hz.1
  rw [hLL] at hLb
  have hT9 : tot row n = LL := by rw [tot_const (fun i hi => (HRg.out i hi).1) n (Nat.le_refl _), hLL]
  have HTot : Hid (tot row n ≤ 1000000) := Lib.hid (by omega)
  have HLen : Hid ((catI row n).length = LL) := Lib.hid (by rw [catI_len, hT9])
  have HPos : Hid (∀ i, i < n → 0 < (row i).length) := Lib.hid (fun i hi => by rw [(HRg.out i hi).1]; exact hz.1)
  clear hLL hT9
  clear hCM
  clear h0 hp hm hall
  go_enter Try.func23, Try.ntmps23
  go_upto_region 0 with (fail)
  refine wp_region_lit ?_
  refine ls_ex (some 4) (.int .i64 0) rfl rfl (exec_assign _ rfl (.int .i64 0) rfl) ?_
  go_frame
  refine ls_ex (some 5) (.int .i64 0) rfl rfl (exec_assign _ rfl (.int .i64 0) rfl) ?_
  go_frame
  refine wpList_nil ?_
  go_upto_region 1 with (fail)
  refine wp_region_lit ?_
  refine ls_ex (some 7) (.slice (some ⟨bA, oA, none⟩) n c0) rfl rfl (exec_move _ rfl (.slice (some ⟨bA, oA, none⟩) n c0) rfl) ?_
  go_frame
  refine ls_op rfl (fun K' hK' => ?_)
  have lz3 := hB.size
  refine wp_call1 (some 8) rfl 44 _ _ rfl (fun args w => by kernel_rfl) _ rfl _ (shapeOfRows_c (some ⟨bA, oA, none⟩) c0 n row _ (hM.keepM hB) hN9 hL9) (fun e Wz1 h => ?_)
  obtain ⟨rfl, bz2⟩ := h
  replace hB := below_after hB bz2
  rw [HCM.out]
  clear bz2
  refine ⟨_, rfl, ?_⟩
  refine hK' _ _ ?_
  clear hK' K'
  go_frame
  refine ls_op rfl (fun K' hK' => ?_)
  have lz4 := hB.size
  refine wp_new (some 6) rfl (alRr_impl_shape rfl) (fun Wz5 nnz6 => ?_)
  have bz7 := nnz6.below (Below.refl _ _) (Nat.le_refl _)
  replace hB := below_after hB bz7
  have hz8 : At Wz5 Wz1.heap.size (.cells #[.int .i64 0, .int .i64 0] 62 (0, 0)) := nnz6.at_
  refine hK' _ _ ?_
  clear hK' K' nnz6 bz7
  go_frame
  refine ls_op rfl (fun K' hK' => ?_)
  refine wp_store_all 62 _ _ rfl rfl Wz1.heap.size rfl #[.int .i64 n, .int .i64 (C : Nat)] rfl _ _ hz8 2 (by kernel_rfl) rfl rfl (by intro x hx; simp at hx; rcases hx with rfl | rfl <;> rfl) (fun Wz9 pz10 => ?_)
  replace hB := pz10.below hB (by omega)
  replace hz8 : At Wz9 Wz1.heap.size (.cells #[.int .i64 n, .int .i64 (C : Nat)] 62 (0, 0)) := pz10.at_
  refine hK' _ _ ?_
  clear hK' K' pz10
  refine wpList_nil ?_
  go_upto_region 2 with (fail)
  refine wp_region_lit ?_
  refine ls_ex (some 9) (.int .i64 p) rfl rfl (exec_move _ rfl (.int .i64 p) rfl) ?_
  go_frame
  refine ls_op rfl (fun K' hK' => ?_)
  have lz13 := hB.size
  have lz14 := hz8.lt
  refine wp_call1 (some 10) rfl 45 _ _ rfl (fun args w => by kernel_rfl) _ rfl _ (isPrime_c p _) (fun e Wz11 h => ?_)
  obtain ⟨rfl, rfl⟩ := h
  rw [Hp.out]
  refine ⟨_, rfl, ?_⟩
  refine hK' _ _ ?_
  clear hK' K'
  go_frame
  refine ls_ex (some 11) (.bool false) rfl rfl (exec_not _ _ rfl true rfl) ?_
  go_frame
  refine ls_ex (some 12) (.bool false) rfl rfl (exec_move _ rfl (.bool false) rfl) ?_
  go_frame
  refine ls_ex_g (some 13) (.pointer (some ⟨Wz1.heap.size, 0, none⟩)) rfl rfl (exec_fieldAddr 62 _ 0 rfl _ (by kernel_rfl)) ?_
  go_frame
  refine ls_ex_g (some 14) (.int .i64 n) rfl rfl (exec_load_one 2 _ rfl Wz1.heap.size 0 rfl (.int .i64 n) _ Try.underlying2 rfl (hz8.at_ 0)) ?_
  go_frame
  refine ls_ex_g (some 15) (.bool false) rfl rfl (exec_gtr _ _ _ _ rfl n 9 rfl rfl false (decide_eq_false (by omega))) ?_
  go_frame
  refine ls_ex (some 16) (.bool false) rfl rfl (exec_pick _ _ _ rfl false rfl (.bool false) rfl) ?_
  go_frame
  refine ls_ex (some 17) (.bool false) rfl rfl (exec_move _ rfl (.bool false) rfl) ?_
  go_frame
  refine ls_ex_g (some 18) (.pointer (some ⟨Wz1.heap.size, 1, none⟩)) rfl rfl (exec_fieldAddr 62 _ 1 rfl _ (by kernel_rfl)) ?_
  go_frame
  refine ls_ex_g (some 19) (.int .i64 (C : Nat)) rfl rfl (exec_load_one 2 _ rfl Wz1.heap.size 1 rfl (.int .i64 (C : Nat)) _ Try.underlying2 rfl (hz8.at_ 1)) ?_
  go_frame
  refine ls_ex_g (some 20) (.bool false) rfl rfl (exec_lss _ _ _ _ rfl ((C : Nat)) 1 rfl rfl false (decide_eq_false (by omega))) ?_
  go_frame
  refine ls_ex (some 21) (.bool false) rfl rfl (exec_pick _ _ _ rfl false rfl (.bool false) rfl) ?_
  go_frame
  refine ls_ex (some 22) (.bool false) rfl rfl (exec_move _ rfl (.bool false) rfl) ?_
  go_frame
  refine ls_ex_g (some 23) (.pointer (some ⟨Wz1.heap.size, 1, none⟩)) rfl rfl (exec_fieldAddr 62 _ 1 rfl _ (by kernel_rfl)) ?_
  go_frame
  refine ls_ex_g (some 24) (.int .i64 (C : Nat)) rfl rfl (exec_load_one 2 _ rfl Wz1.heap.size 1 rfl (.int .i64 (C : Nat)) _ Try.underlying2 rfl (hz8.at_ 1)) ?_
  go_frame
  refine ls_ex_g (some 25) (.bool false) rfl rfl (exec_gtr _ _ _ _ rfl ((C : Nat)) 81 rfl rfl false (decide_eq_false (by omega))) ?_
  go_frame
  refine ls_ex (some 26) (.bool false) rfl rfl (exec_pick _ _ _ rfl false rfl (.bool false) rfl) ?_
  go_frame
  refine ls_ex (some 27) (.bool false) rfl rfl (exec_move _ rfl (.bool false) rfl) ?_
  go_frame
  refine ls_ex_g (some 28) (.int .i64 p) rfl rfl (exec_move _ rfl (.int .i64 p) rfl) ?_
  go_frame
  refine ls_ex_g (some 29) (.agg #[.int .i64 n, .int .i64 (C : Nat)]) rfl rfl (exec_load_all 62 _ rfl Wz1.heap.size rfl _ _ _ hz8 Try.underlying62 rfl 2 (by kernel_rfl) rfl) ?_
  go_frame
  refine ls_ex_g (some 30) (.slice (some ⟨bA, oA, none⟩) n c0) rfl rfl (exec_move _ rfl (.slice (some ⟨bA, oA, none⟩) n c0) rfl) ?_
  go_frame
  refine ls_op_g rfl (fun K' hK' => ?_)
  have lz17 := hB.size
  have lz18 := hz8.lt
  refine wp_call3 (some 31) rfl 46 _ _ _ _ rfl (fun args w => by kernel_rfl) _ _ _ rfl rfl rfl _ (isMatrix_c p n (C : Nat) (some ⟨bA, oA, none⟩) c0 n row _ (hM.keepM hB) hN9 hL9) (fun e Wz15 h => ?_)
  obtain ⟨rfl, bz16⟩ := h
  replace hB := below_after hB bz16
  replace hz8 := hz8.after bz16
  rw [HMt.out]
  clear bz16
  refine ⟨_, rfl, ?_⟩
  refine hK' _ _ ?_
  clear hK' K'
  go_frame
  refine ls_ex_g (some 32) (.bool false) rfl rfl (exec_not _ _ rfl true rfl) ?_
  go_frame
  refine ls_ex (some 33) (.bool false) rfl rfl (exec_pick _ _ _ rfl false rfl (.bool false) rfl) ?_
  go_frame
  refine wpList_nil ?_
  go_upto_region 4 with (fail)
  refine wp_region_y (zs := [8, 9, 10]) (S := fun w' => Below w.heap.size w w') (S2 := fun w' => At w' Wz1.heap.size (.cells #[.int .i64 n, .int .i64 (C : Nat)] 62 (0, 0))) (by kernel_rfl) ?_
  change wpAnyY _ _ _ _ _ _ _ _ _ _ (World.drew _)
  generalize hwdz19 : World.drew _ = wdz19
  replace hB : Below w.heap.size w wdz19 := by rw [← hwdz19]; exact hB.drew
  replace hz8 : At wdz19 Wz1.heap.size (.cells #[.int .i64 n, .int .i64 (C : Nat)] 62 (0, 0)) := by rw [← hwdz19]; exact hz8
  clear hwdz19
  refine y_yield 0 (some 34) (.int .i64 p) rfl (by kernel_rfl) (by kernel_rfl) (by kernel_rfl) (fun _ _ _ h => h) rfl rfl hB (fun w' h' => exec_move _ rfl (.int .i64 p) rfl) ?_
  go_frame
  refine y_yield 1 (some 35) (.slice (some ⟨bA, oA, none⟩) n c0) rfl (by kernel_rfl) (by kernel_rfl) (by kernel_rfl) (fun _ _ _ h => h) rfl rfl hB (fun w' h' => exec_move _ rfl (.slice (some ⟨bA, oA, none⟩) n c0) rfl) ?_
  go_frame
  refine y_yield 3 (some 37) (.pointer (some ⟨Wz1.heap.size, 1, none⟩)) rfl (by kernel_rfl) (by kernel_rfl) (by kernel_rfl) (fun _ _ _ h => h) rfl rfl hB (fun w' h' => exec_fieldAddr 62 _ 1 rfl _ (by kernel_rfl)) ?_
  go_frame
  refine y_yield3 4 (some 38) (.int .i64 (C : Nat)) rfl 11 (by kernel_rfl) (by kernel_rfl) (by kernel_rfl) (by kernel_rfl) (by kernel_rfl) (fun _ _ _ h => h) rfl rfl hB hz8 (fun w' h' h2' => exec_load_one 2 _ rfl Wz1.heap.size 1 rfl (.int .i64 (C : Nat)) _ Try.underlying2 rfl (h2'.at_ 1)) ?_
  go_frame
  refine y_yield 6 (some 40) (.pointer (some ⟨Wz1.heap.size, 1, none⟩)) rfl (by kernel_rfl) (by kernel_rfl) (by kernel_rfl) (fun _ _ _ h => h) rfl rfl hB (fun w' h' => exec_fieldAddr 62 _ 1 rfl _ (by kernel_rfl)) ?_
  go_frame
  refine y_yield3 7 (some 41) (.int .i64 (C : Nat)) rfl 11 (by kernel_rfl) (by kernel_rfl) (by kernel_rfl) (by kernel_rfl) (by kernel_rfl) (fun _ _ _ h => h) rfl rfl hB hz8 (fun w' h' h2' => exec_load_one 2 _ rfl Wz1.heap.size 1 rfl (.int .i64 (C : Nat)) _ Try.underlying2 rfl (h2'.at_ 1)) ?_
  go_frame
  refine y_oper 2 (by kernel_rfl) rfl rfl (fun K' hK' => ?_)
  have lz22 := hB.size
  have lz23 := hz8.lt
  refine wp_call1 (some 36) rfl 49 _ _ rfl (fun args w => by kernel_rfl) _ rfl _ (concatI_c (some ⟨bA, oA, none⟩) c0 n row _ (hM.keepM hB) HPos.out (by omega) HTot.out) (fun e Wz20 h => ?_)
  obtain ⟨v9, rfl, ho9, bz21⟩ := h
  replace hB := below_after hB bz21
  replace hz8 := hz8.after bz21
  obtain ⟨gC, cC, D9, rfl, hgC, hcC, hG9, hsz9, hD9⟩ := ownI_openC ho9 HLen.out hL0
  have HD9 := Lib.hid hD9
  have lo9 : w.heap.size ≤ gC := by omega
  clear ho9 hD9 bz21
  refine ⟨_, rfl, ?_⟩
  refine hK' _ _ hB (fun _ => hz8) ?_
  clear hK' K'
  go_frame
  refine y_oper 5 (by kernel_rfl) rfl rfl (fun K' hK' => ?_)
  have lz26 := hB.size
  have lz27 := hz8.lt
  have lz28 := hG9.lt
  refine wp_call2 (some 39) rfl 48 _ _ _ rfl (fun args w => by kernel_rfl) _ _ rfl rfl _ (cutRows_c gC LL cC C n _ HLL.out ⟨by omega, hcC⟩ (by omega) (by omega)) (fun e Wz24 h => ?_)
  obtain ⟨v8, rfl, hS8, bz25⟩ := h
  have hgc8 := hG9.lt
  replace hB := below_after hB bz25
  replace hz8 := hz8.after bz25
  replace hG9 := hG9.after bz25
  obtain ⟨gT, cT, cs8, rfl, hgT, h58, hcT, hcs8⟩ := ownS_open hS8 (show (rowVs gC C n).length = n by simp [rowVs]) (by omega)
  have HT8 := Lib.hid (tabP_of HRg.out hcs8 HD9.out)
  clear hS8 hcs8 bz25
  refine ⟨_, rfl, ?_⟩
  refine hK' _ _ hB (fun _ => hz8) ?_
  clear hK' K'
  go_frame
  refine y_oper 8 (by kernel_rfl) rfl rfl (fun K' hK' => ?_)
  have lz31 := hB.size
  have lz32 := hz8.lt
  have lz33 := hG9.lt
  have lz34 := h58.lt
  refine wp_call3 (some 42) rfl 47 _ _ _ _ rfl (fun args w => by kernel_rfl) _ _ _ rfl rfl rfl _ (rankI_c p gT gC n C cT w.heap.size _ cs8 D9 row _ hp5 h58 hG9 (by omega) HT8.out HRg.out (by omega) (by omega) hcT (by omega) lo9) (fun e Wz29 h => ?_)
  obtain ⟨rfl, bz30⟩ := h
  replace hB := hB.trans bz30
  refine ⟨_, rfl, ?_⟩
  refine hK' _ _ hB (fun h => absurd (by decide) h) ?_
  clear hK' K' hz8 hG9 h58 bz30
  go_frame
  refine y_oper 9 (by kernel_rfl) rfl rfl (fun K' hK' => ?_)
  refine wp_exec (some 4) rfl (.int .i64 ((rkI p n C row C).2 : Nat)) (exec_assign _ rfl (.int .i64 ((rkI p n C row C).2 : Nat)) rfl) ?_
  refine hK' _ _ hB (fun h => absurd (by decide) h) ?_
  clear hK' K'
  go_frame
  refine y_oper 10 (by kernel_rfl) rfl rfl (fun K' hK' => ?_)
  refine wp_exec (some 5) rfl (.int .i64 0) (exec_assign _ rfl (.int .i64 0) rfl) ?_
  refine hK' _ _ hB (fun h => absurd (by decide) h) ?_
  clear hK' K'
  go_frame
  refine y_done (by kernel_rfl) ?_ _
  go_wp2_with fail
  go_ret2
  rw [HV.out, HC.out]
  exact ⟨rfl, hB⟩
theorem specRowRank_c (p : Int) (AR : Option Addr) (c0 n : Nat) (row : Nat → List Int) (w : World) (hM : RdM w AR n row) (hN9 : n ≤ 1048576) (hL9 : ∀ i, i < n → (row i).length ≤ 1048576) : Calls Try.prog 21 #[.int .i64 p, .slice AR n c0] w (fun e w' => e = .returned (.tuple #[.int .i64 (rrV p n row), .int .i64 (rrC p n row)]) ∧ Below w.heap.size w w') := by
  rcases Bool.eq_false_or_eq_true (primeB p) with hp | hp
  · by_cases hz : n = 0
    · exact specRr_b p n AR c0 row w hM hN9 hL9 hp hz
    · obtain ⟨bA, oA, _, _, rfl, _, _⟩ := hM.at_ (i := 0) (by omega)
      obtain ⟨C, hC⟩ : ∃ z9, (row 0).length = z9 := ⟨_, rfl⟩
      by_cases h9 : 9 < n
      · exact specRr_d p n bA oA c0 C row w hM hN9 hL9 (by omega) hC hp h9
      · by_cases h8 : C = 0
        · exact specRr_c p n bA oA c0 C row w hM hN9 hL9 (by omega) hC hp (by omega) h8
        · by_cases h7 : 81 < C
          · exact specRr_e p n bA oA c0 C row w hM hN9 hL9 (by omega) hC hp (by omega) h7
          · rcases Bool.eq_false_or_eq_true ((List.range n).all fun i => listB p C (row i)) with hm | hm
            · exact specRr_y p n bA oA c0 C row w hM hN9 hL9 (by omega) hC hp (by omega) (by omega) hm
            · exact specRr_f p n bA oA c0 C row w hM hN9 hL9 (by omega) hC hp (by omega) (by omega) hm
  · exact specRr_a p n AR c0 row w hM hN9 hL9 hp
theorem implRowRank_c (p : Int) (AR : Option Addr) (c0 n : Nat) (row : Nat → List Int) (w : World) (hM : RdM w AR n row) (hN9 : n ≤ 1048576) (hL9 : ∀ i, i < n → (row i).length ≤ 1048576) : Calls Try.prog 23 #[.int .i64 p, .slice AR n c0] w (fun e w' => e = .returned (.tuple #[.int .i64 (rrV p n row), .int .i64 (rrC p n row)]) ∧ Below w.heap.size w w') := by
  rcases Bool.eq_false_or_eq_true (primeB p) with hp | hp
  · by_cases hz : n = 0
    · exact implRr_b p n AR c0 row w hM hN9 hL9 hp hz
    · obtain ⟨bA, oA, _, _, rfl, _, _⟩ := hM.at_ (i := 0) (by omega)
      obtain ⟨C, hC⟩ : ∃ z9, (row 0).length = z9 := ⟨_, rfl⟩
      by_cases h9 : 9 < n
      · exact implRr_d p n bA oA c0 C row w hM hN9 hL9 (by omega) hC hp h9
      · by_cases h8 : C = 0
        · exact implRr_c p n bA oA c0 C row w hM hN9 hL9 (by omega) hC hp (by omega) h8
        · by_cases h7 : 81 < C
          · exact implRr_e p n bA oA c0 C row w hM hN9 hL9 (by omega) hC hp (by omega) h7
          · rcases Bool.eq_false_or_eq_true ((List.range n).all fun i => listB p C (row i)) with hm | hm
            · exact implRr_y p n bA oA c0 C row w hM hN9 hL9 (by omega) hC hp (by omega) (by omega) hm
            · exact implRr_f p n bA oA c0 C row w hM hN9 hL9 (by omega) hC hp (by omega) (by omega) hm
  · exact implRr_a p n AR c0 row w hM hN9 hL9 hp
end Go.Proofs.Ytolgfpcadfjliaa
