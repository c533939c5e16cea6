/-
  PlainProgram of both sides. (Made by mkpge.py.)
-/
import Derived.Test.YtoaibfbamecdlaaPgD
import Derived.Test.YtoaibfbamecdlaaPg5
import Derived.Test.YtoaibfbamecdlaaPln1
namespace Go.Proofs.Ytoaibfbamecdlaa
open Go.RowKit
set_option maxRecDepth 100000
attribute [local irreducible] wpList
theorem exec_build_prog {o : Oper} {a : Act} {w : World} (x y z u : Operand) (ho : o.op = .build 33 #[(0, x), (1, y), (2, z), (3, u)]) (p n : Int) (A1 A2 : Option Addr) (n1 c1 n2 c2 : Nat) (hx : a.eval x = .int .i64 p) (hy : a.eval y = .int .i64 n) (hz : a.eval z = .slice A1 n1 c1) (hu : a.eval u = .slice A2 n2 c2) :
    (execOp a.eval o).run Try.prog w = .ok (.value (.agg #[.int .i64 p, .int .i64 n, .slice A1 n1 c1, .slice A2 n2 c2])) w := by
  have hb : Try.prog.built 33 [(0, .int .i64 p), (1, .int .i64 n), (2, .slice A1 n1 c1), (3, .slice A2 n2 c2)] = some #[.int .i64 p, .int .i64 n, .slice A1 n1 c1, .slice A2 n2 c2] := by kernel_rfl
  have h := run_build (P := Try.prog) w 33 _ _ hb
  unfold execOp
  simp [ho, hx, hy, hz, hu, h]
/-- Lists for programs. -/
def listsB (p n : Int) (K : Nat) (row : Nat → List Int) : Bool := primeB p && (decide (1 ≤ n) && decide (n ≤ 30)) && (decide (1 ≤ K) && decide (K ≤ 30)) && (List.range K).all fun i => numsB p (row i) && (((row i).length : Int) == n)
def lsCode (p n : Int) (K : Nat) (row : Nat → List Int) : Int := if listsB p n K row = true then 0 else 2
section
variable {p n : Int} {K : Nat} {row : Nat → List Int}
theorem lsCode_no (h : listsB p n K row = false) : lsCode p n K row = 2 := by unfold lsCode; rw [h]; rfl
theorem lsCode_yes (h : listsB p n K row = true) : lsCode p n K row = 0 := by unfold lsCode; rw [h]; rfl
theorem listsB_no {i : Nat} (hi : i < K) (h : (numsB p (row i) && (((row i).length : Int) == n)) = false) : listsB p n K row = false := by
  have : ((List.range K).all fun i => numsB p (row i) && (((row i).length : Int) == n)) = false := by
    rw [List.all_eq_false]
    exact ⟨i, List.mem_range.2 hi, by simp only [h]; decide⟩
  unfold listsB
  rw [this]
  simp
theorem listsB_yes (h1 : primeB p = true) (h2 : (decide (1 ≤ n) && decide (n ≤ 30)) = true) (h3 : 1 ≤ K) (h4 : K ≤ 30) (h : ∀ i, i < K → (numsB p (row i) && (((row i).length : Int) == n)) = true) : listsB p n K row = true := by
  have : ((List.range K).all fun i => numsB p (row i) && (((row i).length : Int) == n)) = true := by
    rw [List.all_eq_true]
    exact fun i hi => h i (List.mem_range.1 hi)
  unfold listsB
  rw [this, h1, h2, decide_eq_true h3, decide_eq_true h4]
  rfl
end
theorem listsB_parts {p : Int} {N K : Nat} {row : Nat → List Int} (h : listsB p (N : Int) K row = true) : primeB p = true ∧ (1 ≤ N ∧ N ≤ 30) ∧ (1 ≤ K ∧ K ≤ 30) ∧ ∀ i, i < K → (row i).length = N ∧ NumsP p (row i) := by
  simp only [listsB, Bool.and_eq_true, decide_eq_true_eq, List.all_eq_true, List.mem_range, beq_iff_eq] at h
  have hp := primeB_bounds h.1.1.1
  exact ⟨h.1.1.1, by omega, h.1.2, fun i hi => ⟨by have := (h.2 i hi).2; omega, NumsP.of_numsB (h.2 i hi).1 (by omega)⟩⟩
def plSt (p : Int) (N : Nat) (row : Nat → List Int) : Nat → List (List Int) × List (List Int)
  | 0 => ([], [])
  | i + 1 => ((rowSt p N (row i) (plSt p N row i).1 N).ss, (plSt p N row i).2 ++ [[(rowSt p N (row i) (plSt p N row i).1 N).v, (rowSt p N (row i) (plSt p N row i).1 N).f]])
theorem plSt_len (p : Int) (N : Nat) (row : Nat → List Int) (i : Nat) : (plSt p N row i).1.length ≤ i * N := by
  induction i with
  | zero => simp [plSt]
  | succ i ih =>
    have := rowSt_len p N (row i) (plSt p N row i).1 N
    rw [Nat.succ_mul]
    show (rowSt p N (row i) (plSt p N row i).1 N).ss.length ≤ _
    omega
theorem plSt_len2 (p : Int) (N : Nat) (row : Nat → List Int) (i : Nat) : (plSt p N row i).2.length = i := by
  induction i with
  | zero => rfl
  | succ i ih => show ((plSt p N row i).2 ++ [_]).length = _; rw [List.length_append, ih]; rfl
theorem cell_keepB {w w' : World} {b o : Nat} {v : Value} (hB : Below w.heap.size w w') (hc : w.cell? ⟨b, o, none⟩ = some v) : w'.cell? ⟨b, o, none⟩ = some v := by
  rw [hB.cell (p := ⟨b, o, none⟩) (block_lt_of_cell hc)]
  exact hc
theorem rdM_row {w : World} {A : Option Addr} {K N : Nat} {row : Nat → List Int} (h : RdM w A K row) {i : Nat} (hi : i < K) (hl : (row i).length = N) (hN : 0 < N) : ∃ b off bx offx c, A = some ⟨b, off, none⟩ ∧ w.cell? ⟨b, off + i, none⟩ = some (.slice (some ⟨bx, offx, none⟩) N c) ∧ RdI w (some ⟨bx, offx, none⟩) (row i) := by
  obtain ⟨b, off, B, c, rfl, hc, hI⟩ := h.at_ hi
  obtain ⟨bx, offx, rfl, _⟩ := hI.at_ (i := 0) (by omega)
  rw [hl] at hc
  exact ⟨b, off, bx, offx, c, rfl, hc, hI⟩
set_option maxHeartbeats 4000000 in
theorem l07Lists_a (p n : Int) (A : Option Addr) (c K : Nat) (row : Nat → List Int) (w : World) (hm : RdM w A K row) (hK : K ≤ 1048576) (hrl : ∀ i, i < K → (row i).length ≤ 1048576) (hp : primeB p = false) :
    Calls Try.prog 37 #[.int .i64 p, .int .i64 n, .slice A K c] w (fun e w' => e = .returned (.int .i64 (lsCode p n K row)) ∧ Below w.heap.size w w') := by
  have hB := Below.refl w.heap.size w
  have _u0 := hm
  have _u1 := hK
  have _u2 := hrl
  clear _u0 _u1 _u2
  have HNo : Hid (listsB p n K row = false) := Lib.hid (by simp [listsB, hp])
  have HP := Lib.hid hp
  clear hp
  go_enter Try.func37, Try.ntmps37
  go_upto_region 0 with (fail)
  refine wp_region_lit ?_
  refine ls_ex (some 6) (.int .i64 0) rfl rfl (exec_assign _ rfl (.int .i64 0) rfl) ?_
  go_frame
  refine wpList_nil ?_
  go_upto_region 1 with (fail)
  refine wp_region_lit ?_
  refine ls_ex (some 8) (.int .i64 p) rfl rfl (exec_move _ rfl (.int .i64 p) rfl) ?_
  go_frame
  refine ls_op rfl (fun K' hK' => ?_)
  have lz3 := hB.size
  refine wp_call1 (some 9) rfl 42 _ _ rfl (fun args w => by kernel_rfl) _ rfl _ (l01Prime_c p _) (fun e Wz1 h => ?_)
  obtain ⟨rfl, rfl⟩ := h
  rw [HP.out]
  refine ⟨_, rfl, ?_⟩
  refine hK' _ _ ?_
  clear hK' K'
  go_frame
  refine ls_ex (some 10) (.bool true) rfl rfl (exec_not _ _ rfl false rfl) ?_
  go_frame
  refine ls_ex (some 11) (.bool true) rfl rfl (exec_move _ rfl (.bool true) rfl) ?_
  go_frame
  refine ls_skip_g (some 12) rfl rfl ?_
  go_frame
  refine ls_skip_g (some 13) rfl rfl ?_
  go_frame
  refine ls_skip_g (some 14) rfl rfl ?_
  go_frame
  refine ls_ex (some 15) (.bool true) rfl rfl (exec_pick _ _ _ rfl true rfl (.bool true) rfl) ?_
  go_frame
  refine ls_ex (some 16) (.bool true) rfl rfl (exec_move _ rfl (.bool true) rfl) ?_
  go_frame
  refine ls_skip_g (some 17) rfl rfl ?_
  go_frame
  refine ls_skip_g (some 18) rfl rfl ?_
  go_frame
  refine ls_skip_g (some 19) rfl rfl ?_
  go_frame
  refine ls_ex (some 20) (.bool true) rfl rfl (exec_pick _ _ _ rfl true rfl (.bool true) rfl) ?_
  go_frame
  refine ls_ex (some 21) (.bool true) rfl rfl (exec_move _ rfl (.bool true) rfl) ?_
  go_frame
  refine ls_skip_g (some 22) rfl rfl ?_
  go_frame
  refine ls_skip_g (some 23) rfl rfl ?_
  go_frame
  refine ls_skip_g (some 24) rfl rfl ?_
  go_frame
  refine ls_ex (some 25) (.bool true) rfl rfl (exec_pick _ _ _ rfl true rfl (.bool true) rfl) ?_
  go_frame
  refine wpList_nil ?_
  go_upto_region 2 with (fail)
  refine wp_region_lit ?_
  refine ls_ex (some 6) (.int .i64 2) rfl rfl (exec_assign _ rfl (.int .i64 2) rfl) ?_
  go_frame
  refine wpList_nil ?_
  go_wp2_with fail
  go_ret
  exact ⟨by rw [lsCode_no HNo.out]; rfl, hB⟩
set_option maxHeartbeats 4000000 in
theorem l07Lists_b (p n : Int) (A : Option Addr) (c K : Nat) (row : Nat → List Int) (w : World) (hm : RdM w A K row) (hK : K ≤ 1048576) (hrl : ∀ i, i < K → (row i).length ≤ 1048576) (hp : primeB p = true) (hn : (decide (1 ≤ n) && decide (n ≤ 30)) = false) :
    Calls Try.prog 37 #[.int .i64 p, .int .i64 n, .slice A K c] w (fun e w' => e = .returned (.int .i64 (lsCode p n K row)) ∧ Below w.heap.size w w') := by
  have hB := Below.refl w.heap.size w
  have _u0 := hm
  have _u1 := hK
  have _u2 := hrl
  clear _u0 _u1 _u2
  have HNo : Hid (listsB p n K row = false) := Lib.hid (by simp only [listsB, hn]; simp)
  have HP := Lib.hid hp
  have HN := Lib.hid hn
  clear hp hn
  go_enter Try.func37, Try.ntmps37
  go_upto_region 0 with (fail)
  refine wp_region_lit ?_
  refine ls_ex (some 6) (.int .i64 0) rfl rfl (exec_assign _ rfl (.int .i64 0) rfl) ?_
  go_frame
  refine wpList_nil ?_
  go_upto_region 1 with (fail)
  refine wp_region_lit ?_
  refine ls_ex (some 8) (.int .i64 p) rfl rfl (exec_move _ rfl (.int .i64 p) rfl) ?_
  go_frame
  refine ls_op rfl (fun K' hK' => ?_)
  have lz3 := hB.size
  refine wp_call1 (some 9) rfl 42 _ _ rfl (fun args w => by kernel_rfl) _ rfl _ (l01Prime_c p _) (fun e Wz1 h => ?_)
  obtain ⟨rfl, rfl⟩ := h
  rw [HP.out]
  refine ⟨_, rfl, ?_⟩
  refine hK' _ _ ?_
  clear hK' K'
  go_frame
  refine ls_ex (some 10) (.bool false) rfl rfl (exec_not _ _ rfl true rfl) ?_
  go_frame
  refine ls_ex (some 11) (.bool false) rfl rfl (exec_move _ rfl (.bool false) rfl) ?_
  go_frame
  refine ls_ex_g (some 12) (.int .i64 n) rfl rfl (exec_move _ rfl (.int .i64 n) rfl) ?_
  go_frame
  refine ls_op_g rfl (fun K' hK' => ?_)
  have lz6 := hB.size
  refine wp_call3 (some 13) rfl 43 _ _ _ _ rfl (fun args w => by kernel_rfl) _ _ _ rfl rfl rfl _ (l01In_c n 1 30 _) (fun e Wz4 h => ?_)
  obtain ⟨rfl, rfl⟩ := h
  rw [HN.out]
  refine ⟨_, rfl, ?_⟩
  refine hK' _ _ ?_
  clear hK' K'
  go_frame
  refine ls_ex_g (some 14) (.bool true) rfl rfl (exec_not _ _ rfl false rfl) ?_
  go_frame
  refine ls_ex (some 15) (.bool true) rfl rfl (exec_pick _ _ _ rfl false rfl (.bool true) rfl) ?_
  go_frame
  refine ls_ex (some 16) (.bool true) rfl rfl (exec_move _ rfl (.bool true) rfl) ?_
  go_frame
  refine ls_skip_g (some 17) rfl rfl ?_
  go_frame
  refine ls_skip_g (some 18) rfl rfl ?_
  go_frame
  refine ls_skip_g (some 19) rfl rfl ?_
  go_frame
  refine ls_ex (some 20) (.bool true) rfl rfl (exec_pick _ _ _ rfl true rfl (.bool true) rfl) ?_
  go_frame
  refine ls_ex (some 21) (.bool true) rfl rfl (exec_move _ rfl (.bool true) rfl) ?_
  go_frame
  refine ls_skip_g (some 22) rfl rfl ?_
  go_frame
  refine ls_skip_g (some 23) rfl rfl ?_
  go_frame
  refine ls_skip_g (some 24) rfl rfl ?_
  go_frame
  refine ls_ex (some 25) (.bool true) rfl rfl (exec_pick _ _ _ rfl true rfl (.bool true) rfl) ?_
  go_frame
  refine wpList_nil ?_
  go_upto_region 2 with (fail)
  refine wp_region_lit ?_
  refine ls_ex (some 6) (.int .i64 2) rfl rfl (exec_assign _ rfl (.int .i64 2) rfl) ?_
  go_frame
  refine wpList_nil ?_
  go_wp2_with fail
  go_ret
  exact ⟨by rw [lsCode_no HNo.out]; rfl, hB⟩
set_option maxHeartbeats 4000000 in
theorem l07Lists_d (p n : Int) (A : Option Addr) (c K : Nat) (row : Nat → List Int) (w : World) (hm : RdM w A K row) (hK : K ≤ 1048576) (hrl : ∀ i, i < K → (row i).length ≤ 1048576) (hp : primeB p = true) (hn : (decide (1 ≤ n) && decide (n ≤ 30)) = true) (h1 : K < 1) :
    Calls Try.prog 37 #[.int .i64 p, .int .i64 n, .slice A K c] w (fun e w' => e = .returned (.int .i64 (lsCode p n K row)) ∧ Below w.heap.size w w') := by
  have hB := Below.refl w.heap.size w
  have _u0 := hm
  have _u1 := hK
  have _u2 := hrl
  clear _u0 _u1 _u2
  have HNo : Hid (listsB p n K row = false) := Lib.hid (by unfold listsB; rw [decide_eq_false (show ¬ 1 ≤ K by omega)]; simp)
  have HP := Lib.hid hp
  have HN := Lib.hid hn
  clear hp hn
  go_enter Try.func37, Try.ntmps37
  go_upto_region 0 with (fail)
  refine wp_region_lit ?_
  refine ls_ex (some 6) (.int .i64 0) rfl rfl (exec_assign _ rfl (.int .i64 0) rfl) ?_
  go_frame
  refine wpList_nil ?_
  go_upto_region 1 with (fail)
  refine wp_region_lit ?_
  refine ls_ex (some 8) (.int .i64 p) rfl rfl (exec_move _ rfl (.int .i64 p) rfl) ?_
  go_frame
  refine ls_op rfl (fun K' hK' => ?_)
  have lz3 := hB.size
  refine wp_call1 (some 9) rfl 42 _ _ rfl (fun args w => by kernel_rfl) _ rfl _ (l01Prime_c p _) (fun e Wz1 h => ?_)
  obtain ⟨rfl, rfl⟩ := h
  rw [HP.out]
  refine ⟨_, rfl, ?_⟩
  refine hK' _ _ ?_
  clear hK' K'
  go_frame
  refine ls_ex (some 10) (.bool false) rfl rfl (exec_not _ _ rfl true rfl) ?_
  go_frame
  refine ls_ex (some 11) (.bool false) rfl rfl (exec_move _ rfl (.bool false) rfl) ?_
  go_frame
  refine ls_ex_g (some 12) (.int .i64 n) rfl rfl (exec_move _ rfl (.int .i64 n) rfl) ?_
  go_frame
  refine ls_op_g rfl (fun K' hK' => ?_)
  have lz6 := hB.size
  refine wp_call3 (some 13) rfl 43 _ _ _ _ rfl (fun args w => by kernel_rfl) _ _ _ rfl rfl rfl _ (l01In_c n 1 30 _) (fun e Wz4 h => ?_)
  obtain ⟨rfl, rfl⟩ := h
  rw [HN.out]
  refine ⟨_, rfl, ?_⟩
  refine hK' _ _ ?_
  clear hK' K'
  go_frame
  refine ls_ex_g (some 14) (.bool false) rfl rfl (exec_not _ _ rfl true rfl) ?_
  go_frame
  refine ls_ex (some 15) (.bool false) rfl rfl (exec_pick _ _ _ rfl false rfl (.bool false) rfl) ?_
  go_frame
  refine ls_ex (some 16) (.bool false) rfl rfl (exec_move _ rfl (.bool false) rfl) ?_
  go_frame
  refine ls_ex_g (some 17) (.slice A K c) rfl rfl (exec_move _ rfl (.slice A K c) rfl) ?_
  go_frame
  refine ls_ex_g (some 18) (.int .i64 K) rfl rfl (exec_len _ 41 26 rfl A K c rfl Try.underlying41) ?_
  go_frame
  refine ls_ex_g (some 19) (.bool true) rfl rfl (exec_lss _ _ _ _ rfl K 1 rfl rfl true (decide_eq_true (by omega))) ?_
  go_frame
  refine ls_ex (some 20) (.bool true) rfl rfl (exec_pick _ _ _ rfl false rfl (.bool true) rfl) ?_
  go_frame
  refine ls_ex (some 21) (.bool true) rfl rfl (exec_move _ rfl (.bool true) rfl) ?_
  go_frame
  refine ls_skip_g (some 22) rfl rfl ?_
  go_frame
  refine ls_skip_g (some 23) rfl rfl ?_
  go_frame
  refine ls_skip_g (some 24) rfl rfl ?_
  go_frame
  refine ls_ex (some 25) (.bool true) rfl rfl (exec_pick _ _ _ rfl true rfl (.bool true) rfl) ?_
  go_frame
  refine wpList_nil ?_
  go_upto_region 2 with (fail)
  refine wp_region_lit ?_
  refine ls_ex (some 6) (.int .i64 2) rfl rfl (exec_assign _ rfl (.int .i64 2) rfl) ?_
  go_frame
  refine wpList_nil ?_
  go_wp2_with fail
  go_ret
  exact ⟨by rw [lsCode_no HNo.out]; rfl, hB⟩
set_option maxHeartbeats 4000000 in
theorem l07Lists_e (p n : Int) (A : Option Addr) (c K : Nat) (row : Nat → List Int) (w : World) (hm : RdM w A K row) (hK : K ≤ 1048576) (hrl : ∀ i, i < K → (row i).length ≤ 1048576) (hp : primeB p = true) (hn : (decide (1 ≤ n) && decide (n ≤ 30)) = true) (h1 : 30 < K) :
    Calls Try.prog 37 #[.int .i64 p, .int .i64 n, .slice A K c] w (fun e w' => e = .returned (.int .i64 (lsCode p n K row)) ∧ Below w.heap.size w w') := by
  have hB := Below.refl w.heap.size w
  have _u0 := hm
  have _u1 := hK
  have _u2 := hrl
  clear _u0 _u1 _u2
  have HNo : Hid (listsB p n K row = false) := Lib.hid (by unfold listsB; rw [decide_eq_false (show ¬ K ≤ 30 by omega)]; simp)
  have HP := Lib.hid hp
  have HN := Lib.hid hn
  clear hp hn
  go_enter Try.func37, Try.ntmps37
  go_upto_region 0 with (fail)
  refine wp_region_lit ?_
  refine ls_ex (some 6) (.int .i64 0) rfl rfl (exec_assign _ rfl (.int .i64 0) rfl) ?_
  go_frame
  refine wpList_nil ?_
  go_upto_region 1 with (fail)
  refine wp_region_lit ?_
  refine ls_ex (some 8) (.int .i64 p) rfl rfl (exec_move _ rfl (.int .i64 p) rfl) ?_
  go_frame
  refine ls_op rfl (fun K' hK' => ?_)
  have lz3 := hB.size
  refine wp_call1 (some 9) rfl 42 _ _ rfl (fun args w => by kernel_rfl) _ rfl _ (l01Prime_c p _) (fun e Wz1 h => ?_)
  obtain ⟨rfl, rfl⟩ := h
  rw [HP.out]
  refine ⟨_, rfl, ?_⟩
  refine hK' _ _ ?_
  clear hK' K'
  go_frame
  refine ls_ex (some 10) (.bool false) rfl rfl (exec_not _ _ rfl true rfl) ?_
  go_frame
  refine ls_ex (some 11) (.bool false) rfl rfl (exec_move _ rfl (.bool false) rfl) ?_
  go_frame
  refine ls_ex_g (some 12) (.int .i64 n) rfl rfl (exec_move _ rfl (.int .i64 n) rfl) ?_
  go_frame
  refine ls_op_g rfl (fun K' hK' => ?_)
  have lz6 := hB.size
  refine wp_call3 (some 13) rfl 43 _ _ _ _ rfl (fun args w => by kernel_rfl) _ _ _ rfl rfl rfl _ (l01In_c n 1 30 _) (fun e Wz4 h => ?_)
  obtain ⟨rfl, rfl⟩ := h
  rw [HN.out]
  refine ⟨_, rfl, ?_⟩
  refine hK' _ _ ?_
  clear hK' K'
  go_frame
  refine ls_ex_g (some 14) (.bool false) rfl rfl (exec_not _ _ rfl true rfl) ?_
  go_frame
  refine ls_ex (some 15) (.bool false) rfl rfl (exec_pick _ _ _ rfl false rfl (.bool false) rfl) ?_
  go_frame
  refine ls_ex (some 16) (.bool false) rfl rfl (exec_move _ rfl (.bool false) rfl) ?_
  go_frame
  refine ls_ex_g (some 17) (.slice A K c) rfl rfl (exec_move _ rfl (.slice A K c) rfl) ?_
  go_frame
  refine ls_ex_g (some 18) (.int .i64 K) rfl rfl (exec_len _ 41 26 rfl A K c rfl Try.underlying41) ?_
  go_frame
  refine ls_ex_g (some 19) (.bool false) rfl rfl (exec_lss _ _ _ _ rfl K 1 rfl rfl false (decide_eq_false (by omega))) ?_
  go_frame
  refine ls_ex (some 20) (.bool false) rfl rfl (exec_pick _ _ _ rfl false rfl (.bool false) rfl) ?_
  go_frame
  refine ls_ex (some 21) (.bool false) rfl rfl (exec_move _ rfl (.bool false) rfl) ?_
  go_frame
  refine ls_ex_g (some 22) (.slice A K c) rfl rfl (exec_move _ rfl (.slice A K c) rfl) ?_
  go_frame
  refine ls_ex_g (some 23) (.int .i64 K) rfl rfl (exec_len _ 41 26 rfl A K c rfl Try.underlying41) ?_
  go_frame
  refine ls_ex_g (some 24) (.bool true) rfl rfl (exec_gtr _ _ _ _ rfl K 30 rfl rfl true (decide_eq_true (by omega))) ?_
  go_frame
  refine ls_ex (some 25) (.bool true) rfl rfl (exec_pick _ _ _ rfl false rfl (.bool true) rfl) ?_
  go_frame
  refine wpList_nil ?_
  go_upto_region 2 with (fail)
  refine wp_region_lit ?_
  refine ls_ex (some 6) (.int .i64 2) rfl rfl (exec_assign _ rfl (.int .i64 2) rfl) ?_
  go_frame
  refine wpList_nil ?_
  go_wp2_with fail
  go_ret
  exact ⟨by rw [lsCode_no HNo.out]; rfl, hB⟩
set_option maxHeartbeats 4000000 in
theorem l07Lists_f (p n : Int) (A : Option Addr) (c K : Nat) (row : Nat → List Int) (w : World) (hm : RdM w A K row) (hK : K ≤ 1048576) (hrl : ∀ i, i < K → (row i).length ≤ 1048576) (hp : primeB p = true) (hn : (decide (1 ≤ n) && decide (n ≤ 30)) = true) (h1 : 1 ≤ K ∧ K ≤ 30) :
    Calls Try.prog 37 #[.int .i64 p, .int .i64 n, .slice A K c] w (fun e w' => e = .returned (.int .i64 (lsCode p n K row)) ∧ Below w.heap.size w w') := by
  have hB := Below.refl w.heap.size w
  have hp5 := primeB_bounds hp
  have HRl := Lib.hid hrl
  have HP := Lib.hid hp
  have HN := Lib.hid hn
  clear hp hn hrl
  go_enter Try.func37, Try.ntmps37
  go_upto_region 0 with (fail)
  refine wp_region_lit ?_
  refine ls_ex (some 6) (.int .i64 0) rfl rfl (exec_assign _ rfl (.int .i64 0) rfl) ?_
  go_frame
  refine wpList_nil ?_
  go_upto_region 1 with (fail)
  refine wp_region_lit ?_
  refine ls_ex (some 8) (.int .i64 p) rfl rfl (exec_move _ rfl (.int .i64 p) rfl) ?_
  go_frame
  refine ls_op rfl (fun K' hK' => ?_)
  have lz3 := hB.size
  refine wp_call1 (some 9) rfl 42 _ _ rfl (fun args w => by kernel_rfl) _ rfl _ (l01Prime_c p _) (fun e Wz1 h => ?_)
  obtain ⟨rfl, rfl⟩ := h
  rw [HP.out]
  refine ⟨_, rfl, ?_⟩
  refine hK' _ _ ?_
  clear hK' K'
  go_frame
  refine ls_ex (some 10) (.bool false) rfl rfl (exec_not _ _ rfl true rfl) ?_
  go_frame
  refine ls_ex (some 11) (.bool false) rfl rfl (exec_move _ rfl (.bool false) rfl) ?_
  go_frame
  refine ls_ex_g (some 12) (.int .i64 n) rfl rfl (exec_move _ rfl (.int .i64 n) rfl) ?_
  go_frame
  refine ls_op_g rfl (fun K' hK' => ?_)
  have lz6 := hB.size
  refine wp_call3 (some 13) rfl 43 _ _ _ _ rfl (fun args w => by kernel_rfl) _ _ _ rfl rfl rfl _ (l01In_c n 1 30 _) (fun e Wz4 h => ?_)
  obtain ⟨rfl, rfl⟩ := h
  rw [HN.out]
  refine ⟨_, rfl, ?_⟩
  refine hK' _ _ ?_
  clear hK' K'
  go_frame
  refine ls_ex_g (some 14) (.bool false) rfl rfl (exec_not _ _ rfl true rfl) ?_
  go_frame
  refine ls_ex (some 15) (.bool false) rfl rfl (exec_pick _ _ _ rfl false rfl (.bool false) rfl) ?_
  go_frame
  refine ls_ex (some 16) (.bool false) rfl rfl (exec_move _ rfl (.bool false) rfl) ?_
  go_frame
  refine ls_ex_g (some 17) (.slice A K c) rfl rfl (exec_move _ rfl (.slice A K c) rfl) ?_
  go_frame
  refine ls_ex_g (some 18) (.int .i64 K) rfl rfl (exec_len _ 41 26 rfl A K c rfl Try.underlying41) ?_
  go_frame
  refine ls_ex_g (some 19) (.bool false) rfl rfl (exec_lss _ _ _ _ rfl K 1 rfl rfl false (decide_eq_false (by omega))) ?_
  go_frame
  refine ls_ex (some 20) (.bool false) rfl rfl (exec_pick _ _ _ rfl false rfl (.bool false) rfl) ?_
  go_frame
  refine ls_ex (some 21) (.bool false) rfl rfl (exec_move _ rfl (.bool false) rfl) ?_
  go_frame
  refine ls_ex_g (some 22) (.slice A K c) rfl rfl (exec_move _ rfl (.slice A K c) rfl) ?_
  go_frame
  refine ls_ex_g (some 23) (.int .i64 K) rfl rfl (exec_len _ 41 26 rfl A K c rfl Try.underlying41) ?_
  go_frame
  refine ls_ex_g (some 24) (.bool false) rfl rfl (exec_gtr _ _ _ _ rfl K 30 rfl rfl false (decide_eq_false (by omega))) ?_
  go_frame
  refine ls_ex (some 25) (.bool false) rfl rfl (exec_pick _ _ _ rfl false rfl (.bool false) rfl) ?_
  go_frame
  refine wpList_nil ?_
  go_upto_region 3 with (fail)
  refine wp_region_lit ?_
  refine ls_ex (some 7) (.int .i64 0) rfl rfl (exec_assign _ rfl (.int .i64 0) rfl) ?_
  go_frame
  refine wpList_nil ?_
  go_wp2_with fail
  go_loopw [7] (fun s7 wr => ∃ i : Nat, i ≤ K ∧ s7 = .int .i64 i ∧ Below w.heap.size w wr ∧ Hid (∀ x, x < i → (numsB p (row x) && (((row x).length : Int) == n)) = true)) (fun s7 _ => K - (intOf s7).toNat)
  case atStart => exact ⟨0, by omega, rfl, hB, Lib.hid (by omega)⟩
  case round =>
    clear hB
    obtain ⟨i, hi, rfl, hB, HA⟩ := hrel
    by_cases hlt : i < K
    · obtain ⟨b, off, Bx, cx, rfl, hc, hI⟩ := hm.at_ hlt
      have hc9 := hB.cell (p := ⟨b, off + i, none⟩) (block_lt_of_cell hc)
      rw [hc] at hc9
      have Hc := Lib.hid hc9
      have HI := Lib.hid hI
      clear hc hc9
      cases hq : (numsB p (row i) && (((row i).length : Int) == n)) with
      | false =>
        have HNo : Hid (listsB p n K row = false) := Lib.hid (listsB_no hlt hq)
        have HQ := Lib.hid hq
        clear hq
        go_upto_region 4 with (fail)
        refine wp_region_lit ?_
        refine ls_ex (some 26) (.int .i64 i) rfl rfl (exec_move _ rfl (.int .i64 i) rfl) ?_
        go_frame
        refine ls_ex (some 27) (.slice (some ⟨b, off, none⟩) K c) rfl rfl (exec_move _ rfl (.slice (some ⟨b, off, none⟩) K c) rfl) ?_
        go_frame
        refine ls_ex (some 28) (.int .i64 K) rfl rfl (exec_len _ 41 26 rfl ((some ⟨b, off, none⟩)) K c rfl Try.underlying41) ?_
        go_frame
        refine ls_ex (some 29) (.bool true) rfl rfl (exec_lss _ _ _ _ rfl i K rfl rfl true (decide_eq_true (by omega))) ?_
        go_frame
        refine wpList_nil ?_
        go_upto_region 6 with (fail)
        refine wp_region_lit ?_
        refine ls_ex (some 32) (.int .i64 p) rfl rfl (exec_move _ rfl (.int .i64 p) rfl) ?_
        go_frame
        refine ls_ex (some 33) (.slice (some ⟨b, off, none⟩) K c) rfl rfl (exec_move _ rfl (.slice (some ⟨b, off, none⟩) K c) rfl) ?_
        go_frame
        refine ls_ex (some 34) (.int .i64 i) rfl rfl (exec_move _ rfl (.int .i64 i) rfl) ?_
        go_frame
        refine ls_ex (some 35) (.pointer (some ⟨b, off + i * 1, none⟩)) rfl rfl (exec_index_slice _ 26 _ _ rfl b off K c i 1 rfl rfl Try.underlying41 (by kernel_rfl) (by omega)) ?_
        go_frame
        refine ls_ex (some 36) (.slice Bx (row i).length cx) rfl rfl (exec_load_one 26 _ rfl b (off + i * 1) rfl (.slice Bx (row i).length cx) _ Try.underlying26 rfl (by rw [Nat.mul_one]; exact Hc.out)) ?_
        go_frame
        refine ls_ex (some 37) (.int .i64 n) rfl rfl (exec_move _ rfl (.int .i64 n) rfl) ?_
        go_frame
        refine ls_op rfl (fun K' hK' => ?_)
        have lz9 := hB.size
        refine wp_call3 (some 38) rfl 25 _ _ _ _ rfl (fun args w => by kernel_rfl) _ _ _ rfl rfl rfl _ (l05Numbers_c p n Bx cx (row i) _ (by omega) (hI.keep hB) (HRl.out i hlt)) (fun e Wz7 h => ?_)
        obtain ⟨rfl, bz8⟩ := h
        replace hB := below_after hB bz8
        rw [HQ.out]
        clear bz8
        refine ⟨_, rfl, ?_⟩
        refine hK' _ _ ?_
        clear hK' K'
        go_frame
        refine ls_ex (some 39) (.bool true) rfl rfl (exec_not _ _ rfl false rfl) ?_
        go_frame
        refine wpList_nil ?_
        go_upto_region 7 with (fail)
        refine wp_region_lit ?_
        refine ls_ex (some 6) (.int .i64 2) rfl rfl (exec_assign _ rfl (.int .i64 2) rfl) ?_
        go_frame
        refine wpList_nil ?_
        go_wp2_with fail
        go_ret
        exact ⟨by rw [lsCode_no HNo.out]; rfl, hB⟩
      | true =>
        have HS : Hid (∀ x, x < i + 1 → (numsB p (row x) && (((row x).length : Int) == n)) = true) := Lib.hid (fun x hx => by by_cases e : x = i; subst e; exact hq; exact HA.out x (by omega))
        have HQ := Lib.hid hq
        clear hq
        go_upto_region 4 with (fail)
        refine wp_region_lit ?_
        refine ls_ex (some 26) (.int .i64 i) rfl rfl (exec_move _ rfl (.int .i64 i) rfl) ?_
        go_frame
        refine ls_ex (some 27) (.slice (some ⟨b, off, none⟩) K c) rfl rfl (exec_move _ rfl (.slice (some ⟨b, off, none⟩) K c) rfl) ?_
        go_frame
        refine ls_ex (some 28) (.int .i64 K) rfl rfl (exec_len _ 41 26 rfl ((some ⟨b, off, none⟩)) K c rfl Try.underlying41) ?_
        go_frame
        refine ls_ex (some 29) (.bool true) rfl rfl (exec_lss _ _ _ _ rfl i K rfl rfl true (decide_eq_true (by omega))) ?_
        go_frame
        refine wpList_nil ?_
        go_upto_region 6 with (fail)
        refine wp_region_lit ?_
        refine ls_ex (some 32) (.int .i64 p) rfl rfl (exec_move _ rfl (.int .i64 p) rfl) ?_
        go_frame
        refine ls_ex (some 33) (.slice (some ⟨b, off, none⟩) K c) rfl rfl (exec_move _ rfl (.slice (some ⟨b, off, none⟩) K c) rfl) ?_
        go_frame
        refine ls_ex (some 34) (.int .i64 i) rfl rfl (exec_move _ rfl (.int .i64 i) rfl) ?_
        go_frame
        refine ls_ex (some 35) (.pointer (some ⟨b, off + i * 1, none⟩)) rfl rfl (exec_index_slice _ 26 _ _ rfl b off K c i 1 rfl rfl Try.underlying41 (by kernel_rfl) (by omega)) ?_
        go_frame
        refine ls_ex (some 36) (.slice Bx (row i).length cx) rfl rfl (exec_load_one 26 _ rfl b (off + i * 1) rfl (.slice Bx (row i).length cx) _ Try.underlying26 rfl (by rw [Nat.mul_one]; exact Hc.out)) ?_
        go_frame
        refine ls_ex (some 37) (.int .i64 n) rfl rfl (exec_move _ rfl (.int .i64 n) rfl) ?_
        go_frame
        refine ls_op rfl (fun K' hK' => ?_)
        have lz12 := hB.size
        refine wp_call3 (some 38) rfl 25 _ _ _ _ rfl (fun args w => by kernel_rfl) _ _ _ rfl rfl rfl _ (l05Numbers_c p n Bx cx (row i) _ (by omega) (hI.keep hB) (HRl.out i hlt)) (fun e Wz10 h => ?_)
        obtain ⟨rfl, bz11⟩ := h
        replace hB := below_after hB bz11
        rw [HQ.out]
        clear bz11
        refine ⟨_, rfl, ?_⟩
        refine hK' _ _ ?_
        clear hK' K'
        go_frame
        refine ls_ex (some 39) (.bool false) rfl rfl (exec_not _ _ rfl true rfl) ?_
        go_frame
        refine wpList_nil ?_
        go_upto_region 5 with (fail)
        refine wp_region_lit ?_
        refine ls_ex (some 30) (.int .i64 i) rfl rfl (exec_move _ rfl (.int .i64 i) rfl) ?_
        go_frame
        refine ls_ex (some 31) (.int .i64 (i + 1)) rfl rfl (exec_add _ _ _ _ rfl i 1 (i + 1) rfl rfl (IntWalk.i64_in _ (by omega))) ?_
        go_frame
        refine ls_ex (some 7) (.int .i64 (i + 1)) rfl rfl (exec_assign _ rfl (.int .i64 (i + 1)) rfl) ?_
        go_frame
        refine wpList_nil ?_
        go_wp2_with fail
        go_roundw
        case rel => exact ⟨i + 1, by omega, by go_num, hB, HS⟩
        case measure => simp [intOf]; omega
    · have HY : Hid (listsB p n K row = true) := Lib.hid (listsB_yes HP.out HN.out (by omega) (by omega) (fun x hx => HA.out x (by omega)))
      clear HA
      go_upto_region 4 with (fail)
      refine wp_region_lit ?_
      refine ls_ex (some 26) (.int .i64 i) rfl rfl (exec_move _ rfl (.int .i64 i) rfl) ?_
      go_frame
      refine ls_ex (some 27) (.slice A K c) rfl rfl (exec_move _ rfl (.slice A K c) rfl) ?_
      go_frame
      refine ls_ex (some 28) (.int .i64 K) rfl rfl (exec_len _ 41 26 rfl A K c rfl Try.underlying41) ?_
      go_frame
      refine ls_ex (some 29) (.bool false) rfl rfl (exec_lss _ _ _ _ rfl i K rfl rfl false (decide_eq_false (by omega))) ?_
      go_frame
      refine wpList_nil ?_
      go_upto_region 8 with (fail)
      refine wp_region_lit ?_
      refine ls_ex (some 6) (.int .i64 0) rfl rfl (exec_assign _ rfl (.int .i64 0) rfl) ?_
      go_frame
      refine wpList_nil ?_
      go_wp2_with fail
      go_ret
      exact ⟨by rw [lsCode_yes HY.out]; rfl, hB⟩
theorem l07Lists_c (p n : Int) (A : Option Addr) (c K : Nat) (row : Nat → List Int) (w : World) (hm : RdM w A K row) (hK : K ≤ 1048576) (hrl : ∀ i, i < K → (row i).length ≤ 1048576) : Calls Try.prog 37 #[.int .i64 p, .int .i64 n, .slice A K c] w (fun e w' => e = .returned (.int .i64 (lsCode p n K row)) ∧ Below w.heap.size w w') := by
  cases hp : primeB p with
  | false => exact l07Lists_a p n A c K row w hm hK hrl hp
  | true =>
    cases hn : (decide (1 ≤ n) && decide (n ≤ 30)) with
    | false => exact l07Lists_b p n A c K row w hm hK hrl hp hn
    | true =>
      by_cases h1 : K < 1
      · exact l07Lists_d p n A c K row w hm hK hrl hp hn h1
      · by_cases h2 : 30 < K
        · exact l07Lists_e p n A c K row w hm hK hrl hp hn h2
        · exact l07Lists_f p n A c K row w hm hK hrl hp hn (by omega)
set_option maxHeartbeats 25600000 in
theorem l07Plain_c (p : Int) (N : Nat) (A : Option Addr) (c K : Nat) (row : Nat → List Int) (w : World) (hm : RdM w A K row) (hpr : listsB p (N : Int) K row = true) :
    Calls Try.prog 38 #[.int .i64 p, .int .i64 (N : Int), .slice A K c] w (fun e w' => ∃ v u, e = .returned (.agg #[.int .i64 p, .int .i64 (N : Int), v, u]) ∧ OwnK 66 3 w' w.heap.size v (plSt p N row K).1 ∧ OwnK 68 2 w' w.heap.size u (plSt p N row K).2 ∧ Below w.heap.size w w') := by
  have hB := Below.refl w.heap.size w
  have hll := listsB_parts hpr
  have hp5 := primeB_bounds hll.1
  have HPr := Lib.hid hll.1
  have hn9 := hll.2.1
  have hk9 := hll.2.2.1
  have HRow := Lib.hid hll.2.2.2
  have HM := Lib.hid hm
  clear hll hpr
  go_enter Try.func38, Try.ntmps38
  go_upto_region 0 with (fail)
  refine wp_region_lit ?_
  refine ls_op rfl (fun K' hK' => ?_)
  have lz1 := hB.size
  refine wp_new (some 6) rfl (al_impl_Program rfl) (fun Wz2 nnz3 => ?_)
  have bz4 := nnz3.below (Below.refl _ _) (Nat.le_refl _)
  replace hB := below_after hB bz4
  have hz5 : At Wz2 w.heap.size (.cells #[.int .i64 0, .int .i64 0, .slice none 0 0, .slice none 0 0] 33 (0, 0)) := nnz3.at_
  refine hK' _ _ ?_
  clear hK' K' nnz3 bz4
  go_frame
  refine wpList_nil ?_
  go_upto_region 1 with (fail)
  refine wp_region_lit ?_
  refine ls_ex (some 9) (.int .i64 p) rfl rfl (exec_move _ rfl (.int .i64 p) rfl) ?_
  go_frame
  refine ls_ex (some 10) (.int .i64 (N : Int)) rfl rfl (exec_move _ rfl (.int .i64 (N : Int)) rfl) ?_
  go_frame
  refine ls_op rfl (fun K' hK' => ?_)
  have lz6 := hB.size
  have lz7 := hz5.lt
  refine wp_new (some 11) rfl (exec_bs0Step rfl) (fun Wz8 nnz9 => ?_)
  have bz10 := nnz9.below (Below.refl _ _) (Nat.le_refl _)
  skip
  replace hB := below_after hB bz10
  replace hz5 := hz5.after bz10
  have hv : OwnK 66 3 Wz8 Wz2.heap.size (.slice (some ⟨Wz2.heap.size, 0, none⟩) 0 0) [] := (own_bs0Step nnz9).mono (by omega)
  have hz : Wz2.heap.size ≤ Wz8.heap.size := by have := nnz9.at_.lt; omega
  refine hK' _ _ ?_
  clear hK' K' nnz9 bz10
  go_frame
  refine ls_op rfl (fun K' hK' => ?_)
  have lz11 := hB.size
  have lz12 := hz5.lt
  refine wp_new (some 12) rfl (exec_bs0Output rfl) (fun Wz13 nnz14 => ?_)
  have bz15 := nnz14.below (Below.refl _ _) (Nat.le_refl _)
  have hz0 := hz
  replace hB := below_after hB bz15
  replace hz5 := hz5.after bz15
  replace hv := hv.below bz15
  replace hz := size_after hz bz15
  have hu : OwnK 68 2 Wz13 Wz2.heap.size (.slice (some ⟨Wz8.heap.size, 0, none⟩) 0 0) [] := (own_bs0Output nnz14).mono (by omega)
  refine hK' _ _ ?_
  clear hK' K' nnz14 bz15
  go_frame
  refine ls_ex (some 13) (.agg #[.int .i64 p, .int .i64 (N : Int), .slice (some ⟨Wz2.heap.size, 0, none⟩) 0 0, .slice (some ⟨Wz8.heap.size, 0, none⟩) 0 0]) rfl rfl (exec_build_prog _ _ _ _ rfl p (N : Int) _ _ _ _ _ _ rfl rfl rfl rfl) ?_
  go_frame
  refine ls_op rfl (fun K' hK' => ?_)
  have lz16 := hB.size
  have lz17 := hz5.lt
  have naz22 := hv.away_new
  have naz23 := hu.away_new
  refine wp_new (some 7) rfl (al_impl_Program rfl) (fun Wz18 nnz19 => ?_)
  have bz20 := nnz19.below (Below.refl _ _) (Nat.le_refl _)
  replace hB := below_after hB bz20
  replace hz5 := hz5.after bz20
  replace hv := hv.below bz20
  replace hz := size_after hz bz20
  replace hu := hu.below bz20
  have hz21 : At Wz18 Wz13.heap.size (.cells #[.int .i64 0, .int .i64 0, .slice none 0 0, .slice none 0 0] 33 (0, 0)) := nnz19.at_
  refine hK' _ _ ?_
  clear hK' K' nnz19 bz20
  go_frame
  refine ls_op rfl (fun K' hK' => ?_)
  refine wp_store_all 33 _ _ rfl rfl Wz13.heap.size rfl #[.int .i64 p, .int .i64 (N : Int), .slice (some ⟨Wz2.heap.size, 0, none⟩) 0 0, .slice (some ⟨Wz8.heap.size, 0, none⟩) 0 0] rfl _ _ hz21 4 (by kernel_rfl) rfl rfl (by intro x hx; simp at hx; rcases hx with rfl | rfl | rfl | rfl <;> rfl) (fun Wz24 pz25 => ?_)
  replace hB := pz25.below hB (by omega)
  replace hz5 := pz25.other hz5 (by omega)
  replace hv := hv.put pz25 naz22
  replace hz : Wz2.heap.size ≤ Wz24.heap.size := Nat.le_trans hz (Nat.le_of_eq (pz25.size rfl).symm)
  replace hu := hu.put pz25 naz23
  replace hz21 : At Wz24 Wz13.heap.size (.cells #[.int .i64 p, .int .i64 (N : Int), .slice (some ⟨Wz2.heap.size, 0, none⟩) 0 0, .slice (some ⟨Wz8.heap.size, 0, none⟩) 0 0] 33 (0, 0)) := pz25.at_
  refine hK' _ _ ?_
  clear hK' K' pz25
  refine wpList_nil ?_
  go_upto_region 2 with (fail)
  refine wp_region_lit ?_
  refine ls_ex (some 8) (.int .i64 0) rfl rfl (exec_assign _ rfl (.int .i64 0) rfl) ?_
  go_frame
  refine wpList_nil ?_
  go_wp2_with fail
  go_loopw [8] (fun s8 wr => ∃ (i : Nat) (vv uu : Value), i ≤ K ∧ s8 = .int .i64 i ∧ Below w.heap.size w wr ∧ Wz2.heap.size ≤ wr.heap.size ∧ At wr Wz13.heap.size (.cells #[.int .i64 p, .int .i64 (N : Int), vv, uu] 33 (0, 0)) ∧ At wr w.heap.size (.cells #[.int .i64 0, .int .i64 0, .slice none 0 0, .slice none 0 0] 33 (0, 0)) ∧ OwnK 66 3 wr Wz2.heap.size vv (plSt p N row i).1 ∧ OwnK 68 2 wr Wz2.heap.size uu (plSt p N row i).2) (fun s8 _ => K - (intOf s8).toNat)
  case atStart => exact ⟨0, _, _, by omega, rfl, hB, hz, hz21, hz5, hv, hu⟩
  case round =>
    clear hB hz5 hv hz hu hz21
    obtain ⟨i, vv, uu, hi, rfl, hB, hz, h7, hR, hv, hu⟩ := hrel
    by_cases hlt : i < K
    · obtain ⟨b, off, bx, offx, cx, rfl, hc, hI⟩ := rdM_row HM.out hlt (HRow.out i hlt).1 (by omega)
      have Hc := Lib.hid hc
      have HI := Lib.hid hI
      have hpl := plSt_len p N row i
      have hpo := plSt_len2 p N row i
      have hiN : i * N ≤ 30 * 30 := Nat.mul_le_mul (by omega) (by omega)
      have HRl9 := (HRow.out i hlt).1
      have HRN := Lib.hid (HRow.out i hlt).2
      clear hc hI
      have HPS : Hid ((plSt p N row (i + 1)) = ((rowSt p N (row i) (plSt p N row i).1 N).ss, (plSt p N row i).2 ++ [[(rowSt p N (row i) (plSt p N row i).1 N).v, (rowSt p N (row i) (plSt p N row i).1 N).f]])) := Lib.hid rfl
      go_upto_region 3 with (fail)
      refine wp_region_lit ?_
      refine ls_ex (some 14) (.int .i64 i) rfl rfl (exec_move _ rfl (.int .i64 i) rfl) ?_
      go_frame
      refine ls_ex (some 15) (.slice (some ⟨b, off, none⟩) K c) rfl rfl (exec_move _ rfl (.slice (some ⟨b, off, none⟩) K c) rfl) ?_
      go_frame
      refine ls_ex (some 16) (.int .i64 K) rfl rfl (exec_len _ 41 26 rfl ((some ⟨b, off, none⟩)) K c rfl Try.underlying41) ?_
      go_frame
      refine ls_ex (some 17) (.bool true) rfl rfl (exec_lss _ _ _ _ rfl i K rfl rfl true (decide_eq_true (by omega))) ?_
      go_frame
      refine wpList_nil ?_
      go_upto_region 5 with (fail)
      refine wp_region_y (zs := [5, 6]) (S := fun w' => Below w.heap.size w w') (S2 := fun w' => At w' Wz13.heap.size (.cells #[.int .i64 p, .int .i64 (N : Int), vv, uu] 33 (0, 0))) (by kernel_rfl) ?_
      change wpAnyY _ _ _ _ _ _ _ _ _ _ (World.drew _)
      generalize hwdz26 : World.drew _ = wdz26
      replace hB : Below w.heap.size w wdz26 := by rw [← hwdz26]; exact hB.drew
      replace hz : Wz2.heap.size ≤ wdz26.heap.size := by rw [← hwdz26]; exact hz
      replace h7 : At wdz26 Wz13.heap.size (.cells #[.int .i64 p, .int .i64 (N : Int), vv, uu] 33 (0, 0)) := by rw [← hwdz26]; exact h7
      replace hR : At wdz26 w.heap.size (.cells #[.int .i64 0, .int .i64 0, .slice none 0 0, .slice none 0 0] 33 (0, 0)) := by rw [← hwdz26]; exact hR
      replace hv : OwnK 66 3 wdz26 Wz2.heap.size vv (plSt p N row i).1 := by rw [← hwdz26]; exact hv.drew
      replace hu : OwnK 68 2 wdz26 Wz2.heap.size uu (plSt p N row i).2 := by rw [← hwdz26]; exact hu.drew
      clear hwdz26
      refine y_yield3 0 (some 20) (.agg #[.int .i64 p, .int .i64 (N : Int), vv, uu]) rfl 7 (by kernel_rfl) (by kernel_rfl) (by kernel_rfl) (by kernel_rfl) (by kernel_rfl) (fun _ _ _ h => h) rfl rfl hB h7 (fun w' h' h2' => exec_load_all 33 _ rfl Wz13.heap.size rfl _ _ _ h2' Try.underlying33 rfl 4 (by kernel_rfl) rfl) ?_
      go_frame
      refine y_yield 1 (some 21) (.slice (some ⟨b, off, none⟩) K c) rfl (by kernel_rfl) (by kernel_rfl) (by kernel_rfl) (fun _ _ _ h => h) rfl rfl hB (fun w' h' => exec_move _ rfl (.slice (some ⟨b, off, none⟩) K c) rfl) ?_
      go_frame
      refine y_yield 2 (some 22) (.int .i64 i) rfl (by kernel_rfl) (by kernel_rfl) (by kernel_rfl) (fun _ _ _ h => h) rfl rfl hB (fun w' h' => exec_move _ rfl (.int .i64 i) rfl) ?_
      go_frame
      refine y_yield 3 (some 23) (.pointer (some ⟨b, off + i * 1, none⟩)) rfl (by kernel_rfl) (by kernel_rfl) (by kernel_rfl) (fun _ _ _ h => h) rfl rfl hB (fun w' h' => exec_index_slice _ 26 _ _ rfl b off K c i 1 rfl rfl Try.underlying41 (by kernel_rfl) (by omega)) ?_
      go_frame
      refine y_yield 4 (some 24) (.slice (some ⟨bx, offx, none⟩) N cx) rfl (by kernel_rfl) (by kernel_rfl) (by kernel_rfl) (fun _ _ _ h => h) rfl rfl hB (fun w' h' => exec_load_one 26 _ rfl b (off + i * 1) rfl (.slice (some ⟨bx, offx, none⟩) N cx) _ Try.underlying26 rfl (by rw [Nat.mul_one]; exact cell_keepB h' Hc.out)) ?_
      go_frame
      refine y_oper 5 (by kernel_rfl) rfl rfl (fun K' hK' => ?_)
      have lz28 := hB.size
      have lz29 := h7.lt
      have lz30 := hR.lt
      refine wp_call2 (some 25) rfl 60 _ _ _ rfl (fun args w => by kernel_rfl) _ _ rfl rfl _ (by have h9 := l07Row_c p N Wz2.heap.size vv uu (plSt p N row i).1 (plSt p N row i).2 bx offx cx (row i) _ hv hu hz (fun w' hb => HI.out.keep (hB.trans (below_mono hb (by omega)))) HPr.out (by omega) (by omega) (by omega) (by omega) HRN.out; rw [HRl9] at h9; exact h9) (fun e Wz27 h => ?_)
      obtain ⟨v2, u2, rfl, hv2, hu2, hL2, hF2⟩ := h
      replace hB := hB.trans (below_mono hL2 (by omega))
      replace hz := Nat.le_trans hz hL2.size
      replace h7 := hF2 _ _ _ h7 (by decide) (by decide)
      replace hR := hF2 _ _ _ hR (by decide) (by decide)
      replace hv := hv2
      replace hu := hu2
      clear hL2 hF2 hv2 hu2
      obtain ⟨n7, hn71, hn72⟩ : ∃ n7, n7 ≤ (plSt p N row (i + 1)).1.length ∧ (plSt p N row (i + 1)).1.length ≤ n7 := ⟨_, Nat.le_refl _, Nat.le_refl _⟩
      rw [HPS.out] at hn71 hn72
      obtain ⟨An7, cn7, rfl⟩ := OwnK.rdN hv (n := n7) (by show (rowSt p N (row i) (plSt p N row i).1 N).ss.length = n7; have h8 := hn71; have h9 := hn72; simp only at h8 h9; omega)
      obtain ⟨An8, cn8, rfl⟩ := OwnK.rdN hu (n := i + 1) (by rw [List.length_append, hpo]; rfl)
      refine ⟨_, rfl, ?_⟩
      refine hK' _ _ hB (fun h => absurd (by decide) h) ?_
      clear hK' K'
      go_frame
      refine y_oper 6 (by kernel_rfl) rfl rfl (fun K' hK' => ?_)
      refine wp_store_all 33 _ _ rfl rfl Wz13.heap.size rfl #[.int .i64 p, .int .i64 (N : Int), .slice An7 n7 cn7, .slice An8 (i + 1) cn8] rfl _ _ h7 4 (by kernel_rfl) rfl rfl (by intro x hx; simp at hx; rcases hx with rfl | rfl | rfl | rfl <;> rfl) (fun Wz31 pz32 => ?_)
      replace hB := pz32.below hB (by omega)
      replace hz : Wz2.heap.size ≤ Wz31.heap.size := Nat.le_trans hz (Nat.le_of_eq (pz32.size rfl).symm)
      replace hR := pz32.other hR (by omega)
      replace hv := hv.put pz32 (hv.off h7 (by decide))
      replace hu := hu.put pz32 (hu.off h7 (by decide))
      replace h7 : At Wz31 Wz13.heap.size (.cells #[.int .i64 p, .int .i64 (N : Int), .slice An7 n7 cn7, .slice An8 (i + 1) cn8] 33 (0, 0)) := pz32.at_
      refine hK' _ _ hB (fun h => absurd (by decide) h) ?_
      clear hK' K' pz32
      refine y_done (by kernel_rfl) ?_ _
      go_upto_region 4 with (fail)
      refine wp_region_lit ?_
      refine ls_ex (some 18) (.int .i64 i) rfl rfl (exec_move _ rfl (.int .i64 i) rfl) ?_
      go_frame
      refine ls_ex (some 19) (.int .i64 (i + 1)) rfl rfl (exec_add _ _ _ _ rfl i 1 (i + 1) rfl rfl (IntWalk.i64_in _ (by omega))) ?_
      go_frame
      refine ls_ex (some 8) (.int .i64 (i + 1)) rfl rfl (exec_assign _ rfl (.int .i64 (i + 1)) rfl) ?_
      go_frame
      refine wpList_nil ?_
      go_wp2_with fail
      go_roundw
      case rel => exact ⟨i + 1, _, _, by omega, by go_num, hB, hz, h7, hR, by rw [HPS.out]; exact hv, by rw [HPS.out]; exact hu⟩
      case measure => simp [intOf]; omega
    · have hiK : i = K := by omega
      have hpl := plSt_len p N row i
      have hpo := plSt_len2 p N row i
      obtain ⟨n7, hn71, hn72⟩ : ∃ n7, n7 ≤ (plSt p N row i).1.length ∧ (plSt p N row i).1.length ≤ n7 := ⟨_, Nat.le_refl _, Nat.le_refl _⟩
      obtain ⟨n8, hn81, hn82⟩ : ∃ n8, n8 ≤ (plSt p N row i).2.length ∧ (plSt p N row i).2.length ≤ n8 := ⟨_, Nat.le_refl _, Nat.le_refl _⟩
      obtain ⟨An7, cn7, rfl⟩ := OwnK.rdN hv (n := n7) (by omega)
      obtain ⟨An8, cn8, rfl⟩ := OwnK.rdN hu (n := n8) (by omega)
      have HiK := Lib.hid hiK
      clear hiK
      go_upto_region 3 with (fail)
      refine wp_region_lit ?_
      refine ls_ex (some 14) (.int .i64 i) rfl rfl (exec_move _ rfl (.int .i64 i) rfl) ?_
      go_frame
      refine ls_ex (some 15) (.slice A K c) rfl rfl (exec_move _ rfl (.slice A K c) rfl) ?_
      go_frame
      refine ls_ex (some 16) (.int .i64 K) rfl rfl (exec_len _ 41 26 rfl A K c rfl Try.underlying41) ?_
      go_frame
      refine ls_ex (some 17) (.bool false) rfl rfl (exec_lss _ _ _ _ rfl i K rfl rfl false (decide_eq_false (by omega))) ?_
      go_frame
      refine wpList_nil ?_
      go_upto_region 6 with (fail)
      refine wp_region_lit ?_
      refine ls_ex (some 26) (.agg #[.int .i64 p, .int .i64 (N : Int), .slice An7 n7 cn7, .slice An8 n8 cn8]) rfl rfl (exec_load_all 33 _ rfl Wz13.heap.size rfl _ _ _ h7 Try.underlying33 rfl 4 (by kernel_rfl) rfl) ?_
      go_frame
      refine ls_op rfl (fun K' hK' => ?_)
      refine wp_store_all 33 _ _ rfl rfl w.heap.size rfl #[.int .i64 p, .int .i64 (N : Int), .slice An7 n7 cn7, .slice An8 n8 cn8] rfl _ _ hR 4 (by kernel_rfl) rfl rfl (by intro x hx; simp at hx; rcases hx with rfl | rfl | rfl | rfl <;> rfl) (fun Wz33 pz34 => ?_)
      replace hB := pz34.below hB (by omega)
      replace hz : Wz2.heap.size ≤ Wz33.heap.size := Nat.le_trans hz (Nat.le_of_eq (pz34.size rfl).symm)
      replace h7 := pz34.other h7 (by omega)
      replace hv := hv.put pz34 (hv.off hR (by decide))
      replace hu := hu.put pz34 (hu.off hR (by decide))
      replace hR : At Wz33 w.heap.size (.cells #[.int .i64 p, .int .i64 (N : Int), .slice An7 n7 cn7, .slice An8 n8 cn8] 33 (0, 0)) := pz34.at_
      refine hK' _ _ ?_
      clear hK' K' pz34
      refine wpList_nil ?_
      go_wp2_with fail
      refine bodyPost_ret (results_at rfl _ _ w.heap.size _ _ _ rfl hR Try.underlying33 rfl 4 (by kernel_rfl) rfl) rfl ?_
      rw [HiK.out] at hv hu
      exact ⟨_, _, rfl, hv.mono (by omega), hu.mono (by omega), hB⟩
end Go.Proofs.Ytoaibfbamecdlaa
