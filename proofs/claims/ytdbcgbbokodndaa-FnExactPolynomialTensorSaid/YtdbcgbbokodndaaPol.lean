/-
  PolynomialTensor of both sides. (Made by mkpol.py.)
-/
import Derived.Test.YtdbcgbbokodndaaOnePol
import Derived.Test.YtdbcgbbokodndaaTenK
import Derived.Test.YtdbcgbbokodndaaTen3
namespace Go.Proofs.Ytdbcgbbokodndaa
open Go.RowKit
set_option maxRecDepth 100000
theorem sideB_in9 {n : Int} (h : sideB n = true) : 1 ≤ n ∧ n ≤ 9 := by simpa [sideB] using h
attribute [local irreducible] wpList
theorem isBetween_c (a n b : Int) (w : World) : Calls Try.prog 44 #[.int .i64 a, .int .i64 n, .int .i64 b] w fun e w' => e = .returned (.bool (decide (a ≤ n) && decide (n ≤ b))) ∧ w = w' := by
  by_cases h : a ≤ n
  · have h1 : decide (a ≤ n) = true := by simp [h]
    go_enter Try.func44, Try.ntmps44
    go_wp2_with fail
    go_ret
    exact ⟨by simp [h], rfl⟩
  · have h1 : decide (a ≤ n) = false := by simp [h]
    go_enter Try.func44, Try.ntmps44
    go_wp2_with fail
    go_ret
    exact ⟨by simp, rfl⟩
theorem isBetween9_c (n : Int) (w : World) : Calls Try.prog 44 #[.int .i64 1, .int .i64 n, .int .i64 9] w fun e w' => e = .returned (.bool (sideB n)) ∧ w = w' := isBetween_c 1 n 9 w

def tZ (code x : Int) : Int := if code = 0 then x else 0
def tL (code : Int) (l : List Int) : List Int := if code = 0 then l else []
theorem tL_len {code : Int} {l : List Int} {N : Nat} (h : code = 0 → l.length ≤ N) : (tL code l).length ≤ N := by
  unfold tL
  split
  · exact h (by assumption)
  · simp

def polB (i j k : Nat) : Bool := i + j == k
def polCode (p n m : Int) : Int := if (primeB p && sideB n && sideB m) = true then (if sideB (n + m - 1) = true then 0 else 3) else 2
def polL (p : Int) (n m K : Nat) : List Int := genL m K p (oneF polB) (n * m * K)
/-- The numbers behind so many rounds. -/
def polP (n m K c : Nat) : List Int := (List.range (n * m * K)).map fun t => if t / K < c ∧ t % K = t / K / m + t / K % m then 1 else 0
theorem polP_len (n m K c : Nat) : (polP n m K c).length = n * m * K := by simp [polP]
theorem polP_zero (n m K : Nat) : polP n m K 0 = List.replicate (n * m * K) 0 := by
  apply List.ext_getElem
  · simp [polP]
  · intro t h1 h2
    simp [polP]
theorem pdm_div {q n r : Nat} (h : r < n) : (q * n + r) / n = q := by rw [Nat.mul_comm, Nat.mul_add_div (by omega), Nat.div_eq_of_lt h]; omega
theorem pdm_mod {q n r : Nat} (h : r < n) : (q * n + r) % n = r := by rw [Nat.mul_comm, Nat.mul_add_mod]; exact Nat.mod_eq_of_lt h
theorem polP_step {n m K a b : Nat} (hb : b < m) (hK : a + b < K) : (polP n m K (a * m + b)).set ((a * m + b) * K + (a + b)) 1 = polP n m K (a * m + b + 1) := by
  apply List.ext_getElem
  · simp [polP]
  · intro t h1 h2
    rw [List.getElem_set]
    have d1 := pdm_div (q := a * m + b) hK
    have d2 := pdm_mod (q := a * m + b) hK
    have d3 := pdm_div (q := a) hb
    have d4 := pdm_mod (q := a) hb
    by_cases e : (a * m + b) * K + (a + b) = t
    · rw [if_pos e]
      simp only [polP, List.getElem_map, List.getElem_range, ← e, d1, d2, d3, d4]
      simp
    · rw [if_neg e]
      simp only [polP, List.getElem_map, List.getElem_range]
      by_cases h3 : t / K < a * m + b
      · have h4 : t / K < a * m + b + 1 := by omega
        simp only [h3, h4, true_and]
      · by_cases h4 : t / K = a * m + b
        · have h5 : t % K ≠ t / K / m + t / K % m := fun h => e (by
            rw [h4, d3, d4] at h
            have := Nat.div_add_mod t K
            rw [h4, h, Nat.mul_comm] at this
            exact this)
          simp [h5]
        · simp only [h3, false_and, if_false]
          rw [if_neg (fun h => by have := h.1; omega)]
theorem polP_end {p : Int} {n m K : Nat} (hp : 2 ≤ p) : polP n m K (n * m) = polL p n m K := by
  apply List.ext_getElem
  · simp [polP, polL, genL]
  · intro t h1 h2
    have ht : t < n * m * K := by rw [polP_len] at h1; exact h1
    have hq : t / K < n * m := Nat.div_lt_of_lt_mul (by rw [Nat.mul_comm]; exact ht)
    simp only [polP, polL, genL, gen, List.getElem_map, List.getElem_range, oneF, polB, beq_iff_eq]
    simp only [hq, true_and]
    by_cases e : t % K = t / K / m + t / K % m
    · rw [if_pos e, if_pos e.symm]; exact (Int.emod_eq_of_lt (by omega) (by omega)).symm
    · rw [if_neg e, if_neg (fun h => e h.symm)]; simp
theorem polL_len (p : Int) (n m K : Nat) : (polL p n m K).length = n * m * K := by simp [polL, genL]
theorem pol1_c (i j k : Nat) (w : World) (hi : i < 9) (hj : j < 9) : Calls Try.prog 52 #[.int .i64 i, .int .i64 j, .int .i64 k] w fun e w' => e = .returned (.bool (polB i j k)) ∧ Below w.heap.size w w' := by
  have e1 : IntKind.i64.wrap ((i : Int) + (j : Int)) = (i : Int) + (j : Int) := IntWalk.i64_in _ (by omega)
  by_cases h : i + j = k
  · have h1 : (((i : Int) + (j : Int)) == (k : Int)) = true := by simp; omega
    have HV : Hid (polB i j k = true) := Lib.hid (by simp [polB, h])
    clear h
    go_enter Try.func52, Try.ntmps52
    go_wp2_with fail
    go_ret
    exact ⟨by rw [HV.out]; rfl, Below.refl _ _⟩
  · have h1 : (((i : Int) + (j : Int)) == (k : Int)) = false := by simp; omega
    have HV : Hid (polB i j k = false) := Lib.hid (by simp [polB, h])
    clear h
    go_enter Try.func52, Try.ntmps52
    go_wp2_with fail
    go_ret
    exact ⟨by rw [HV.out]; rfl, Below.refl _ _⟩
theorem exec_build_box3p {o : Oper} {a : Act} {w : World} (x y z : Operand) (ho : o.op = .build 68 #[(0, x), (1, y), (2, z)]) (n m k : Int) (hx : a.eval x = .int .i64 n) (hy : a.eval y = .int .i64 m) (hz : a.eval z = .int .i64 k) :
    (execOp a.eval o).run Try.prog w = .ok (.value (.agg #[.int .i64 n, .int .i64 m, .int .i64 k])) w := by
  have hb : Try.prog.built 68 [(0, .int .i64 n), (1, .int .i64 m), (2, .int .i64 k)] = some #[.int .i64 n, .int .i64 m, .int .i64 k] := by kernel_rfl
  unfold execOp
  have := run_build (P := Try.prog) w 68 #[(0, .int .i64 n), (1, .int .i64 m), (2, .int .i64 k)] _ hb
  simp [ho, hx, hy, hz, this]
theorem l01In_side9 (n : Int) (w : World) : Calls Try.prog 39 #[.int .i64 n, .int .i64 1, .int .i64 9] w fun e w' => e = .returned (.bool (sideB n)) ∧ w = w' := l01In_c n 1 9 w
set_option maxHeartbeats 4000000 in
theorem specPol_a (p n m : Int) (w : World) (hp : primeB p = false) :
    Calls Try.prog 23 #[.int .i64 p, .int .i64 n, .int .i64 m] w (ResT w (tZ (polCode p n m) p) (tZ (polCode p n m) n) (tZ (polCode p n m) m) (tZ (polCode p n m) (n + m - 1)) (tL (polCode p n m) (polL p n.toNat m.toNat (n + m - 1).toNat)) (polCode p n m)) := by
  have hB := Below.refl w.heap.size w
  have HC : Hid (polCode p n m = 2) := Lib.hid (by unfold polCode; rw [if_neg (by simp [hp])])
  have HP := Lib.hid hp
  clear hp
  go_enter Try.func23, Try.ntmps23
  go_upto_region 0 with (fail)
  refine wp_region_lit ?_
  refine ls_op rfl (fun K' hK' => ?_)
  have lz1 := hB.size
  refine wp_new (some 6) rfl (al_impl_Tensor rfl) (fun Wz2 nnz3 => ?_)
  have bz4 := nnz3.below (Below.refl _ _) (Nat.le_refl _)
  replace hB := below_after hB bz4
  have hz5 : At Wz2 w.heap.size (.cells #[.int .i64 0, .int .i64 0, .int .i64 0, .int .i64 0, .slice none 0 0] 31 (0, 0)) := nnz3.at_
  refine hK' _ _ ?_
  clear hK' K' nnz3 bz4
  go_frame
  refine ls_ex (some 7) (.int .i64 0) rfl rfl (exec_assign _ rfl (.int .i64 0) rfl) ?_
  go_frame
  refine wpList_nil ?_
  go_upto_region 1 with (fail)
  refine wp_region_lit ?_
  refine ls_ex (some 12) (.int .i64 p) rfl rfl (exec_move _ rfl (.int .i64 p) rfl) ?_
  go_frame
  refine ls_op rfl (fun K' hK' => ?_)
  have lz8 := hB.size
  have lz9 := hz5.lt
  refine wp_call1 (some 13) rfl 38 _ _ rfl (fun args w => by kernel_rfl) _ rfl _ (l01Prime_c p _) (fun e Wz6 h => ?_)
  obtain ⟨rfl, rfl⟩ := h
  rw [HP.out]
  refine ⟨_, rfl, ?_⟩
  refine hK' _ _ ?_
  clear hK' K'
  go_frame
  refine ls_ex (some 14) (.bool true) rfl rfl (exec_not _ _ rfl false rfl) ?_
  go_frame
  refine ls_ex (some 15) (.bool true) rfl rfl (exec_move _ rfl (.bool true) rfl) ?_
  go_frame
  refine ls_skip_g (some 16) rfl rfl ?_
  go_frame
  refine ls_skip_g (some 17) rfl rfl ?_
  go_frame
  refine ls_skip_g (some 18) rfl rfl ?_
  go_frame
  refine ls_ex (some 19) (.bool true) rfl rfl (exec_pick _ _ _ rfl true rfl (.bool true) rfl) ?_
  go_frame
  refine ls_ex (some 20) (.bool true) rfl rfl (exec_move _ rfl (.bool true) rfl) ?_
  go_frame
  refine ls_skip_g (some 21) rfl rfl ?_
  go_frame
  refine ls_skip_g (some 22) rfl rfl ?_
  go_frame
  refine ls_skip_g (some 23) rfl rfl ?_
  go_frame
  refine ls_ex (some 24) (.bool true) rfl rfl (exec_pick _ _ _ rfl true rfl (.bool true) rfl) ?_
  go_frame
  refine ls_ex (some 11) (.bool true) rfl rfl (exec_assign _ rfl (.bool true) rfl) ?_
  go_frame
  refine wpList_nil ?_
  go_upto_region 2 with (fail)
  refine wp_region_lit ?_
  refine ls_ex (some 25) (.agg #[.int .i64 0, .int .i64 0, .int .i64 0, .int .i64 0, .slice none 0 0]) rfl rfl (exec_build_nil 31 rfl _ (by kernel_rfl)) ?_
  go_frame
  refine ls_op rfl (fun K' hK' => ?_)
  refine wp_store_all 31 _ _ rfl rfl w.heap.size rfl #[.int .i64 0, .int .i64 0, .int .i64 0, .int .i64 0, .slice none 0 0] rfl _ _ hz5 5 (by kernel_rfl) rfl rfl (one5 _ _ _ _ _ _ _) (fun Wz10 pz11 => ?_)
  replace hB := pz11.below hB (by omega)
  replace hz5 : At Wz10 w.heap.size (.cells #[.int .i64 0, .int .i64 0, .int .i64 0, .int .i64 0, .slice none 0 0] 31 (0, 0)) := pz11.at_
  refine hK' _ _ ?_
  clear hK' K' pz11
  refine ls_ex (some 7) (.int .i64 2) rfl rfl (exec_assign _ rfl (.int .i64 2) rfl) ?_
  go_frame
  refine wpList_nil ?_
  go_wp2_with fail
  refine bodyPost_ret (results_at2 rfl _ _ w.heap.size _ _ _ rfl _ rfl hz5 Try.underlying31 rfl 5 (by kernel_rfl) rfl) rfl ?_
  unfold ResT tZ tL
  rw [HC.out]
  exact ⟨_, rfl, OwnI.nil _ _, hB⟩
set_option maxHeartbeats 4000000 in
theorem specPol_bn (p n m : Int) (w : World) (hp : primeB p = true) (hn : sideB n = false) :
    Calls Try.prog 23 #[.int .i64 p, .int .i64 n, .int .i64 m] w (ResT w (tZ (polCode p n m) p) (tZ (polCode p n m) n) (tZ (polCode p n m) m) (tZ (polCode p n m) (n + m - 1)) (tL (polCode p n m) (polL p n.toNat m.toNat (n + m - 1).toNat)) (polCode p n m)) := by
  have hB := Below.refl w.heap.size w
  have HC : Hid (polCode p n m = 2) := Lib.hid (by unfold polCode; rw [if_neg (by simp [hn])])
  have HP := Lib.hid hp
  have HN := Lib.hid hn
  clear hp hn
  go_enter Try.func23, Try.ntmps23
  go_upto_region 0 with (fail)
  refine wp_region_lit ?_
  refine ls_op rfl (fun K' hK' => ?_)
  have lz1 := hB.size
  refine wp_new (some 6) rfl (al_impl_Tensor rfl) (fun Wz2 nnz3 => ?_)
  have bz4 := nnz3.below (Below.refl _ _) (Nat.le_refl _)
  replace hB := below_after hB bz4
  have hz5 : At Wz2 w.heap.size (.cells #[.int .i64 0, .int .i64 0, .int .i64 0, .int .i64 0, .slice none 0 0] 31 (0, 0)) := nnz3.at_
  refine hK' _ _ ?_
  clear hK' K' nnz3 bz4
  go_frame
  refine ls_ex (some 7) (.int .i64 0) rfl rfl (exec_assign _ rfl (.int .i64 0) rfl) ?_
  go_frame
  refine wpList_nil ?_
  go_upto_region 1 with (fail)
  refine wp_region_lit ?_
  refine ls_ex (some 12) (.int .i64 p) rfl rfl (exec_move _ rfl (.int .i64 p) rfl) ?_
  go_frame
  refine ls_op rfl (fun K' hK' => ?_)
  have lz8 := hB.size
  have lz9 := hz5.lt
  refine wp_call1 (some 13) rfl 38 _ _ rfl (fun args w => by kernel_rfl) _ rfl _ (l01Prime_c p _) (fun e Wz6 h => ?_)
  obtain ⟨rfl, rfl⟩ := h
  rw [HP.out]
  refine ⟨_, rfl, ?_⟩
  refine hK' _ _ ?_
  clear hK' K'
  go_frame
  refine ls_ex (some 14) (.bool false) rfl rfl (exec_not _ _ rfl true rfl) ?_
  go_frame
  refine ls_ex (some 15) (.bool false) rfl rfl (exec_move _ rfl (.bool false) rfl) ?_
  go_frame
  refine ls_ex_g (some 16) (.int .i64 n) rfl rfl (exec_move _ rfl (.int .i64 n) rfl) ?_
  go_frame
  refine ls_op_g rfl (fun K' hK' => ?_)
  have lz12 := hB.size
  have lz13 := hz5.lt
  refine wp_call3 (some 17) rfl 39 _ _ _ _ rfl (fun args w => by kernel_rfl) _ _ _ rfl rfl rfl _ (l01In_side9 n _) (fun e Wz10 h => ?_)
  obtain ⟨rfl, rfl⟩ := h
  rw [HN.out]
  refine ⟨_, rfl, ?_⟩
  refine hK' _ _ ?_
  clear hK' K'
  go_frame
  refine ls_ex_g (some 18) (.bool true) rfl rfl (exec_not _ _ rfl false rfl) ?_
  go_frame
  refine ls_ex (some 19) (.bool true) rfl rfl (exec_pick _ _ _ rfl false rfl (.bool true) rfl) ?_
  go_frame
  refine ls_ex (some 20) (.bool true) rfl rfl (exec_move _ rfl (.bool true) rfl) ?_
  go_frame
  refine ls_skip_g (some 21) rfl rfl ?_
  go_frame
  refine ls_skip_g (some 22) rfl rfl ?_
  go_frame
  refine ls_skip_g (some 23) rfl rfl ?_
  go_frame
  refine ls_ex (some 24) (.bool true) rfl rfl (exec_pick _ _ _ rfl true rfl (.bool true) rfl) ?_
  go_frame
  refine ls_ex (some 11) (.bool true) rfl rfl (exec_assign _ rfl (.bool true) rfl) ?_
  go_frame
  refine wpList_nil ?_
  go_upto_region 2 with (fail)
  refine wp_region_lit ?_
  refine ls_ex (some 25) (.agg #[.int .i64 0, .int .i64 0, .int .i64 0, .int .i64 0, .slice none 0 0]) rfl rfl (exec_build_nil 31 rfl _ (by kernel_rfl)) ?_
  go_frame
  refine ls_op rfl (fun K' hK' => ?_)
  refine wp_store_all 31 _ _ rfl rfl w.heap.size rfl #[.int .i64 0, .int .i64 0, .int .i64 0, .int .i64 0, .slice none 0 0] rfl _ _ hz5 5 (by kernel_rfl) rfl rfl (one5 _ _ _ _ _ _ _) (fun Wz14 pz15 => ?_)
  replace hB := pz15.below hB (by omega)
  replace hz5 : At Wz14 w.heap.size (.cells #[.int .i64 0, .int .i64 0, .int .i64 0, .int .i64 0, .slice none 0 0] 31 (0, 0)) := pz15.at_
  refine hK' _ _ ?_
  clear hK' K' pz15
  refine ls_ex (some 7) (.int .i64 2) rfl rfl (exec_assign _ rfl (.int .i64 2) rfl) ?_
  go_frame
  refine wpList_nil ?_
  go_wp2_with fail
  refine bodyPost_ret (results_at2 rfl _ _ w.heap.size _ _ _ rfl _ rfl hz5 Try.underlying31 rfl 5 (by kernel_rfl) rfl) rfl ?_
  unfold ResT tZ tL
  rw [HC.out]
  exact ⟨_, rfl, OwnI.nil _ _, hB⟩
set_option maxHeartbeats 4000000 in
theorem specPol_bm (p n m : Int) (w : World) (hp : primeB p = true) (hn : sideB n = true) (hm : sideB m = false) :
    Calls Try.prog 23 #[.int .i64 p, .int .i64 n, .int .i64 m] w (ResT w (tZ (polCode p n m) p) (tZ (polCode p n m) n) (tZ (polCode p n m) m) (tZ (polCode p n m) (n + m - 1)) (tL (polCode p n m) (polL p n.toNat m.toNat (n + m - 1).toNat)) (polCode p n m)) := by
  have hB := Below.refl w.heap.size w
  have HC : Hid (polCode p n m = 2) := Lib.hid (by unfold polCode; rw [if_neg (by simp [hm])])
  have HP := Lib.hid hp
  have HN := Lib.hid hn
  have HM := Lib.hid hm
  clear hp hn hm
  go_enter Try.func23, Try.ntmps23
  go_upto_region 0 with (fail)
  refine wp_region_lit ?_
  refine ls_op rfl (fun K' hK' => ?_)
  have lz1 := hB.size
  refine wp_new (some 6) rfl (al_impl_Tensor rfl) (fun Wz2 nnz3 => ?_)
  have bz4 := nnz3.below (Below.refl _ _) (Nat.le_refl _)
  replace hB := below_after hB bz4
  have hz5 : At Wz2 w.heap.size (.cells #[.int .i64 0, .int .i64 0, .int .i64 0, .int .i64 0, .slice none 0 0] 31 (0, 0)) := nnz3.at_
  refine hK' _ _ ?_
  clear hK' K' nnz3 bz4
  go_frame
  refine ls_ex (some 7) (.int .i64 0) rfl rfl (exec_assign _ rfl (.int .i64 0) rfl) ?_
  go_frame
  refine wpList_nil ?_
  go_upto_region 1 with (fail)
  refine wp_region_lit ?_
  refine ls_ex (some 12) (.int .i64 p) rfl rfl (exec_move _ rfl (.int .i64 p) rfl) ?_
  go_frame
  refine ls_op rfl (fun K' hK' => ?_)
  have lz8 := hB.size
  have lz9 := hz5.lt
  refine wp_call1 (some 13) rfl 38 _ _ rfl (fun args w => by kernel_rfl) _ rfl _ (l01Prime_c p _) (fun e Wz6 h => ?_)
  obtain ⟨rfl, rfl⟩ := h
  rw [HP.out]
  refine ⟨_, rfl, ?_⟩
  refine hK' _ _ ?_
  clear hK' K'
  go_frame
  refine ls_ex (some 14) (.bool false) rfl rfl (exec_not _ _ rfl true rfl) ?_
  go_frame
  refine ls_ex (some 15) (.bool false) rfl rfl (exec_move _ rfl (.bool false) rfl) ?_
  go_frame
  refine ls_ex_g (some 16) (.int .i64 n) rfl rfl (exec_move _ rfl (.int .i64 n) rfl) ?_
  go_frame
  refine ls_op_g rfl (fun K' hK' => ?_)
  have lz12 := hB.size
  have lz13 := hz5.lt
  refine wp_call3 (some 17) rfl 39 _ _ _ _ rfl (fun args w => by kernel_rfl) _ _ _ rfl rfl rfl _ (l01In_side9 n _) (fun e Wz10 h => ?_)
  obtain ⟨rfl, rfl⟩ := h
  rw [HN.out]
  refine ⟨_, rfl, ?_⟩
  refine hK' _ _ ?_
  clear hK' K'
  go_frame
  refine ls_ex_g (some 18) (.bool false) rfl rfl (exec_not _ _ rfl true rfl) ?_
  go_frame
  refine ls_ex (some 19) (.bool false) rfl rfl (exec_pick _ _ _ rfl false rfl (.bool false) rfl) ?_
  go_frame
  refine ls_ex (some 20) (.bool false) rfl rfl (exec_move _ rfl (.bool false) rfl) ?_
  go_frame
  refine ls_ex_g (some 21) (.int .i64 m) rfl rfl (exec_move _ rfl (.int .i64 m) rfl) ?_
  go_frame
  refine ls_op_g rfl (fun K' hK' => ?_)
  have lz16 := hB.size
  have lz17 := hz5.lt
  refine wp_call3 (some 22) rfl 39 _ _ _ _ rfl (fun args w => by kernel_rfl) _ _ _ rfl rfl rfl _ (l01In_side9 m _) (fun e Wz14 h => ?_)
  obtain ⟨rfl, rfl⟩ := h
  rw [HM.out]
  refine ⟨_, rfl, ?_⟩
  refine hK' _ _ ?_
  clear hK' K'
  go_frame
  refine ls_ex_g (some 23) (.bool true) rfl rfl (exec_not _ _ rfl false rfl) ?_
  go_frame
  refine ls_ex (some 24) (.bool true) rfl rfl (exec_pick _ _ _ rfl false rfl (.bool true) rfl) ?_
  go_frame
  refine ls_ex (some 11) (.bool true) rfl rfl (exec_assign _ rfl (.bool true) rfl) ?_
  go_frame
  refine wpList_nil ?_
  go_upto_region 2 with (fail)
  refine wp_region_lit ?_
  refine ls_ex (some 25) (.agg #[.int .i64 0, .int .i64 0, .int .i64 0, .int .i64 0, .slice none 0 0]) rfl rfl (exec_build_nil 31 rfl _ (by kernel_rfl)) ?_
  go_frame
  refine ls_op rfl (fun K' hK' => ?_)
  refine wp_store_all 31 _ _ rfl rfl w.heap.size rfl #[.int .i64 0, .int .i64 0, .int .i64 0, .int .i64 0, .slice none 0 0] rfl _ _ hz5 5 (by kernel_rfl) rfl rfl (one5 _ _ _ _ _ _ _) (fun Wz18 pz19 => ?_)
  replace hB := pz19.below hB (by omega)
  replace hz5 : At Wz18 w.heap.size (.cells #[.int .i64 0, .int .i64 0, .int .i64 0, .int .i64 0, .slice none 0 0] 31 (0, 0)) := pz19.at_
  refine hK' _ _ ?_
  clear hK' K' pz19
  refine ls_ex (some 7) (.int .i64 2) rfl rfl (exec_assign _ rfl (.int .i64 2) rfl) ?_
  go_frame
  refine wpList_nil ?_
  go_wp2_with fail
  refine bodyPost_ret (results_at2 rfl _ _ w.heap.size _ _ _ rfl _ rfl hz5 Try.underlying31 rfl 5 (by kernel_rfl) rfl) rfl ?_
  unfold ResT tZ tL
  rw [HC.out]
  exact ⟨_, rfl, OwnI.nil _ _, hB⟩
set_option maxHeartbeats 4000000 in
theorem specPol_c (p n m : Int) (w : World) (hp : primeB p = true) (hn : sideB n = true) (hm : sideB m = true) (hl : 9 < n + m - 1) :
    Calls Try.prog 23 #[.int .i64 p, .int .i64 n, .int .i64 m] w (ResT w (tZ (polCode p n m) p) (tZ (polCode p n m) n) (tZ (polCode p n m) m) (tZ (polCode p n m) (n + m - 1)) (tL (polCode p n m) (polL p n.toNat m.toNat (n + m - 1).toNat)) (polCode p n m)) := by
  have hB := Below.refl w.heap.size w
  have HC : Hid (polCode p n m = 3) := Lib.hid (by unfold polCode; rw [if_pos (by simp [hp, hn, hm]), if_neg (by simp [sideB]; omega)])
  have hn9 := sideB_in9 hn
  have hm9 := sideB_in9 hm
  have HA : Hid ((sideB n && sideB m && sideB ((n + m) - 1)) = false) := Lib.hid (by simp [sideB]; omega)
  have HP := Lib.hid hp
  have HN := Lib.hid hn
  have HM := Lib.hid hm
  clear hp hn hm
  go_enter Try.func23, Try.ntmps23
  go_upto_region 0 with (fail)
  refine wp_region_lit ?_
  refine ls_op rfl (fun K' hK' => ?_)
  have lz1 := hB.size
  refine wp_new (some 6) rfl (al_impl_Tensor rfl) (fun Wz2 nnz3 => ?_)
  have bz4 := nnz3.below (Below.refl _ _) (Nat.le_refl _)
  replace hB := below_after hB bz4
  have hz5 : At Wz2 w.heap.size (.cells #[.int .i64 0, .int .i64 0, .int .i64 0, .int .i64 0, .slice none 0 0] 31 (0, 0)) := nnz3.at_
  refine hK' _ _ ?_
  clear hK' K' nnz3 bz4
  go_frame
  refine ls_ex (some 7) (.int .i64 0) rfl rfl (exec_assign _ rfl (.int .i64 0) rfl) ?_
  go_frame
  refine wpList_nil ?_
  go_upto_region 1 with (fail)
  refine wp_region_lit ?_
  refine ls_ex (some 12) (.int .i64 p) rfl rfl (exec_move _ rfl (.int .i64 p) rfl) ?_
  go_frame
  refine ls_op rfl (fun K' hK' => ?_)
  have lz8 := hB.size
  have lz9 := hz5.lt
  refine wp_call1 (some 13) rfl 38 _ _ rfl (fun args w => by kernel_rfl) _ rfl _ (l01Prime_c p _) (fun e Wz6 h => ?_)
  obtain ⟨rfl, rfl⟩ := h
  rw [HP.out]
  refine ⟨_, rfl, ?_⟩
  refine hK' _ _ ?_
  clear hK' K'
  go_frame
  refine ls_ex (some 14) (.bool false) rfl rfl (exec_not _ _ rfl true rfl) ?_
  go_frame
  refine ls_ex (some 15) (.bool false) rfl rfl (exec_move _ rfl (.bool false) rfl) ?_
  go_frame
  refine ls_ex_g (some 16) (.int .i64 n) rfl rfl (exec_move _ rfl (.int .i64 n) rfl) ?_
  go_frame
  refine ls_op_g rfl (fun K' hK' => ?_)
  have lz12 := hB.size
  have lz13 := hz5.lt
  refine wp_call3 (some 17) rfl 39 _ _ _ _ rfl (fun args w => by kernel_rfl) _ _ _ rfl rfl rfl _ (l01In_side9 n _) (fun e Wz10 h => ?_)
  obtain ⟨rfl, rfl⟩ := h
  rw [HN.out]
  refine ⟨_, rfl, ?_⟩
  refine hK' _ _ ?_
  clear hK' K'
  go_frame
  refine ls_ex_g (some 18) (.bool false) rfl rfl (exec_not _ _ rfl true rfl) ?_
  go_frame
  refine ls_ex (some 19) (.bool false) rfl rfl (exec_pick _ _ _ rfl false rfl (.bool false) rfl) ?_
  go_frame
  refine ls_ex (some 20) (.bool false) rfl rfl (exec_move _ rfl (.bool false) rfl) ?_
  go_frame
  refine ls_ex_g (some 21) (.int .i64 m) rfl rfl (exec_move _ rfl (.int .i64 m) rfl) ?_
  go_frame
  refine ls_op_g rfl (fun K' hK' => ?_)
  have lz16 := hB.size
  have lz17 := hz5.lt
  refine wp_call3 (some 22) rfl 39 _ _ _ _ rfl (fun args w => by kernel_rfl) _ _ _ rfl rfl rfl _ (l01In_side9 m _) (fun e Wz14 h => ?_)
  obtain ⟨rfl, rfl⟩ := h
  rw [HM.out]
  refine ⟨_, rfl, ?_⟩
  refine hK' _ _ ?_
  clear hK' K'
  go_frame
  refine ls_ex_g (some 23) (.bool false) rfl rfl (exec_not _ _ rfl true rfl) ?_
  go_frame
  refine ls_ex (some 24) (.bool false) rfl rfl (exec_pick _ _ _ rfl false rfl (.bool false) rfl) ?_
  go_frame
  refine ls_ex (some 11) (.bool false) rfl rfl (exec_assign _ rfl (.bool false) rfl) ?_
  go_frame
  refine wpList_nil ?_
  go_upto_region 3 with (fail)
  refine wp_region_lit ?_
  refine ls_ex (some 27) (.int .i64 n) rfl rfl (exec_move _ rfl (.int .i64 n) rfl) ?_
  go_frame
  refine ls_ex (some 28) (.int .i64 m) rfl rfl (exec_move _ rfl (.int .i64 m) rfl) ?_
  go_frame
  refine ls_ex (some 29) (.int .i64 (n + m)) rfl rfl (exec_add _ _ _ _ rfl n m (n + m) rfl rfl (IntWalk.i64_in _ (by omega))) ?_
  go_frame
  refine ls_ex (some 30) (.int .i64 ((n + m) - 1)) rfl rfl (exec_sub _ _ _ _ rfl ((n + m)) 1 ((n + m) - 1) rfl rfl (IntWalk.i64_in _ (by omega))) ?_
  go_frame
  refine ls_ex (some 31) (.bool true) rfl rfl (exec_gtr _ _ _ _ rfl (((n + m) - 1)) 9 rfl rfl true (decide_eq_true (by omega))) ?_
  go_frame
  refine ls_ex (some 26) (.bool true) rfl rfl (exec_assign _ rfl (.bool true) rfl) ?_
  go_frame
  refine wpList_nil ?_
  go_upto_region 4 with (fail)
  refine wp_region_lit ?_
  refine ls_ex (some 32) (.agg #[.int .i64 0, .int .i64 0, .int .i64 0, .int .i64 0, .slice none 0 0]) rfl rfl (exec_build_nil 31 rfl _ (by kernel_rfl)) ?_
  go_frame
  refine ls_op rfl (fun K' hK' => ?_)
  refine wp_store_all 31 _ _ rfl rfl w.heap.size rfl #[.int .i64 0, .int .i64 0, .int .i64 0, .int .i64 0, .slice none 0 0] rfl _ _ hz5 5 (by kernel_rfl) rfl rfl (one5 _ _ _ _ _ _ _) (fun Wz18 pz19 => ?_)
  replace hB := pz19.below hB (by omega)
  replace hz5 : At Wz18 w.heap.size (.cells #[.int .i64 0, .int .i64 0, .int .i64 0, .int .i64 0, .slice none 0 0] 31 (0, 0)) := pz19.at_
  refine hK' _ _ ?_
  clear hK' K' pz19
  refine ls_ex (some 7) (.int .i64 3) rfl rfl (exec_assign _ rfl (.int .i64 3) rfl) ?_
  go_frame
  refine wpList_nil ?_
  go_wp2_with fail
  refine bodyPost_ret (results_at2 rfl _ _ w.heap.size _ _ _ rfl _ rfl hz5 Try.underlying31 rfl 5 (by kernel_rfl) rfl) rfl ?_
  unfold ResT tZ tL
  rw [HC.out]
  exact ⟨_, rfl, OwnI.nil _ _, hB⟩
set_option maxHeartbeats 12800000 in
theorem specPol_y (p : Int) (n m K : Nat) (w : World) (hp : primeB p = true) (hn : sideB n = true) (hm : sideB m = true) (hK : n + m = K + 1) (hK9 : 1 ≤ K ∧ K ≤ 9) :
    Calls Try.prog 23 #[.int .i64 p, .int .i64 n, .int .i64 m] w (ResT w (tZ (polCode p n m) p) (tZ (polCode p n m) n) (tZ (polCode p n m) m) (tZ (polCode p n m) K) (tL (polCode p n m) (polL p n m K)) (polCode p n m)) := by
  have hB := Below.refl w.heap.size w
  have HC : Hid (polCode p n m = 0) := Lib.hid (by unfold polCode; rw [if_pos (by simp [hp, hn, hm]), if_pos (by simp [sideB]; omega)])
  have hn9 : 1 ≤ n ∧ n ≤ 9 := by have := sideB_in9 hn; omega
  have hm9 : 1 ≤ m ∧ m ≤ 9 := by have := sideB_in9 hm; omega
  have HKs : Hid (IntKind.i64.wrap ((n : Int) + (m : Int) - 1) = (K : Int)) := Lib.hid (by rw [show (n : Int) + (m : Int) - 1 = (K : Int) by omega]; exact IntWalk.i64_in _ (by omega))
  have HK : Hid (sideB K = true) := Lib.hid (by simp [sideB]; omega)
  have HA : Hid ((sideB n && sideB m && sideB K) = true) := Lib.hid (by rw [hn, hm, HK.out]; rfl)
  have hp5 := prime_le5 hp
  have hNN := places_729 (n0 := n) (n1 := m) (n2 := K) (by omega) (by omega) (by omega)
  obtain ⟨N, hNe⟩ : ∃ N, n * m * K = N := ⟨_, rfl⟩
  rw [hNe] at hNN
  have HNe := Lib.hid hNe
  have HNl : Hid ((polL p n m K).length = N) := Lib.hid (by rw [polL_len, hNe])
  have HZ : Hid (polP n m K 0 = List.replicate N 0) := Lib.hid (by rw [polP_zero, hNe])
  have HOw : Hid (∀ (g : Nat) (W : World), At W g (.cells (iar (polL p n m K)) 2 (0, 0)) → OwnI W g (.slice (some ⟨g, 0, none⟩) N N) (polL p n m K)) := Lib.hid (fun g W h => by have h9 := OwnI.of_at h (Nat.le_refl g) (by rw [polL_len, hNe]; omega); rwa [polL_len, hNe] at h9)
  have HP := Lib.hid hp
  have HN := Lib.hid hn
  have HM := Lib.hid hm
  clear hp hn hm hNe
  go_enter Try.func23, Try.ntmps23
  go_upto_region 0 with (fail)
  refine wp_region_lit ?_
  refine ls_op rfl (fun K' hK' => ?_)
  have lz1 := hB.size
  refine wp_new (some 6) rfl (al_impl_Tensor rfl) (fun Wz2 nnz3 => ?_)
  have bz4 := nnz3.below (Below.refl _ _) (Nat.le_refl _)
  replace hB := below_after hB bz4
  have hz5 : At Wz2 w.heap.size (.cells #[.int .i64 0, .int .i64 0, .int .i64 0, .int .i64 0, .slice none 0 0] 31 (0, 0)) := nnz3.at_
  refine hK' _ _ ?_
  clear hK' K' nnz3 bz4
  go_frame
  refine ls_ex (some 7) (.int .i64 0) rfl rfl (exec_assign _ rfl (.int .i64 0) rfl) ?_
  go_frame
  refine wpList_nil ?_
  go_upto_region 1 with (fail)
  refine wp_region_lit ?_
  refine ls_ex (some 12) (.int .i64 p) rfl rfl (exec_move _ rfl (.int .i64 p) rfl) ?_
  go_frame
  refine ls_op rfl (fun K' hK' => ?_)
  have lz8 := hB.size
  have lz9 := hz5.lt
  refine wp_call1 (some 13) rfl 38 _ _ rfl (fun args w => by kernel_rfl) _ rfl _ (l01Prime_c p _) (fun e Wz6 h => ?_)
  obtain ⟨rfl, rfl⟩ := h
  rw [HP.out]
  refine ⟨_, rfl, ?_⟩
  refine hK' _ _ ?_
  clear hK' K'
  go_frame
  refine ls_ex (some 14) (.bool false) rfl rfl (exec_not _ _ rfl true rfl) ?_
  go_frame
  refine ls_ex (some 15) (.bool false) rfl rfl (exec_move _ rfl (.bool false) rfl) ?_
  go_frame
  refine ls_ex_g (some 16) (.int .i64 n) rfl rfl (exec_move _ rfl (.int .i64 n) rfl) ?_
  go_frame
  refine ls_op_g rfl (fun K' hK' => ?_)
  have lz12 := hB.size
  have lz13 := hz5.lt
  refine wp_call3 (some 17) rfl 39 _ _ _ _ rfl (fun args w => by kernel_rfl) _ _ _ rfl rfl rfl _ (l01In_side9 n _) (fun e Wz10 h => ?_)
  obtain ⟨rfl, rfl⟩ := h
  rw [HN.out]
  refine ⟨_, rfl, ?_⟩
  refine hK' _ _ ?_
  clear hK' K'
  go_frame
  refine ls_ex_g (some 18) (.bool false) rfl rfl (exec_not _ _ rfl true rfl) ?_
  go_frame
  refine ls_ex (some 19) (.bool false) rfl rfl (exec_pick _ _ _ rfl false rfl (.bool false) rfl) ?_
  go_frame
  refine ls_ex (some 20) (.bool false) rfl rfl (exec_move _ rfl (.bool false) rfl) ?_
  go_frame
  refine ls_ex_g (some 21) (.int .i64 m) rfl rfl (exec_move _ rfl (.int .i64 m) rfl) ?_
  go_frame
  refine ls_op_g rfl (fun K' hK' => ?_)
  have lz16 := hB.size
  have lz17 := hz5.lt
  refine wp_call3 (some 22) rfl 39 _ _ _ _ rfl (fun args w => by kernel_rfl) _ _ _ rfl rfl rfl _ (l01In_side9 m _) (fun e Wz14 h => ?_)
  obtain ⟨rfl, rfl⟩ := h
  rw [HM.out]
  refine ⟨_, rfl, ?_⟩
  refine hK' _ _ ?_
  clear hK' K'
  go_frame
  refine ls_ex_g (some 23) (.bool false) rfl rfl (exec_not _ _ rfl true rfl) ?_
  go_frame
  refine ls_ex (some 24) (.bool false) rfl rfl (exec_pick _ _ _ rfl false rfl (.bool false) rfl) ?_
  go_frame
  refine ls_ex (some 11) (.bool false) rfl rfl (exec_assign _ rfl (.bool false) rfl) ?_
  go_frame
  refine wpList_nil ?_
  go_upto_region 3 with (fail)
  refine wp_region_lit ?_
  refine ls_ex (some 27) (.int .i64 n) rfl rfl (exec_move _ rfl (.int .i64 n) rfl) ?_
  go_frame
  refine ls_ex (some 28) (.int .i64 m) rfl rfl (exec_move _ rfl (.int .i64 m) rfl) ?_
  go_frame
  refine ls_ex (some 29) (.int .i64 (n + m)) rfl rfl (exec_add _ _ _ _ rfl n m (n + m) rfl rfl (IntWalk.i64_in _ (by omega))) ?_
  go_frame
  refine ls_ex (some 30) (.int .i64 ((n + m) - 1)) rfl rfl (exec_sub _ _ _ _ rfl ((n + m)) 1 ((n + m) - 1) rfl rfl (IntWalk.i64_in _ (by omega))) ?_
  go_frame
  refine ls_ex (some 31) (.bool false) rfl rfl (exec_gtr _ _ _ _ rfl (((n + m) - 1)) 9 rfl rfl false (decide_eq_false (by omega))) ?_
  go_frame
  refine ls_ex (some 26) (.bool false) rfl rfl (exec_assign _ rfl (.bool false) rfl) ?_
  go_frame
  refine wpList_nil ?_
  go_upto_region 5 with (fail)
  refine wp_region_lit ?_
  refine ls_ex (some 33) (.int .i64 p) rfl rfl (exec_move _ rfl (.int .i64 p) rfl) ?_
  go_frame
  refine ls_ex (some 34) (.int .i64 n) rfl rfl (exec_move _ rfl (.int .i64 n) rfl) ?_
  go_frame
  refine ls_ex (some 35) (.int .i64 m) rfl rfl (exec_move _ rfl (.int .i64 m) rfl) ?_
  go_frame
  refine ls_ex (some 36) (.int .i64 n) rfl rfl (exec_move _ rfl (.int .i64 n) rfl) ?_
  go_frame
  refine ls_ex (some 37) (.int .i64 m) rfl rfl (exec_move _ rfl (.int .i64 m) rfl) ?_
  go_frame
  refine ls_ex (some 38) (.int .i64 (n + m)) rfl rfl (exec_add _ _ _ _ rfl n m (n + m) rfl rfl (IntWalk.i64_in _ (by omega))) ?_
  go_frame
  refine ls_ex (some 39) (.int .i64 K) rfl rfl (exec_sub _ _ _ _ rfl (n + m) 1 K rfl rfl HKs.out) ?_
  go_frame
  refine ls_op rfl (fun K' hK' => ?_)
  have lz20 := hB.size
  have lz21 := hz5.lt
  refine wp_call4 (some 40) rfl 41 _ _ _ _ _ rfl (fun args w => by kernel_rfl) _ _ _ _ rfl rfl rfl rfl _ (l05Empty_c p n m K _ hn9.2 hm9.2 hK9.2) (fun e Wz18 h => ?_)
  obtain ⟨g, rfl, hg, hL, bz19⟩ := h
  replace hB := below_after hB bz19
  replace hz5 := hz5.after bz19
  rw [HNe.out] at hL ⊢
  clear bz19
  refine ⟨_, rfl, ?_⟩
  refine hK' _ _ ?_
  clear hK' K'
  go_frame
  refine ls_op rfl (fun K' hK' => ?_)
  have lz22 := hB.size
  have lz23 := hz5.lt
  have lz24 := hL.lt
  refine wp_new (some 8) rfl (al_impl_Tensor rfl) (fun Wz25 nnz26 => ?_)
  have bz27 := nnz26.below (Below.refl _ _) (Nat.le_refl _)
  replace hB := below_after hB bz27
  replace hz5 := hz5.after bz27
  replace hL := hL.after bz27
  have hz28 : At Wz25 Wz18.heap.size (.cells #[.int .i64 0, .int .i64 0, .int .i64 0, .int .i64 0, .slice none 0 0] 31 (0, 0)) := nnz26.at_
  refine hK' _ _ ?_
  clear hK' K' nnz26 bz27
  go_frame
  refine ls_op rfl (fun K' hK' => ?_)
  refine wp_store_all 31 _ _ rfl rfl Wz18.heap.size rfl #[.int .i64 p, .int .i64 n, .int .i64 m, .int .i64 K, .slice (some ⟨g, 0, none⟩) N N] rfl _ _ hz28 5 (by kernel_rfl) rfl rfl (one5 _ _ _ _ _ _ _) (fun Wz29 pz30 => ?_)
  replace hB := pz30.below hB (by omega)
  replace hz5 := pz30.other hz5 (by omega)
  replace hL := pz30.other hL (by omega)
  replace hz28 : At Wz29 Wz18.heap.size (.cells #[.int .i64 p, .int .i64 n, .int .i64 m, .int .i64 K, .slice (some ⟨g, 0, none⟩) N N] 31 (0, 0)) := pz30.at_
  refine hK' _ _ ?_
  clear hK' K' pz30
  refine wpList_nil ?_
  go_upto_region 6 with (fail)
  refine wp_region_lit ?_
  refine ls_ex (some 9) (.int .i64 0) rfl rfl (exec_assign _ rfl (.int .i64 0) rfl) ?_
  go_frame
  refine wpList_nil ?_
  go_wp2_with fail
  go_loopw [9] (fun s9 wr => ∃ a : Nat, a ≤ n ∧ s9 = .int .i64 a ∧ Below w.heap.size w wr ∧ At wr w.heap.size (.cells #[.int .i64 0, .int .i64 0, .int .i64 0, .int .i64 0, .slice none 0 0] 31 (0, 0)) ∧ At wr Wz18.heap.size (.cells #[.int .i64 p, .int .i64 n, .int .i64 m, .int .i64 K, .slice (some ⟨g, 0, none⟩) N N] 31 (0, 0)) ∧ At wr g (.cells (iar (polP n m K (a * m))) 2 (0, 0))) (fun s9 _ => n - (intOf s9).toNat)
  case atStart => exact ⟨0, by omega, rfl, hB, hz5, hz28, by rw [Nat.zero_mul, HZ.out]; exact hL⟩
  case round =>
    clear hB hz5 hL hz28
    obtain ⟨a, ha, rfl, hB, h1, h2, hL⟩ := hrel
    by_cases hlt : a < n
    · go_upto_region 7 with (fail)
      refine wp_region_lit ?_
      refine ls_ex (some 41) (.int .i64 a) rfl rfl (exec_move _ rfl (.int .i64 a) rfl) ?_
      go_frame
      refine ls_ex (some 42) (.int .i64 n) rfl rfl (exec_move _ rfl (.int .i64 n) rfl) ?_
      go_frame
      refine ls_ex (some 43) (.bool true) rfl rfl (exec_lss _ _ _ _ rfl a n rfl rfl true (decide_eq_true (by omega))) ?_
      go_frame
      refine wpList_nil ?_
      go_upto_region 9 with (fail)
      refine wp_region_lit ?_
      refine ls_ex (some 10) (.int .i64 0) rfl rfl (exec_assign _ rfl (.int .i64 0) rfl) ?_
      go_frame
      refine wpList_nil ?_
      go_wp2_with fail
      obtain ⟨we, rfl⟩ : ∃ x : World, x = wr := ⟨_, rfl⟩
      go_loopw [10] (fun s10 wr => ∃ b : Nat, b ≤ m ∧ s10 = .int .i64 b ∧ Below w.heap.size w wr ∧ At wr w.heap.size (.cells #[.int .i64 0, .int .i64 0, .int .i64 0, .int .i64 0, .slice none 0 0] 31 (0, 0)) ∧ At wr Wz18.heap.size (.cells #[.int .i64 p, .int .i64 n, .int .i64 m, .int .i64 K, .slice (some ⟨g, 0, none⟩) N N] 31 (0, 0)) ∧ At wr g (.cells (iar (polP n m K (a * m + b))) 2 (0, 0))) (fun s10 _ => m - (intOf s10).toNat)
      case atStart => exact ⟨0, by omega, rfl, hB, h1, h2, by rw [Nat.add_zero]; exact hL⟩
      case round =>
        clear hB h1 h2 hL
        obtain ⟨b, hb, rfl, hB, h1, h2, hL⟩ := hrel
        by_cases hlt2 : b < m
        · have hst := polP_step (n := n) (m := m) (K := K) (a := a) hlt2 (by omega)
          have hplt := place_lt (n0 := n) (n1 := m) (n2 := K) (k := a + b) hlt hlt2 (by omega)
          have HLen := Lib.hid (polP_len n m K (a * m + b))
          rw [HNe.out] at hplt HLen
          have m1 : a * m ≤ 9 * 9 := Nat.mul_le_mul (show a ≤ 9 by omega) hm9.2
          obtain ⟨D1, hD1⟩ : ∃ D : Nat, D = a * m := ⟨_, rfl⟩
          obtain ⟨D2, hD2⟩ : ∃ D : Nat, D = D1 + b := ⟨_, rfl⟩
          obtain ⟨D3, hD3⟩ : ∃ D : Nat, D = D2 * K := ⟨_, rfl⟩
          obtain ⟨D4, hD4⟩ : ∃ D : Nat, D = D3 + a := ⟨_, rfl⟩
          obtain ⟨D, hD⟩ : ∃ D : Nat, D = D4 + b := ⟨_, rfl⟩
          have m3 : D3 ≤ 90 * 9 := by rw [hD3]; exact Nat.mul_le_mul (by omega) hK9.2
          have eD : (a * m + b) * K + (a + b) = D := by rw [hD, hD4, hD3, hD2, hD1]; omega
          have HSet : Hid ((polP n m K (a * m + b)).set D 1 = polP n m K (a * m + b + 1)) := Lib.hid (by rw [← eD]; exact hst)
          have HDN : Hid (D < N) := Lib.hid (by rw [← eD]; exact hplt)
          have HD1 : Hid (IntKind.i64.wrap ((a : Int) * (m : Int)) = (D1 : Int)) := Lib.hid (by rw [← Int.natCast_mul, ← hD1]; exact IntWalk.i64_in _ (by omega))
          have HD2 : Hid (IntKind.i64.wrap ((D1 : Int) + (b : Int)) = (D2 : Int)) := Lib.hid (by rw [hD2, Int.natCast_add]; exact IntWalk.i64_in _ (by omega))
          have HD3 : Hid (IntKind.i64.wrap ((D2 : Int) * (K : Int)) = (D3 : Int)) := Lib.hid (by rw [← Int.natCast_mul, ← hD3]; exact IntWalk.i64_in _ (by omega))
          have HD4 : Hid (IntKind.i64.wrap ((D3 : Int) + (a : Int)) = (D4 : Int)) := Lib.hid (by rw [hD4, Int.natCast_add]; exact IntWalk.i64_in _ (by omega))
          have HD : Hid (IntKind.i64.wrap ((D4 : Int) + (b : Int)) = (D : Int)) := Lib.hid (by rw [hD, Int.natCast_add]; exact IntWalk.i64_in _ (by omega))
          have hDN := HDN.out
          clear hst hplt m1 m3 eD hD1 hD2 hD3 hD4 hD
          go_upto_region 10 with (fail)
          refine wp_region_lit ?_
          refine ls_ex (some 46) (.int .i64 b) rfl rfl (exec_move _ rfl (.int .i64 b) rfl) ?_
          go_frame
          refine ls_ex (some 47) (.int .i64 m) rfl rfl (exec_move _ rfl (.int .i64 m) rfl) ?_
          go_frame
          refine ls_ex (some 48) (.bool true) rfl rfl (exec_lss _ _ _ _ rfl b m rfl rfl true (decide_eq_true (by omega))) ?_
          go_frame
          refine wpList_nil ?_
          go_upto_region 12 with (fail)
          refine wp_region_lit ?_
          refine ls_ex (some 51) (.pointer (some ⟨Wz18.heap.size, 4, none⟩)) rfl rfl (exec_fieldAddr 31 _ 4 rfl _ (by kernel_rfl)) ?_
          go_frame
          refine ls_ex (some 52) (.slice (some ⟨g, 0, none⟩) N N) rfl rfl (exec_load_one 22 _ rfl Wz18.heap.size 4 rfl (.slice (some ⟨g, 0, none⟩) N N) _ Try.underlying22 rfl (h2.at_ 4)) ?_
          go_frame
          refine ls_ex (some 53) (.int .i64 a) rfl rfl (exec_move _ rfl (.int .i64 a) rfl) ?_
          go_frame
          refine ls_ex (some 54) (.int .i64 m) rfl rfl (exec_move _ rfl (.int .i64 m) rfl) ?_
          go_frame
          refine ls_ex (some 55) (.int .i64 D1) rfl rfl (exec_mul _ _ _ _ rfl a m D1 rfl rfl HD1.out) ?_
          go_frame
          refine ls_ex (some 56) (.int .i64 b) rfl rfl (exec_move _ rfl (.int .i64 b) rfl) ?_
          go_frame
          refine ls_ex (some 57) (.int .i64 D2) rfl rfl (exec_add _ _ _ _ rfl D1 b D2 rfl rfl HD2.out) ?_
          go_frame
          refine ls_ex (some 58) (.pointer (some ⟨Wz18.heap.size, 3, none⟩)) rfl rfl (exec_fieldAddr 31 _ 3 rfl _ (by kernel_rfl)) ?_
          go_frame
          refine ls_ex (some 59) (.int .i64 K) rfl rfl (exec_load_one 2 _ rfl Wz18.heap.size 3 rfl (.int .i64 K) _ Try.underlying2 rfl (h2.at_ 3)) ?_
          go_frame
          refine ls_ex (some 60) (.int .i64 D3) rfl rfl (exec_mul _ _ _ _ rfl D2 K D3 rfl rfl HD3.out) ?_
          go_frame
          refine ls_ex (some 61) (.int .i64 a) rfl rfl (exec_move _ rfl (.int .i64 a) rfl) ?_
          go_frame
          refine ls_ex (some 62) (.int .i64 D4) rfl rfl (exec_add _ _ _ _ rfl D3 a D4 rfl rfl HD4.out) ?_
          go_frame
          refine ls_ex (some 63) (.int .i64 b) rfl rfl (exec_move _ rfl (.int .i64 b) rfl) ?_
          go_frame
          refine ls_ex (some 64) (.int .i64 D) rfl rfl (exec_add _ _ _ _ rfl D4 b D rfl rfl HD.out) ?_
          go_frame
          refine ls_ex (some 65) (.pointer (some ⟨g, D * 1, none⟩)) rfl rfl (exec_ix0 _ 2 _ _ rfl g N N D 1 rfl rfl Try.underlying22 (by kernel_rfl) HDN.out) ?_
          go_frame
          refine ls_op rfl (fun K' hK' => ?_)
          refine wp_store_one 2 _ _ rfl rfl g (D * 1) rfl (.int .i64 1) rfl rfl rfl _ _ hL (by kernel_rfl) (by rw [iar_size, HLen.out]; omega) (fun Wz31 pz32 => ?_)
          replace hB := pz32.below hB (by omega)
          replace h1 := pz32.other h1 (by omega)
          replace h2 := pz32.other h2 (by omega)
          replace hL : At Wz31 g (.cells (iar (polP n m K (a * m + b + 1))) 2 (0, 0)) := by have h9 := pz32.at_; rwa [Nat.mul_one, iar_set, HSet.out] at h9
          refine hK' _ _ ?_
          clear hK' K' pz32
          refine wpList_nil ?_
          go_upto_region 11 with (fail)
          refine wp_region_lit ?_
          refine ls_ex (some 49) (.int .i64 b) rfl rfl (exec_move _ rfl (.int .i64 b) rfl) ?_
          go_frame
          refine ls_ex (some 50) (.int .i64 (b + 1)) rfl rfl (exec_add _ _ _ _ rfl b 1 (b + 1) rfl rfl (IntWalk.i64_in _ (by omega))) ?_
          go_frame
          refine ls_ex (some 10) (.int .i64 (b + 1)) rfl rfl (exec_assign _ rfl (.int .i64 (b + 1)) rfl) ?_
          go_frame
          refine wpList_nil ?_
          go_wp2_with fail
          go_roundw
          case rel => exact ⟨b + 1, by omega, by go_num, hB, h1, h2, by rw [← Nat.add_assoc]; exact hL⟩
          case measure => simp [intOf]; omega
        · have HE : Hid (polP n m K (a * m + b) = polP n m K ((a + 1) * m)) := Lib.hid (by rw [Nat.add_mul, Nat.one_mul, show b = m by omega])
          rw [HE.out] at hL
          go_upto_region 10 with (fail)
          refine wp_region_lit ?_
          refine ls_ex (some 46) (.int .i64 b) rfl rfl (exec_move _ rfl (.int .i64 b) rfl) ?_
          go_frame
          refine ls_ex (some 47) (.int .i64 m) rfl rfl (exec_move _ rfl (.int .i64 m) rfl) ?_
          go_frame
          refine ls_ex (some 48) (.bool false) rfl rfl (exec_lss _ _ _ _ rfl b m rfl rfl false (decide_eq_false (by omega))) ?_
          go_frame
          refine wpList_nil ?_
          go_upto_region 8 with (fail)
          refine wp_region_lit ?_
          refine ls_ex (some 44) (.int .i64 a) rfl rfl (exec_move _ rfl (.int .i64 a) rfl) ?_
          go_frame
          refine ls_ex (some 45) (.int .i64 (a + 1)) rfl rfl (exec_add _ _ _ _ rfl a 1 (a + 1) rfl rfl (IntWalk.i64_in _ (by omega))) ?_
          go_frame
          refine ls_ex (some 9) (.int .i64 (a + 1)) rfl rfl (exec_assign _ rfl (.int .i64 (a + 1)) rfl) ?_
          go_frame
          refine wpList_nil ?_
          go_wp2_with fail
          go_roundw
          case rel => exact ⟨a + 1, by omega, by go_num, hB, h1, h2, hL⟩
          case measure => simp [intOf]; omega
    · have HE : Hid (polP n m K (a * m) = polL p n m K) := Lib.hid (by rw [show a = n by omega]; exact polP_end hp5.1)
      rw [HE.out] at hL
      go_upto_region 7 with (fail)
      refine wp_region_lit ?_
      refine ls_ex (some 41) (.int .i64 a) rfl rfl (exec_move _ rfl (.int .i64 a) rfl) ?_
      go_frame
      refine ls_ex (some 42) (.int .i64 n) rfl rfl (exec_move _ rfl (.int .i64 n) rfl) ?_
      go_frame
      refine ls_ex (some 43) (.bool false) rfl rfl (exec_lss _ _ _ _ rfl a n rfl rfl false (decide_eq_false (by omega))) ?_
      go_frame
      refine wpList_nil ?_
      go_upto_region 13 with (fail)
      refine wp_region_lit ?_
      refine ls_ex (some 66) (.agg #[.int .i64 p, .int .i64 n, .int .i64 m, .int .i64 K, .slice (some ⟨g, 0, none⟩) N N]) rfl rfl (exec_load_all 31 _ rfl Wz18.heap.size rfl _ _ _ h2 Try.underlying31 rfl 5 (by kernel_rfl) rfl) ?_
      go_frame
      refine ls_op rfl (fun K' hK' => ?_)
      refine wp_store_all 31 _ _ rfl rfl w.heap.size rfl #[.int .i64 p, .int .i64 n, .int .i64 m, .int .i64 K, .slice (some ⟨g, 0, none⟩) N N] rfl _ _ h1 5 (by kernel_rfl) rfl rfl (one5 _ _ _ _ _ _ _) (fun Wz33 pz34 => ?_)
      replace hB := pz34.below hB (by omega)
      replace h2 := pz34.other h2 (by omega)
      replace hL := pz34.other hL (by omega)
      replace h1 : At Wz33 w.heap.size (.cells #[.int .i64 p, .int .i64 n, .int .i64 m, .int .i64 K, .slice (some ⟨g, 0, none⟩) N N] 31 (0, 0)) := pz34.at_
      refine hK' _ _ ?_
      clear hK' K' pz34
      refine ls_ex (some 7) (.int .i64 0) rfl rfl (exec_assign _ rfl (.int .i64 0) rfl) ?_
      go_frame
      refine wpList_nil ?_
      go_wp2_with fail
      refine bodyPost_ret (results_at2 rfl _ _ w.heap.size _ _ _ rfl _ rfl h1 Try.underlying31 rfl 5 (by kernel_rfl) rfl) rfl ?_
      unfold ResT tZ tL
      rw [HC.out]
      exact ⟨_, rfl, (HOw.out _ _ hL).mono (by omega), hB⟩
theorem specPolynomialTensor_c (p n m : Int) (w : World) : Calls Try.prog 23 #[.int .i64 p, .int .i64 n, .int .i64 m] w (ResT w (tZ (polCode p n m) p) (tZ (polCode p n m) n) (tZ (polCode p n m) m) (tZ (polCode p n m) (n + m - 1)) (tL (polCode p n m) (polL p n.toNat m.toNat (n + m - 1).toNat)) (polCode p n m)) := by
  cases hp : primeB p with
  | false => exact specPol_a p n m w hp
  | true =>
    cases hn : sideB n with
    | false => exact specPol_bn p n m w hp hn
    | true =>
      cases hm : sideB m with
      | false => exact specPol_bm p n m w hp hn hm
      | true =>
        by_cases hl : 9 < n + m - 1
        · exact specPol_c p n m w hp hn hm hl
        · have hn9 := sideB_in9 hn
          have hm9 := sideB_in9 hm
          obtain ⟨a, rfl⟩ := Int.eq_ofNat_of_zero_le (show 0 ≤ n by omega)
          obtain ⟨b, rfl⟩ := Int.eq_ofNat_of_zero_le (show 0 ≤ m by omega)
          obtain ⟨K, hK⟩ : ∃ K : Nat, (a : Int) + (b : Int) - 1 = (K : Int) := Int.eq_ofNat_of_zero_le (by omega)
          have h := specPol_y p a b K w hp hn hm (by omega) (by omega)
          rw [hK]
          exact h
set_option maxHeartbeats 4000000 in
theorem implPol_a (p n m : Int) (w : World) (hp : primeB p = false) :
    Calls Try.prog 24 #[.int .i64 p, .int .i64 n, .int .i64 m] w (ResT w (tZ (polCode p n m) p) (tZ (polCode p n m) n) (tZ (polCode p n m) m) (tZ (polCode p n m) (n + m - 1)) (tL (polCode p n m) (polL p n.toNat m.toNat (n + m - 1).toNat)) (polCode p n m)) := by
  have hB := Below.refl w.heap.size w
  have HC : Hid (polCode p n m = 2) := Lib.hid (by unfold polCode; rw [if_neg (by simp [hp])])
  have HP := Lib.hid hp
  clear hp
  go_enter Try.func24, Try.ntmps24
  go_upto_region 0 with (fail)
  refine wp_region_lit ?_
  refine ls_op rfl (fun K' hK' => ?_)
  have lz1 := hB.size
  refine wp_new (some 6) rfl (al_impl_Tensor rfl) (fun Wz2 nnz3 => ?_)
  have bz4 := nnz3.below (Below.refl _ _) (Nat.le_refl _)
  replace hB := below_after hB bz4
  have hz5 : At Wz2 w.heap.size (.cells #[.int .i64 0, .int .i64 0, .int .i64 0, .int .i64 0, .slice none 0 0] 31 (0, 0)) := nnz3.at_
  refine hK' _ _ ?_
  clear hK' K' nnz3 bz4
  go_frame
  refine ls_ex (some 7) (.int .i64 0) rfl rfl (exec_assign _ rfl (.int .i64 0) rfl) ?_
  go_frame
  refine wpList_nil ?_
  go_upto_region 1 with (fail)
  refine wp_region_lit ?_
  refine ls_ex (some 9) (.int .i64 p) rfl rfl (exec_move _ rfl (.int .i64 p) rfl) ?_
  go_frame
  refine ls_op rfl (fun K' hK' => ?_)
  have lz8 := hB.size
  have lz9 := hz5.lt
  refine wp_call1 (some 10) rfl 43 _ _ rfl (fun args w => by kernel_rfl) _ rfl _ (isPrime_c p _) (fun e Wz6 h => ?_)
  obtain ⟨rfl, rfl⟩ := h
  rw [HP.out]
  refine ⟨_, rfl, ?_⟩
  refine hK' _ _ ?_
  clear hK' K'
  go_frame
  refine ls_ex (some 11) (.bool true) rfl rfl (exec_not _ _ rfl false rfl) ?_
  go_frame
  refine ls_ex (some 12) (.bool true) rfl rfl (exec_move _ rfl (.bool true) rfl) ?_
  go_frame
  refine ls_skip_g (some 13) rfl rfl ?_
  go_frame
  refine ls_skip_g (some 14) rfl rfl ?_
  go_frame
  refine ls_skip_g (some 15) rfl rfl ?_
  go_frame
  refine ls_ex (some 16) (.bool true) rfl rfl (exec_pick _ _ _ rfl true rfl (.bool true) rfl) ?_
  go_frame
  refine ls_ex (some 17) (.bool true) rfl rfl (exec_move _ rfl (.bool true) rfl) ?_
  go_frame
  refine ls_skip_g (some 18) rfl rfl ?_
  go_frame
  refine ls_skip_g (some 19) rfl rfl ?_
  go_frame
  refine ls_skip_g (some 20) rfl rfl ?_
  go_frame
  refine ls_ex (some 21) (.bool true) rfl rfl (exec_pick _ _ _ rfl true rfl (.bool true) rfl) ?_
  go_frame
  refine wpList_nil ?_
  go_upto_region 2 with (fail)
  refine wp_region_lit ?_
  refine ls_ex (some 22) (.agg #[.int .i64 0, .int .i64 0, .int .i64 0, .int .i64 0, .slice none 0 0]) rfl rfl (exec_build_nil 31 rfl _ (by kernel_rfl)) ?_
  go_frame
  refine ls_op rfl (fun K' hK' => ?_)
  refine wp_store_all 31 _ _ rfl rfl w.heap.size rfl #[.int .i64 0, .int .i64 0, .int .i64 0, .int .i64 0, .slice none 0 0] rfl _ _ hz5 5 (by kernel_rfl) rfl rfl (one5 _ _ _ _ _ _ _) (fun Wz10 pz11 => ?_)
  replace hB := pz11.below hB (by omega)
  replace hz5 : At Wz10 w.heap.size (.cells #[.int .i64 0, .int .i64 0, .int .i64 0, .int .i64 0, .slice none 0 0] 31 (0, 0)) := pz11.at_
  refine hK' _ _ ?_
  clear hK' K' pz11
  refine ls_ex (some 7) (.int .i64 2) rfl rfl (exec_assign _ rfl (.int .i64 2) rfl) ?_
  go_frame
  refine wpList_nil ?_
  go_wp2_with fail
  refine bodyPost_ret (results_at2 rfl _ _ w.heap.size _ _ _ rfl _ rfl hz5 Try.underlying31 rfl 5 (by kernel_rfl) rfl) rfl ?_
  unfold ResT tZ tL
  rw [HC.out]
  exact ⟨_, rfl, OwnI.nil _ _, hB⟩
set_option maxHeartbeats 4000000 in
theorem implPol_bn (p n m : Int) (w : World) (hp : primeB p = true) (hn : sideB n = false) :
    Calls Try.prog 24 #[.int .i64 p, .int .i64 n, .int .i64 m] w (ResT w (tZ (polCode p n m) p) (tZ (polCode p n m) n) (tZ (polCode p n m) m) (tZ (polCode p n m) (n + m - 1)) (tL (polCode p n m) (polL p n.toNat m.toNat (n + m - 1).toNat)) (polCode p n m)) := by
  have hB := Below.refl w.heap.size w
  have HC : Hid (polCode p n m = 2) := Lib.hid (by unfold polCode; rw [if_neg (by simp [hn])])
  have HP := Lib.hid hp
  have HN := Lib.hid hn
  clear hp hn
  go_enter Try.func24, Try.ntmps24
  go_upto_region 0 with (fail)
  refine wp_region_lit ?_
  refine ls_op rfl (fun K' hK' => ?_)
  have lz1 := hB.size
  refine wp_new (some 6) rfl (al_impl_Tensor rfl) (fun Wz2 nnz3 => ?_)
  have bz4 := nnz3.below (Below.refl _ _) (Nat.le_refl _)
  replace hB := below_after hB bz4
  have hz5 : At Wz2 w.heap.size (.cells #[.int .i64 0, .int .i64 0, .int .i64 0, .int .i64 0, .slice none 0 0] 31 (0, 0)) := nnz3.at_
  refine hK' _ _ ?_
  clear hK' K' nnz3 bz4
  go_frame
  refine ls_ex (some 7) (.int .i64 0) rfl rfl (exec_assign _ rfl (.int .i64 0) rfl) ?_
  go_frame
  refine wpList_nil ?_
  go_upto_region 1 with (fail)
  refine wp_region_lit ?_
  refine ls_ex (some 9) (.int .i64 p) rfl rfl (exec_move _ rfl (.int .i64 p) rfl) ?_
  go_frame
  refine ls_op rfl (fun K' hK' => ?_)
  have lz8 := hB.size
  have lz9 := hz5.lt
  refine wp_call1 (some 10) rfl 43 _ _ rfl (fun args w => by kernel_rfl) _ rfl _ (isPrime_c p _) (fun e Wz6 h => ?_)
  obtain ⟨rfl, rfl⟩ := h
  rw [HP.out]
  refine ⟨_, rfl, ?_⟩
  refine hK' _ _ ?_
  clear hK' K'
  go_frame
  refine ls_ex (some 11) (.bool false) rfl rfl (exec_not _ _ rfl true rfl) ?_
  go_frame
  refine ls_ex (some 12) (.bool false) rfl rfl (exec_move _ rfl (.bool false) rfl) ?_
  go_frame
  refine ls_ex_g (some 13) (.int .i64 n) rfl rfl (exec_move _ rfl (.int .i64 n) rfl) ?_
  go_frame
  refine ls_op_g rfl (fun K' hK' => ?_)
  have lz12 := hB.size
  have lz13 := hz5.lt
  refine wp_call3 (some 14) rfl 44 _ _ _ _ rfl (fun args w => by kernel_rfl) _ _ _ rfl rfl rfl _ (isBetween9_c n _) (fun e Wz10 h => ?_)
  obtain ⟨rfl, rfl⟩ := h
  rw [HN.out]
  refine ⟨_, rfl, ?_⟩
  refine hK' _ _ ?_
  clear hK' K'
  go_frame
  refine ls_ex_g (some 15) (.bool true) rfl rfl (exec_not _ _ rfl false rfl) ?_
  go_frame
  refine ls_ex (some 16) (.bool true) rfl rfl (exec_pick _ _ _ rfl false rfl (.bool true) rfl) ?_
  go_frame
  refine ls_ex (some 17) (.bool true) rfl rfl (exec_move _ rfl (.bool true) rfl) ?_
  go_frame
  refine ls_skip_g (some 18) rfl rfl ?_
  go_frame
  refine ls_skip_g (some 19) rfl rfl ?_
  go_frame
  refine ls_skip_g (some 20) rfl rfl ?_
  go_frame
  refine ls_ex (some 21) (.bool true) rfl rfl (exec_pick _ _ _ rfl true rfl (.bool true) rfl) ?_
  go_frame
  refine wpList_nil ?_
  go_upto_region 2 with (fail)
  refine wp_region_lit ?_
  refine ls_ex (some 22) (.agg #[.int .i64 0, .int .i64 0, .int .i64 0, .int .i64 0, .slice none 0 0]) rfl rfl (exec_build_nil 31 rfl _ (by kernel_rfl)) ?_
  go_frame
  refine ls_op rfl (fun K' hK' => ?_)
  refine wp_store_all 31 _ _ rfl rfl w.heap.size rfl #[.int .i64 0, .int .i64 0, .int .i64 0, .int .i64 0, .slice none 0 0] rfl _ _ hz5 5 (by kernel_rfl) rfl rfl (one5 _ _ _ _ _ _ _) (fun Wz14 pz15 => ?_)
  replace hB := pz15.below hB (by omega)
  replace hz5 : At Wz14 w.heap.size (.cells #[.int .i64 0, .int .i64 0, .int .i64 0, .int .i64 0, .slice none 0 0] 31 (0, 0)) := pz15.at_
  refine hK' _ _ ?_
  clear hK' K' pz15
  refine ls_ex (some 7) (.int .i64 2) rfl rfl (exec_assign _ rfl (.int .i64 2) rfl) ?_
  go_frame
  refine wpList_nil ?_
  go_wp2_with fail
  refine bodyPost_ret (results_at2 rfl _ _ w.heap.size _ _ _ rfl _ rfl hz5 Try.underlying31 rfl 5 (by kernel_rfl) rfl) rfl ?_
  unfold ResT tZ tL
  rw [HC.out]
  exact ⟨_, rfl, OwnI.nil _ _, hB⟩
set_option maxHeartbeats 4000000 in
theorem implPol_bm (p n m : Int) (w : World) (hp : primeB p = true) (hn : sideB n = true) (hm : sideB m = false) :
    Calls Try.prog 24 #[.int .i64 p, .int .i64 n, .int .i64 m] w (ResT w (tZ (polCode p n m) p) (tZ (polCode p n m) n) (tZ (polCode p n m) m) (tZ (polCode p n m) (n + m - 1)) (tL (polCode p n m) (polL p n.toNat m.toNat (n + m - 1).toNat)) (polCode p n m)) := by
  have hB := Below.refl w.heap.size w
  have HC : Hid (polCode p n m = 2) := Lib.hid (by unfold polCode; rw [if_neg (by simp [hm])])
  have HP := Lib.hid hp
  have HN := Lib.hid hn
  have HM := Lib.hid hm
  clear hp hn hm
  go_enter Try.func24, Try.ntmps24
  go_upto_region 0 with (fail)
  refine wp_region_lit ?_
  refine ls_op rfl (fun K' hK' => ?_)
  have lz1 := hB.size
  refine wp_new (some 6) rfl (al_impl_Tensor rfl) (fun Wz2 nnz3 => ?_)
  have bz4 := nnz3.below (Below.refl _ _) (Nat.le_refl _)
  replace hB := below_after hB bz4
  have hz5 : At Wz2 w.heap.size (.cells #[.int .i64 0, .int .i64 0, .int .i64 0, .int .i64 0, .slice none 0 0] 31 (0, 0)) := nnz3.at_
  refine hK' _ _ ?_
  clear hK' K' nnz3 bz4
  go_frame
  refine ls_ex (some 7) (.int .i64 0) rfl rfl (exec_assign _ rfl (.int .i64 0) rfl) ?_
  go_frame
  refine wpList_nil ?_
  go_upto_region 1 with (fail)
  refine wp_region_lit ?_
  refine ls_ex (some 9) (.int .i64 p) rfl rfl (exec_move _ rfl (.int .i64 p) rfl) ?_
  go_frame
  refine ls_op rfl (fun K' hK' => ?_)
  have lz8 := hB.size
  have lz9 := hz5.lt
  refine wp_call1 (some 10) rfl 43 _ _ rfl (fun args w => by kernel_rfl) _ rfl _ (isPrime_c p _) (fun e Wz6 h => ?_)
  obtain ⟨rfl, rfl⟩ := h
  rw [HP.out]
  refine ⟨_, rfl, ?_⟩
  refine hK' _ _ ?_
  clear hK' K'
  go_frame
  refine ls_ex (some 11) (.bool false) rfl rfl (exec_not _ _ rfl true rfl) ?_
  go_frame
  refine ls_ex (some 12) (.bool false) rfl rfl (exec_move _ rfl (.bool false) rfl) ?_
  go_frame
  refine ls_ex_g (some 13) (.int .i64 n) rfl rfl (exec_move _ rfl (.int .i64 n) rfl) ?_
  go_frame
  refine ls_op_g rfl (fun K' hK' => ?_)
  have lz12 := hB.size
  have lz13 := hz5.lt
  refine wp_call3 (some 14) rfl 44 _ _ _ _ rfl (fun args w => by kernel_rfl) _ _ _ rfl rfl rfl _ (isBetween9_c n _) (fun e Wz10 h => ?_)
  obtain ⟨rfl, rfl⟩ := h
  rw [HN.out]
  refine ⟨_, rfl, ?_⟩
  refine hK' _ _ ?_
  clear hK' K'
  go_frame
  refine ls_ex_g (some 15) (.bool false) rfl rfl (exec_not _ _ rfl true rfl) ?_
  go_frame
  refine ls_ex (some 16) (.bool false) rfl rfl (exec_pick _ _ _ rfl false rfl (.bool false) rfl) ?_
  go_frame
  refine ls_ex (some 17) (.bool false) rfl rfl (exec_move _ rfl (.bool false) rfl) ?_
  go_frame
  refine ls_ex_g (some 18) (.int .i64 m) rfl rfl (exec_move _ rfl (.int .i64 m) rfl) ?_
  go_frame
  refine ls_op_g rfl (fun K' hK' => ?_)
  have lz16 := hB.size
  have lz17 := hz5.lt
  refine wp_call3 (some 19) rfl 44 _ _ _ _ rfl (fun args w => by kernel_rfl) _ _ _ rfl rfl rfl _ (isBetween9_c m _) (fun e Wz14 h => ?_)
  obtain ⟨rfl, rfl⟩ := h
  rw [HM.out]
  refine ⟨_, rfl, ?_⟩
  refine hK' _ _ ?_
  clear hK' K'
  go_frame
  refine ls_ex_g (some 20) (.bool true) rfl rfl (exec_not _ _ rfl false rfl) ?_
  go_frame
  refine ls_ex (some 21) (.bool true) rfl rfl (exec_pick _ _ _ rfl false rfl (.bool true) rfl) ?_
  go_frame
  refine wpList_nil ?_
  go_upto_region 2 with (fail)
  refine wp_region_lit ?_
  refine ls_ex (some 22) (.agg #[.int .i64 0, .int .i64 0, .int .i64 0, .int .i64 0, .slice none 0 0]) rfl rfl (exec_build_nil 31 rfl _ (by kernel_rfl)) ?_
  go_frame
  refine ls_op rfl (fun K' hK' => ?_)
  refine wp_store_all 31 _ _ rfl rfl w.heap.size rfl #[.int .i64 0, .int .i64 0, .int .i64 0, .int .i64 0, .slice none 0 0] rfl _ _ hz5 5 (by kernel_rfl) rfl rfl (one5 _ _ _ _ _ _ _) (fun Wz18 pz19 => ?_)
  replace hB := pz19.below hB (by omega)
  replace hz5 : At Wz18 w.heap.size (.cells #[.int .i64 0, .int .i64 0, .int .i64 0, .int .i64 0, .slice none 0 0] 31 (0, 0)) := pz19.at_
  refine hK' _ _ ?_
  clear hK' K' pz19
  refine ls_ex (some 7) (.int .i64 2) rfl rfl (exec_assign _ rfl (.int .i64 2) rfl) ?_
  go_frame
  refine wpList_nil ?_
  go_wp2_with fail
  refine bodyPost_ret (results_at2 rfl _ _ w.heap.size _ _ _ rfl _ rfl hz5 Try.underlying31 rfl 5 (by kernel_rfl) rfl) rfl ?_
  unfold ResT tZ tL
  rw [HC.out]
  exact ⟨_, rfl, OwnI.nil _ _, hB⟩
set_option maxHeartbeats 4000000 in
theorem implPol_c (p n m : Int) (w : World) (hp : primeB p = true) (hn : sideB n = true) (hm : sideB m = true) (hl : 9 < n + m - 1) :
    Calls Try.prog 24 #[.int .i64 p, .int .i64 n, .int .i64 m] w (ResT w (tZ (polCode p n m) p) (tZ (polCode p n m) n) (tZ (polCode p n m) m) (tZ (polCode p n m) (n + m - 1)) (tL (polCode p n m) (polL p n.toNat m.toNat (n + m - 1).toNat)) (polCode p n m)) := by
  have hB := Below.refl w.heap.size w
  have HC : Hid (polCode p n m = 3) := Lib.hid (by unfold polCode; rw [if_pos (by simp [hp, hn, hm]), if_neg (by simp [sideB]; omega)])
  have hn9 := sideB_in9 hn
  have hm9 := sideB_in9 hm
  have HA : Hid ((sideB n && sideB m && sideB ((n + m) - 1)) = false) := Lib.hid (by simp [sideB]; omega)
  have HP := Lib.hid hp
  have HN := Lib.hid hn
  have HM := Lib.hid hm
  clear hp hn hm
  go_enter Try.func24, Try.ntmps24
  go_upto_region 0 with (fail)
  refine wp_region_lit ?_
  refine ls_op rfl (fun K' hK' => ?_)
  have lz1 := hB.size
  refine wp_new (some 6) rfl (al_impl_Tensor rfl) (fun Wz2 nnz3 => ?_)
  have bz4 := nnz3.below (Below.refl _ _) (Nat.le_refl _)
  replace hB := below_after hB bz4
  have hz5 : At Wz2 w.heap.size (.cells #[.int .i64 0, .int .i64 0, .int .i64 0, .int .i64 0, .slice none 0 0] 31 (0, 0)) := nnz3.at_
  refine hK' _ _ ?_
  clear hK' K' nnz3 bz4
  go_frame
  refine ls_ex (some 7) (.int .i64 0) rfl rfl (exec_assign _ rfl (.int .i64 0) rfl) ?_
  go_frame
  refine wpList_nil ?_
  go_upto_region 1 with (fail)
  refine wp_region_lit ?_
  refine ls_ex (some 9) (.int .i64 p) rfl rfl (exec_move _ rfl (.int .i64 p) rfl) ?_
  go_frame
  refine ls_op rfl (fun K' hK' => ?_)
  have lz8 := hB.size
  have lz9 := hz5.lt
  refine wp_call1 (some 10) rfl 43 _ _ rfl (fun args w => by kernel_rfl) _ rfl _ (isPrime_c p _) (fun e Wz6 h => ?_)
  obtain ⟨rfl, rfl⟩ := h
  rw [HP.out]
  refine ⟨_, rfl, ?_⟩
  refine hK' _ _ ?_
  clear hK' K'
  go_frame
  refine ls_ex (some 11) (.bool false) rfl rfl (exec_not _ _ rfl true rfl) ?_
  go_frame
  refine ls_ex (some 12) (.bool false) rfl rfl (exec_move _ rfl (.bool false) rfl) ?_
  go_frame
  refine ls_ex_g (some 13) (.int .i64 n) rfl rfl (exec_move _ rfl (.int .i64 n) rfl) ?_
  go_frame
  refine ls_op_g rfl (fun K' hK' => ?_)
  have lz12 := hB.size
  have lz13 := hz5.lt
  refine wp_call3 (some 14) rfl 44 _ _ _ _ rfl (fun args w => by kernel_rfl) _ _ _ rfl rfl rfl _ (isBetween9_c n _) (fun e Wz10 h => ?_)
  obtain ⟨rfl, rfl⟩ := h
  rw [HN.out]
  refine ⟨_, rfl, ?_⟩
  refine hK' _ _ ?_
  clear hK' K'
  go_frame
  refine ls_ex_g (some 15) (.bool false) rfl rfl (exec_not _ _ rfl true rfl) ?_
  go_frame
  refine ls_ex (some 16) (.bool false) rfl rfl (exec_pick _ _ _ rfl false rfl (.bool false) rfl) ?_
  go_frame
  refine ls_ex (some 17) (.bool false) rfl rfl (exec_move _ rfl (.bool false) rfl) ?_
  go_frame
  refine ls_ex_g (some 18) (.int .i64 m) rfl rfl (exec_move _ rfl (.int .i64 m) rfl) ?_
  go_frame
  refine ls_op_g rfl (fun K' hK' => ?_)
  have lz16 := hB.size
  have lz17 := hz5.lt
  refine wp_call3 (some 19) rfl 44 _ _ _ _ rfl (fun args w => by kernel_rfl) _ _ _ rfl rfl rfl _ (isBetween9_c m _) (fun e Wz14 h => ?_)
  obtain ⟨rfl, rfl⟩ := h
  rw [HM.out]
  refine ⟨_, rfl, ?_⟩
  refine hK' _ _ ?_
  clear hK' K'
  go_frame
  refine ls_ex_g (some 20) (.bool false) rfl rfl (exec_not _ _ rfl true rfl) ?_
  go_frame
  refine ls_ex (some 21) (.bool false) rfl rfl (exec_pick _ _ _ rfl false rfl (.bool false) rfl) ?_
  go_frame
  refine wpList_nil ?_
  go_upto_region 3 with (fail)
  refine wp_region_lit ?_
  refine ls_ex (some 23) (.int .i64 n) rfl rfl (exec_move _ rfl (.int .i64 n) rfl) ?_
  go_frame
  refine ls_ex (some 24) (.int .i64 m) rfl rfl (exec_move _ rfl (.int .i64 m) rfl) ?_
  go_frame
  refine ls_ex (some 25) (.int .i64 n) rfl rfl (exec_move _ rfl (.int .i64 n) rfl) ?_
  go_frame
  refine ls_ex (some 26) (.int .i64 m) rfl rfl (exec_move _ rfl (.int .i64 m) rfl) ?_
  go_frame
  refine ls_ex (some 27) (.int .i64 (n + m)) rfl rfl (exec_add _ _ _ _ rfl n m (n + m) rfl rfl (IntWalk.i64_in _ (by omega))) ?_
  go_frame
  refine ls_ex (some 28) (.int .i64 ((n + m) - 1)) rfl rfl (exec_sub _ _ _ _ rfl ((n + m)) 1 ((n + m) - 1) rfl rfl (IntWalk.i64_in _ (by omega))) ?_
  go_frame
  refine ls_ex (some 29) (.agg #[.int .i64 n, .int .i64 m, .int .i64 ((n + m) - 1)]) rfl rfl (exec_build_box3p _ _ _ rfl n m ((n + m) - 1) rfl rfl rfl) ?_
  go_frame
  refine ls_op rfl (fun K' hK' => ?_)
  have lz18 := hB.size
  have lz19 := hz5.lt
  refine wp_new (some 8) rfl (al_impl_box rfl) (fun Wz20 nnz21 => ?_)
  have bz22 := nnz21.below (Below.refl _ _) (Nat.le_refl _)
  replace hB := below_after hB bz22
  replace hz5 := hz5.after bz22
  have hz23 : At Wz20 Wz2.heap.size (.cells #[.int .i64 0, .int .i64 0, .int .i64 0] 68 (0, 0)) := nnz21.at_
  refine hK' _ _ ?_
  clear hK' K' nnz21 bz22
  go_frame
  refine ls_op rfl (fun K' hK' => ?_)
  refine wp_store_all 68 _ _ rfl rfl Wz2.heap.size rfl #[.int .i64 n, .int .i64 m, .int .i64 ((n + m) - 1)] rfl _ _ hz23 3 (by kernel_rfl) rfl rfl (by intro x hx; simp at hx; rcases hx with rfl | rfl | rfl <;> rfl) (fun Wz24 pz25 => ?_)
  replace hB := pz25.below hB (by omega)
  replace hz5 := pz25.other hz5 (by omega)
  replace hz23 : At Wz24 Wz2.heap.size (.cells #[.int .i64 n, .int .i64 m, .int .i64 ((n + m) - 1)] 68 (0, 0)) := pz25.at_
  refine hK' _ _ ?_
  clear hK' K' pz25
  refine wpList_nil ?_
  go_upto_region 4 with (fail)
  refine wp_region_lit ?_
  refine ls_ex (some 30) (.agg #[.int .i64 n, .int .i64 m, .int .i64 ((n + m) - 1)]) rfl rfl (exec_load_all 68 _ rfl Wz2.heap.size rfl _ _ _ hz23 Try.underlying68 rfl 3 (by kernel_rfl) rfl) ?_
  go_frame
  refine ls_op rfl (fun K' hK' => ?_)
  have lz28 := hB.size
  have lz29 := hz5.lt
  have lz30 := hz23.lt
  refine wp_call1 (some 31) rfl 50 _ _ rfl (fun args w => by kernel_rfl) _ rfl _ (isAllowed_c n m ((n + m) - 1) _) (fun e Wz26 h => ?_)
  obtain ⟨rfl, bz27⟩ := h
  replace hB := below_after hB bz27
  replace hz5 := hz5.after bz27
  replace hz23 := hz23.after bz27
  rw [HA.out]
  clear bz27
  refine ⟨_, rfl, ?_⟩
  refine hK' _ _ ?_
  clear hK' K'
  go_frame
  refine ls_ex (some 32) (.bool true) rfl rfl (exec_not _ _ rfl false rfl) ?_
  go_frame
  refine wpList_nil ?_
  go_upto_region 5 with (fail)
  refine wp_region_lit ?_
  refine ls_ex (some 33) (.agg #[.int .i64 0, .int .i64 0, .int .i64 0, .int .i64 0, .slice none 0 0]) rfl rfl (exec_build_nil 31 rfl _ (by kernel_rfl)) ?_
  go_frame
  refine ls_op rfl (fun K' hK' => ?_)
  refine wp_store_all 31 _ _ rfl rfl w.heap.size rfl #[.int .i64 0, .int .i64 0, .int .i64 0, .int .i64 0, .slice none 0 0] rfl _ _ hz5 5 (by kernel_rfl) rfl rfl (one5 _ _ _ _ _ _ _) (fun Wz31 pz32 => ?_)
  replace hB := pz32.below hB (by omega)
  replace hz23 := pz32.other hz23 (by omega)
  replace hz5 : At Wz31 w.heap.size (.cells #[.int .i64 0, .int .i64 0, .int .i64 0, .int .i64 0, .slice none 0 0] 31 (0, 0)) := pz32.at_
  refine hK' _ _ ?_
  clear hK' K' pz32
  refine ls_ex (some 7) (.int .i64 3) rfl rfl (exec_assign _ rfl (.int .i64 3) rfl) ?_
  go_frame
  refine wpList_nil ?_
  go_wp2_with fail
  refine bodyPost_ret (results_at2 rfl _ _ w.heap.size _ _ _ rfl _ rfl hz5 Try.underlying31 rfl 5 (by kernel_rfl) rfl) rfl ?_
  unfold ResT tZ tL
  rw [HC.out]
  exact ⟨_, rfl, OwnI.nil _ _, hB⟩
set_option maxHeartbeats 12800000 in
theorem implPol_y (p : Int) (n m K : Nat) (w : World) (hp : primeB p = true) (hn : sideB n = true) (hm : sideB m = true) (hK : n + m = K + 1) (hK9 : 1 ≤ K ∧ K ≤ 9) :
    Calls Try.prog 24 #[.int .i64 p, .int .i64 n, .int .i64 m] w (ResT w (tZ (polCode p n m) p) (tZ (polCode p n m) n) (tZ (polCode p n m) m) (tZ (polCode p n m) K) (tL (polCode p n m) (polL p n m K)) (polCode p n m)) := by
  have hB := Below.refl w.heap.size w
  have HC : Hid (polCode p n m = 0) := Lib.hid (by unfold polCode; rw [if_pos (by simp [hp, hn, hm]), if_pos (by simp [sideB]; omega)])
  have hn9 : 1 ≤ n ∧ n ≤ 9 := by have := sideB_in9 hn; omega
  have hm9 : 1 ≤ m ∧ m ≤ 9 := by have := sideB_in9 hm; omega
  have HKs : Hid (IntKind.i64.wrap ((n : Int) + (m : Int) - 1) = (K : Int)) := Lib.hid (by rw [show (n : Int) + (m : Int) - 1 = (K : Int) by omega]; exact IntWalk.i64_in _ (by omega))
  have HK : Hid (sideB K = true) := Lib.hid (by simp [sideB]; omega)
  have HA : Hid ((sideB n && sideB m && sideB K) = true) := Lib.hid (by rw [hn, hm, HK.out]; rfl)
  have hp5 := prime_le5 hp
  have hNN := places_729 (n0 := n) (n1 := m) (n2 := K) (by omega) (by omega) (by omega)
  obtain ⟨N, hNe⟩ : ∃ N, n * m * K = N := ⟨_, rfl⟩
  rw [hNe] at hNN
  have HNe := Lib.hid hNe
  have HNl : Hid ((polL p n m K).length = N) := Lib.hid (by rw [polL_len, hNe])
  have HZ : Hid (polP n m K 0 = List.replicate N 0) := Lib.hid (by rw [polP_zero, hNe])
  have HOw : Hid (∀ (g : Nat) (W : World), At W g (.cells (iar (polL p n m K)) 2 (0, 0)) → OwnI W g (.slice (some ⟨g, 0, none⟩) N N) (polL p n m K)) := Lib.hid (fun g W h => by have h9 := OwnI.of_at h (Nat.le_refl g) (by rw [polL_len, hNe]; omega); rwa [polL_len, hNe] at h9)
  have HP := Lib.hid hp
  have HN := Lib.hid hn
  have HM := Lib.hid hm
  clear hp hn hm hNe
  go_enter Try.func24, Try.ntmps24
  go_upto_region 0 with (fail)
  refine wp_region_lit ?_
  refine ls_op rfl (fun K' hK' => ?_)
  have lz1 := hB.size
  refine wp_new (some 6) rfl (al_impl_Tensor rfl) (fun Wz2 nnz3 => ?_)
  have bz4 := nnz3.below (Below.refl _ _) (Nat.le_refl _)
  replace hB := below_after hB bz4
  have hz5 : At Wz2 w.heap.size (.cells #[.int .i64 0, .int .i64 0, .int .i64 0, .int .i64 0, .slice none 0 0] 31 (0, 0)) := nnz3.at_
  refine hK' _ _ ?_
  clear hK' K' nnz3 bz4
  go_frame
  refine ls_ex (some 7) (.int .i64 0) rfl rfl (exec_assign _ rfl (.int .i64 0) rfl) ?_
  go_frame
  refine wpList_nil ?_
  go_upto_region 1 with (fail)
  refine wp_region_lit ?_
  refine ls_ex (some 9) (.int .i64 p) rfl rfl (exec_move _ rfl (.int .i64 p) rfl) ?_
  go_frame
  refine ls_op rfl (fun K' hK' => ?_)
  have lz8 := hB.size
  have lz9 := hz5.lt
  refine wp_call1 (some 10) rfl 43 _ _ rfl (fun args w => by kernel_rfl) _ rfl _ (isPrime_c p _) (fun e Wz6 h => ?_)
  obtain ⟨rfl, rfl⟩ := h
  rw [HP.out]
  refine ⟨_, rfl, ?_⟩
  refine hK' _ _ ?_
  clear hK' K'
  go_frame
  refine ls_ex (some 11) (.bool false) rfl rfl (exec_not _ _ rfl true rfl) ?_
  go_frame
  refine ls_ex (some 12) (.bool false) rfl rfl (exec_move _ rfl (.bool false) rfl) ?_
  go_frame
  refine ls_ex_g (some 13) (.int .i64 n) rfl rfl (exec_move _ rfl (.int .i64 n) rfl) ?_
  go_frame
  refine ls_op_g rfl (fun K' hK' => ?_)
  have lz12 := hB.size
  have lz13 := hz5.lt
  refine wp_call3 (some 14) rfl 44 _ _ _ _ rfl (fun args w => by kernel_rfl) _ _ _ rfl rfl rfl _ (isBetween9_c n _) (fun e Wz10 h => ?_)
  obtain ⟨rfl, rfl⟩ := h
  rw [HN.out]
  refine ⟨_, rfl, ?_⟩
  refine hK' _ _ ?_
  clear hK' K'
  go_frame
  refine ls_ex_g (some 15) (.bool false) rfl rfl (exec_not _ _ rfl true rfl) ?_
  go_frame
  refine ls_ex (some 16) (.bool false) rfl rfl (exec_pick _ _ _ rfl false rfl (.bool false) rfl) ?_
  go_frame
  refine ls_ex (some 17) (.bool false) rfl rfl (exec_move _ rfl (.bool false) rfl) ?_
  go_frame
  refine ls_ex_g (some 18) (.int .i64 m) rfl rfl (exec_move _ rfl (.int .i64 m) rfl) ?_
  go_frame
  refine ls_op_g rfl (fun K' hK' => ?_)
  have lz16 := hB.size
  have lz17 := hz5.lt
  refine wp_call3 (some 19) rfl 44 _ _ _ _ rfl (fun args w => by kernel_rfl) _ _ _ rfl rfl rfl _ (isBetween9_c m _) (fun e Wz14 h => ?_)
  obtain ⟨rfl, rfl⟩ := h
  rw [HM.out]
  refine ⟨_, rfl, ?_⟩
  refine hK' _ _ ?_
  clear hK' K'
  go_frame
  refine ls_ex_g (some 20) (.bool false) rfl rfl (exec_not _ _ rfl true rfl) ?_
  go_frame
  refine ls_ex (some 21) (.bool false) rfl rfl (exec_pick _ _ _ rfl false rfl (.bool false) rfl) ?_
  go_frame
  refine wpList_nil ?_
  go_upto_region 3 with (fail)
  refine wp_region_lit ?_
  refine ls_ex (some 23) (.int .i64 n) rfl rfl (exec_move _ rfl (.int .i64 n) rfl) ?_
  go_frame
  refine ls_ex (some 24) (.int .i64 m) rfl rfl (exec_move _ rfl (.int .i64 m) rfl) ?_
  go_frame
  refine ls_ex (some 25) (.int .i64 n) rfl rfl (exec_move _ rfl (.int .i64 n) rfl) ?_
  go_frame
  refine ls_ex (some 26) (.int .i64 m) rfl rfl (exec_move _ rfl (.int .i64 m) rfl) ?_
  go_frame
  refine ls_ex (some 27) (.int .i64 (n + m)) rfl rfl (exec_add _ _ _ _ rfl n m (n + m) rfl rfl (IntWalk.i64_in _ (by omega))) ?_
  go_frame
  refine ls_ex (some 28) (.int .i64 K) rfl rfl (exec_sub _ _ _ _ rfl (n + m) 1 K rfl rfl HKs.out) ?_
  go_frame
  refine ls_ex (some 29) (.agg #[.int .i64 n, .int .i64 m, .int .i64 K]) rfl rfl (exec_build_box3p _ _ _ rfl n m K rfl rfl rfl) ?_
  go_frame
  refine ls_op rfl (fun K' hK' => ?_)
  have lz18 := hB.size
  have lz19 := hz5.lt
  refine wp_new (some 8) rfl (al_impl_box rfl) (fun Wz20 nnz21 => ?_)
  have bz22 := nnz21.below (Below.refl _ _) (Nat.le_refl _)
  replace hB := below_after hB bz22
  replace hz5 := hz5.after bz22
  have hz23 : At Wz20 Wz2.heap.size (.cells #[.int .i64 0, .int .i64 0, .int .i64 0] 68 (0, 0)) := nnz21.at_
  refine hK' _ _ ?_
  clear hK' K' nnz21 bz22
  go_frame
  refine ls_op rfl (fun K' hK' => ?_)
  refine wp_store_all 68 _ _ rfl rfl Wz2.heap.size rfl #[.int .i64 n, .int .i64 m, .int .i64 K] rfl _ _ hz23 3 (by kernel_rfl) rfl rfl (by intro x hx; simp at hx; rcases hx with rfl | rfl | rfl <;> rfl) (fun Wz24 pz25 => ?_)
  replace hB := pz25.below hB (by omega)
  replace hz5 := pz25.other hz5 (by omega)
  replace hz23 : At Wz24 Wz2.heap.size (.cells #[.int .i64 n, .int .i64 m, .int .i64 K] 68 (0, 0)) := pz25.at_
  refine hK' _ _ ?_
  clear hK' K' pz25
  refine wpList_nil ?_
  go_upto_region 4 with (fail)
  refine wp_region_lit ?_
  refine ls_ex (some 30) (.agg #[.int .i64 n, .int .i64 m, .int .i64 K]) rfl rfl (exec_load_all 68 _ rfl Wz2.heap.size rfl _ _ _ hz23 Try.underlying68 rfl 3 (by kernel_rfl) rfl) ?_
  go_frame
  refine ls_op rfl (fun K' hK' => ?_)
  have lz28 := hB.size
  have lz29 := hz5.lt
  have lz30 := hz23.lt
  refine wp_call1 (some 31) rfl 50 _ _ rfl (fun args w => by kernel_rfl) _ rfl _ (isAllowed_c n m K _) (fun e Wz26 h => ?_)
  obtain ⟨rfl, bz27⟩ := h
  replace hB := below_after hB bz27
  replace hz5 := hz5.after bz27
  replace hz23 := hz23.after bz27
  rw [HA.out]
  clear bz27
  refine ⟨_, rfl, ?_⟩
  refine hK' _ _ ?_
  clear hK' K'
  go_frame
  refine ls_ex (some 32) (.bool false) rfl rfl (exec_not _ _ rfl true rfl) ?_
  go_frame
  refine wpList_nil ?_
  go_upto_region 6 with (fail)
  refine wp_region_lit ?_
  refine ls_ex (some 34) (.int .i64 p) rfl rfl (exec_move _ rfl (.int .i64 p) rfl) ?_
  go_frame
  refine ls_ex (some 35) (.agg #[.int .i64 n, .int .i64 m, .int .i64 K]) rfl rfl (exec_load_all 68 _ rfl Wz2.heap.size rfl _ _ _ hz23 Try.underlying68 rfl 3 (by kernel_rfl) rfl) ?_
  go_frame
  refine ls_op rfl (fun K' hK' => ?_)
  have lz33 := hB.size
  have lz34 := hz5.lt
  have lz35 := hz23.lt
  refine wp_call3 (some 36) rfl 51 _ _ _ _ rfl (fun args w => by kernel_rfl) _ _ _ rfl rfl rfl _ (tensorOfOnesPol_c p n m K polB _ (by omega) HN.out HM.out HK.out (fun i j k w9 hi hj _ _ => pol1_c i j k w9 (by omega) (by omega))) (fun e Wz31 h => ?_)
  obtain ⟨v7, rfl, ho, bz32⟩ := h
  replace hB := below_after hB bz32
  replace hz5 := hz5.after bz32
  replace hz23 := hz23.after bz32
  rw [show genL m K p (oneF polB) (n * m * K) = polL p n m K from rfl] at ho
  obtain ⟨A7, c7, rfl, _⟩ := ho.rd
  rw [HNl.out] at ho ⊢
  clear bz32
  refine ⟨_, rfl, ?_⟩
  refine hK' _ _ ?_
  clear hK' K'
  go_frame
  refine ls_op rfl (fun K' hK' => ?_)
  refine wp_store_all 31 _ _ rfl rfl w.heap.size rfl #[.int .i64 p, .int .i64 n, .int .i64 m, .int .i64 K, .slice A7 N c7] rfl _ _ hz5 5 (by kernel_rfl) rfl rfl (one5 _ _ _ _ _ _ _) (fun Wz36 pz37 => ?_)
  replace hB := pz37.below hB (by omega)
  replace hz23 := pz37.other hz23 (by omega)
  replace ho := ho.put pz37 (ho.ne_lt9 (by omega))
  replace hz5 : At Wz36 w.heap.size (.cells #[.int .i64 p, .int .i64 n, .int .i64 m, .int .i64 K, .slice A7 N c7] 31 (0, 0)) := pz37.at_
  refine hK' _ _ ?_
  clear hK' K' pz37
  refine ls_ex (some 7) (.int .i64 0) rfl rfl (exec_assign _ rfl (.int .i64 0) rfl) ?_
  go_frame
  refine wpList_nil ?_
  go_wp2_with fail
  refine bodyPost_ret (results_at2 rfl _ _ w.heap.size _ _ _ rfl _ rfl hz5 Try.underlying31 rfl 5 (by kernel_rfl) rfl) rfl ?_
  unfold ResT tZ tL
  rw [HC.out]
  exact ⟨_, rfl, ho.mono (by omega), hB⟩
theorem implPolynomialTensor_c (p n m : Int) (w : World) : Calls Try.prog 24 #[.int .i64 p, .int .i64 n, .int .i64 m] w (ResT w (tZ (polCode p n m) p) (tZ (polCode p n m) n) (tZ (polCode p n m) m) (tZ (polCode p n m) (n + m - 1)) (tL (polCode p n m) (polL p n.toNat m.toNat (n + m - 1).toNat)) (polCode p n m)) := by
  cases hp : primeB p with
  | false => exact implPol_a p n m w hp
  | true =>
    cases hn : sideB n with
    | false => exact implPol_bn p n m w hp hn
    | true =>
      cases hm : sideB m with
      | false => exact implPol_bm p n m w hp hn hm
      | true =>
        by_cases hl : 9 < n + m - 1
        · exact implPol_c p n m w hp hn hm hl
        · have hn9 := sideB_in9 hn
          have hm9 := sideB_in9 hm
          obtain ⟨a, rfl⟩ := Int.eq_ofNat_of_zero_le (show 0 ≤ n by omega)
          obtain ⟨b, rfl⟩ := Int.eq_ofNat_of_zero_le (show 0 ≤ m by omega)
          obtain ⟨K, hK⟩ : ∃ K : Nat, (a : Int) + (b : Int) - 1 = (K : Int) := Int.eq_ofNat_of_zero_le (by omega)
          have h := implPol_y p a b K w hp hn hm (by omega) (by omega)
          rw [hK]
          exact h
theorem pol_len {p n m : Int} : (tL (polCode p n m) (polL p n.toNat m.toNat (n + m - 1).toNat)).length ≤ 1048576 := tL_len fun h => by
  unfold polCode at h
  split at h
  · next h2 =>
    split at h
    · next h3 =>
      simp only [Bool.and_eq_true] at h2
      have h4 := sideB_in9 h2.1.2
      have h5 := sideB_in9 h2.2
      have h6 := sideB_in9 h3
      rw [polL_len]
      have := places_729 (n0 := n.toNat) (n1 := m.toNat) (n2 := (n + m - 1).toNat) (by omega) (by omega) (by omega)
      omega
    · omega
  · omega
end Go.Proofs.Ytdbcgbbokodndaa
