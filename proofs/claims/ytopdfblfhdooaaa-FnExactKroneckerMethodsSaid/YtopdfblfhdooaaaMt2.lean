/-
  Method.sides, box.formShapes, spec.l09Is, IsMethod of both sides. (Made by mkmt2.py.)
-/
import Derived.Test.YtopdfblfhdooaaaImplIs
import Derived.Test.YtopdfblfhdooaaaTen3
import Derived.Test.YtopdfblfhdooaaaMth1
namespace Go.Proofs.Ytopdfblfhdooaaa
open Go.RowKit
set_option maxRecDepth 100000
/-- The lengths of a method's sides, and its products. -/
def mC (i j k : Int) (a : Nat) : Int := if a = 0 then i else if a = 1 then j else k
def mR (_ : Nat) : Int := 1
def prodM (p i j k : Int) (q : List Nat) : Bool := formB p (segm q 0 9) i && formB p (segm q 9 9) j && formB p (segm q 18 9) k && !zeroB (segm q 0 9) && !zeroB (segm q 9 9) && !zeroB (segm q 18 9)
theorem prodM_G (p i j k : Int) (q : List Nat) : prodG p mR (mC i j k) q = prodM p i j k q := by
  simp only [prodM, prodG, facG, mR, mC, Int.one_mul, Nat.zero_mul, Nat.one_mul, show 2 * 9 = 18 from rfl, show ¬ (1 : Nat) = 0 by omega, show ¬ (2 : Nat) = 0 by omega, show ¬ (2 : Nat) = 1 by omega, if_true, if_false]
  cases formB p (segm q 0 9) i <;> cases formB p (segm q 9 9) j <;> cases formB p (segm q 18 9) k <;> cases zeroB (segm q 0 9) <;> cases zeroB (segm q 9 9) <;> cases zeroB (segm q 18 9) <;> rfl
def methB (p i j k : Int) (qs : List (List Nat)) : Bool := primeB p && (sideB i && sideB j && sideB k) && (decide (qs.length ≤ 30) && qs.all (prodM p i j k))
theorem areM (p i j k : Int) (qs : List (List Nat)) : areB p mR (mC i j k) qs = (decide (qs.length ≤ 30) && qs.all (prodM p i j k)) := by
  unfold areB
  rw [show prodG p mR (mC i j k) = prodM p i j k from funext (prodM_G p i j k)]
theorem methB_parts {p i j k : Int} {qs : List (List Nat)} (h : methB p i j k qs = true) : primeB p = true ∧ sideB i = true ∧ sideB j = true ∧ sideB k = true ∧ qs.length ≤ 30 ∧ ∀ q ∈ qs, prodM p i j k q = true := by
  simp only [methB, Bool.and_eq_true, decide_eq_true_eq, List.all_eq_true] at h
  exact ⟨h.1.1, h.1.2.1.1, h.1.2.1.2, h.1.2.2, h.2.1, h.2.2⟩
def mProds (p i j k : Int) (qs : List (List Nat)) (a : Nat) : Bool := (qs.take a).all (prodM p i j k)
theorem mProds_step {p i j k : Int} {qs : List (List Nat)} {a : Nat} (h : a < qs.length) (h1 : mProds p i j k qs a = true) (h2 : prodM p i j k qs[a] = true) : mProds p i j k qs (a + 1) = true := by
  unfold mProds at *
  rw [List.take_succ_eq_append_getElem h, List.all_append, h1]
  simp [h2]
theorem methB_no {p i j k : Int} {qs : List (List Nat)} {a : Nat} (ha : a < qs.length) (h : prodM p i j k qs[a] = false) : methB p i j k qs = false := by
  have : qs.all (prodM p i j k) = false := by
    rw [List.all_eq_false]
    exact ⟨_, List.getElem_mem ha, by simp [h]⟩
  simp [methB, this]
theorem methB_yes {p i j k : Int} {qs : List (List Nat)} (hp : primeB p = true) (hi : sideB i = true) (hj : sideB j = true) (hk : sideB k = true) (hl : qs.length ≤ 30) (h : mProds p i j k qs qs.length = true) : methB p i j k qs = true := by
  unfold mProds at h
  rw [List.take_length] at h
  simp [methB, hp, hi, hj, hk, hl, h]
theorem Rd.c27m {w : World} {b off : Nat} {qs : List (List Nat)} (h : Rd w (some ⟨b, off, none⟩) qs) {i : Nat} (hi : i < qs.length) : ∀ j, j < 27 → w.cell? ⟨b, off + i * 27 + j, none⟩ = some (.int .u8 ((qs[i][j]?.getD 0 : Nat) : Int)) := by
  obtain ⟨b', off', hA0, hc⟩ := h.at_ hi
  cases hA0
  exact hc
theorem shapes_1 (i j k : Int) (hi : sideB i = true) (hj : sideB j = true) (hk : sideB k = true) : ShOk mR (mC i j k) := fun a _ w => by
  have hs : sideB (mC i j k a) = true := by unfold mC; split; exact hi; split; exact hj; exact hk
  generalize mC i j k a = x at *
  simp only [sideB, Bool.and_eq_true, decide_eq_true_eq] at hs
  have e1 : IntKind.i64.wrap (1 * x) = 1 * x := IntWalk.i64_in _ (by omega)
  unfold mR
  go_enter Try.func86, Try.ntmps86
  go_wp2_with fail
  go_ret
  exact ⟨by rw [Int.one_mul]; rfl, below1 _ _⟩
theorem areMethod_c (p i j k : Int) (A : Option Addr) (c : Nat) (qs : List (List Nat)) (w : World) (hR : Rd w A qs) (hlen : qs.length ≤ 1048576) (hp : primeB p = true) (hi : sideB i = true) (hj : sideB j = true) (hk : sideB k = true) :
    Calls Try.prog 55 #[.int .i64 p, .agg #[.int .i64 1, .int .i64 i, .int .i64 1, .int .i64 j, .int .i64 1, .int .i64 k], .slice A qs.length c] w fun e w' => e = .returned (.bool (decide (qs.length ≤ 30) && qs.all (prodM p i j k))) ∧ Below w.heap.size w w' := by
  rw [← areM]
  exact areProducts_c p mR (mC i j k) A c qs w hR hlen (primeB_pos hp) (shapes_1 i j k hi hj hk)
attribute [local irreducible] wpList
theorem al_impl_Product {o : Oper} {a : Act} {w : World} (ho : o.op = .alloc 53) : (execOp a.eval o).run Try.prog w = .ok (.value (.pointer (some ⟨w.heap.size, 0, none⟩))) (w.alloc (.cells (u8s (List.replicate 27 0)) 53 (0, 0))) := by
  unfold execOp
  rw [ho]
  kernel_rfl
theorem mSides_c (p i j k : Int) (v : Value) (w : World) : Calls Try.prog 27 #[.agg #[.int .i64 p, .int .i64 i, .int .i64 j, .int .i64 k, v]] w fun e w' => e = .returned (.agg #[.int .i64 i, .int .i64 j, .int .i64 k]) ∧ Below w.heap.size w w' := by
  go_enter Try.func27, Try.ntmps27
  go_wp2_with fail
  refine bodyPost_ret (results_at rfl _ _ (w.heap.size + 1) _ _ _ rfl (al2_1 _ _ _) Try.underlying57 rfl 3 (by kernel_rfl) rfl) rfl ?_
  exact ⟨rfl, below2 _ _ _⟩
theorem formShapes_c (i j k : Int) (w : World) : Calls Try.prog 56 #[.agg #[.int .i64 i, .int .i64 j, .int .i64 k]] w fun e w' => e = .returned (.agg #[.int .i64 1, .int .i64 i, .int .i64 1, .int .i64 j, .int .i64 1, .int .i64 k]) ∧ Below w.heap.size w w' := by
  go_enter Try.func56, Try.ntmps56
  go_wp2_with fail
  refine bodyPost_ret (results_at rfl _ _ (w.heap.size + 1) _ _ _ rfl (al2_1 _ _ _) Try.underlying75 rfl 6 (by kernel_rfl) rfl) rfl ?_
  exact ⟨rfl, below2 _ _ _⟩
set_option maxHeartbeats 4000000 in
theorem l09Is_a (p i j k : Int) (A : Option Addr) (c : Nat) (qs : List (List Nat)) (w : World) (hR : Rd w A qs) (hlen : qs.length ≤ 1048576) (hp : primeB p = false) :
    Calls Try.prog 23 #[.agg #[.int .i64 p, .int .i64 i, .int .i64 j, .int .i64 k, .slice A qs.length c]] w (fun e w' => e = .returned (.bool (methB p i j k qs)) ∧ Below w.heap.size w w') := by
  have hB := Below.refl w.heap.size w
  have _u0 := hR
  have _u1 := hlen
  clear _u0 _u1
  have HNo : Hid (methB p i j k qs = false) := Lib.hid (by simp [methB, hp])
  have HP := Lib.hid hp
  clear hp
  go_enter Try.func23, Try.ntmps23
  go_upto_region 0 with (fail)
  refine wp_region_lit ?_
  refine ls_op rfl (fun K' hK' => ?_)
  have lz1 := hB.size
  refine wp_new (some 1) rfl (exec_box 28 _ rfl (#[.int .i64 p, .int .i64 i, .int .i64 j, .int .i64 k, .slice A qs.length c]) rfl) (fun Wz2 nnz3 => ?_)
  have bz4 := nnz3.below (Below.refl _ _) (Nat.le_refl _)
  replace hB := below_after hB bz4
  have hz5 : At Wz2 w.heap.size (.cells #[.int .i64 p, .int .i64 i, .int .i64 j, .int .i64 k, .slice A qs.length c] 28 (0, 0)) := nnz3.at_
  refine hK' _ _ ?_
  clear hK' K' nnz3 bz4
  go_frame
  refine ls_ex (some 2) (.bool false) rfl rfl (exec_assign _ rfl (.bool false) rfl) ?_
  go_frame
  refine wpList_nil ?_
  go_upto_region 1 with (fail)
  refine wp_region_lit ?_
  refine ls_ex (some 5) (.pointer (some ⟨w.heap.size, 0, none⟩)) rfl rfl (exec_fieldAddr 28 _ 0 rfl _ (by kernel_rfl)) ?_
  go_frame
  refine ls_ex (some 6) (.int .i64 p) rfl rfl (exec_load_one 2 _ rfl w.heap.size 0 rfl (.int .i64 p) _ Try.underlying2 rfl (hz5.at_ 0)) ?_
  go_frame
  refine ls_op rfl (fun K' hK' => ?_)
  have lz8 := hB.size
  have lz9 := hz5.lt
  refine wp_call1 (some 7) rfl 49 _ _ rfl (fun args w => by kernel_rfl) _ rfl _ (l01Prime_c p _) (fun e Wz6 h => ?_)
  obtain ⟨rfl, rfl⟩ := h
  rw [HP.out]
  refine ⟨_, rfl, ?_⟩
  refine hK' _ _ ?_
  clear hK' K'
  go_frame
  refine ls_ex (some 8) (.bool true) rfl rfl (exec_not _ _ rfl false rfl) ?_
  go_frame
  refine ls_ex (some 9) (.bool true) rfl rfl (exec_move _ rfl (.bool true) rfl) ?_
  go_frame
  refine ls_skip_g (some 10) rfl rfl ?_
  go_frame
  refine ls_skip_g (some 11) rfl rfl ?_
  go_frame
  refine ls_skip_g (some 12) rfl rfl ?_
  go_frame
  refine ls_skip_g (some 13) rfl rfl ?_
  go_frame
  refine ls_ex (some 14) (.bool true) rfl rfl (exec_pick _ _ _ rfl true rfl (.bool true) rfl) ?_
  go_frame
  refine ls_ex (some 15) (.bool true) rfl rfl (exec_move _ rfl (.bool true) rfl) ?_
  go_frame
  refine ls_skip_g (some 16) rfl rfl ?_
  go_frame
  refine ls_skip_g (some 17) rfl rfl ?_
  go_frame
  refine ls_skip_g (some 18) rfl rfl ?_
  go_frame
  refine ls_skip_g (some 19) rfl rfl ?_
  go_frame
  refine ls_ex (some 20) (.bool true) rfl rfl (exec_pick _ _ _ rfl true rfl (.bool true) rfl) ?_
  go_frame
  refine ls_ex (some 21) (.bool true) rfl rfl (exec_move _ rfl (.bool true) rfl) ?_
  go_frame
  refine ls_skip_g (some 22) rfl rfl ?_
  go_frame
  refine ls_skip_g (some 23) rfl rfl ?_
  go_frame
  refine ls_skip_g (some 24) rfl rfl ?_
  go_frame
  refine ls_skip_g (some 25) rfl rfl ?_
  go_frame
  refine ls_ex (some 26) (.bool true) rfl rfl (exec_pick _ _ _ rfl true rfl (.bool true) rfl) ?_
  go_frame
  refine ls_ex (some 27) (.bool true) rfl rfl (exec_move _ rfl (.bool true) rfl) ?_
  go_frame
  refine ls_skip_g (some 28) rfl rfl ?_
  go_frame
  refine ls_skip_g (some 29) rfl rfl ?_
  go_frame
  refine ls_skip_g (some 30) rfl rfl ?_
  go_frame
  refine ls_skip_g (some 31) rfl rfl ?_
  go_frame
  refine ls_ex (some 32) (.bool true) rfl rfl (exec_pick _ _ _ rfl true rfl (.bool true) rfl) ?_
  go_frame
  refine wpList_nil ?_
  go_upto_region 2 with (fail)
  refine wp_region_lit ?_
  refine ls_ex (some 2) (.bool false) rfl rfl (exec_assign _ rfl (.bool false) rfl) ?_
  go_frame
  refine wpList_nil ?_
  go_wp2_with fail
  go_ret
  exact ⟨by rw [HNo.out]; rfl, hB⟩
set_option maxHeartbeats 4000000 in
theorem l09Is_bi (p i j k : Int) (A : Option Addr) (c : Nat) (qs : List (List Nat)) (w : World) (hR : Rd w A qs) (hlen : qs.length ≤ 1048576) (hp : primeB p = true) (hi : sideB i = false) :
    Calls Try.prog 23 #[.agg #[.int .i64 p, .int .i64 i, .int .i64 j, .int .i64 k, .slice A qs.length c]] w (fun e w' => e = .returned (.bool (methB p i j k qs)) ∧ Below w.heap.size w w') := by
  have hB := Below.refl w.heap.size w
  have _u0 := hR
  have _u1 := hlen
  clear _u0 _u1
  have HNo : Hid (methB p i j k qs = false) := Lib.hid (by simp [methB, hi])
  have HP := Lib.hid hp
  have HI := Lib.hid hi
  clear hp hi
  go_enter Try.func23, Try.ntmps23
  go_upto_region 0 with (fail)
  refine wp_region_lit ?_
  refine ls_op rfl (fun K' hK' => ?_)
  have lz1 := hB.size
  refine wp_new (some 1) rfl (exec_box 28 _ rfl (#[.int .i64 p, .int .i64 i, .int .i64 j, .int .i64 k, .slice A qs.length c]) rfl) (fun Wz2 nnz3 => ?_)
  have bz4 := nnz3.below (Below.refl _ _) (Nat.le_refl _)
  replace hB := below_after hB bz4
  have hz5 : At Wz2 w.heap.size (.cells #[.int .i64 p, .int .i64 i, .int .i64 j, .int .i64 k, .slice A qs.length c] 28 (0, 0)) := nnz3.at_
  refine hK' _ _ ?_
  clear hK' K' nnz3 bz4
  go_frame
  refine ls_ex (some 2) (.bool false) rfl rfl (exec_assign _ rfl (.bool false) rfl) ?_
  go_frame
  refine wpList_nil ?_
  go_upto_region 1 with (fail)
  refine wp_region_lit ?_
  refine ls_ex (some 5) (.pointer (some ⟨w.heap.size, 0, none⟩)) rfl rfl (exec_fieldAddr 28 _ 0 rfl _ (by kernel_rfl)) ?_
  go_frame
  refine ls_ex (some 6) (.int .i64 p) rfl rfl (exec_load_one 2 _ rfl w.heap.size 0 rfl (.int .i64 p) _ Try.underlying2 rfl (hz5.at_ 0)) ?_
  go_frame
  refine ls_op rfl (fun K' hK' => ?_)
  have lz8 := hB.size
  have lz9 := hz5.lt
  refine wp_call1 (some 7) rfl 49 _ _ rfl (fun args w => by kernel_rfl) _ rfl _ (l01Prime_c p _) (fun e Wz6 h => ?_)
  obtain ⟨rfl, rfl⟩ := h
  rw [HP.out]
  refine ⟨_, rfl, ?_⟩
  refine hK' _ _ ?_
  clear hK' K'
  go_frame
  refine ls_ex (some 8) (.bool false) rfl rfl (exec_not _ _ rfl true rfl) ?_
  go_frame
  refine ls_ex (some 9) (.bool false) rfl rfl (exec_move _ rfl (.bool false) rfl) ?_
  go_frame
  refine ls_ex_g (some 10) (.pointer (some ⟨w.heap.size, 1, none⟩)) rfl rfl (exec_fieldAddr 28 _ 1 rfl _ (by kernel_rfl)) ?_
  go_frame
  refine ls_ex_g (some 11) (.int .i64 i) rfl rfl (exec_load_one 2 _ rfl w.heap.size 1 rfl (.int .i64 i) _ Try.underlying2 rfl (hz5.at_ 1)) ?_
  go_frame
  refine ls_op_g rfl (fun K' hK' => ?_)
  have lz12 := hB.size
  have lz13 := hz5.lt
  refine wp_call3 (some 12) rfl 50 _ _ _ _ rfl (fun args w => by kernel_rfl) _ _ _ rfl rfl rfl _ (l01In_side i _) (fun e Wz10 h => ?_)
  obtain ⟨rfl, rfl⟩ := h
  rw [HI.out]
  refine ⟨_, rfl, ?_⟩
  refine hK' _ _ ?_
  clear hK' K'
  go_frame
  refine ls_ex_g (some 13) (.bool true) rfl rfl (exec_not _ _ rfl false rfl) ?_
  go_frame
  refine ls_ex (some 14) (.bool true) rfl rfl (exec_pick _ _ _ rfl false rfl (.bool true) rfl) ?_
  go_frame
  refine ls_ex (some 15) (.bool true) rfl rfl (exec_move _ rfl (.bool true) rfl) ?_
  go_frame
  refine ls_skip_g (some 16) rfl rfl ?_
  go_frame
  refine ls_skip_g (some 17) rfl rfl ?_
  go_frame
  refine ls_skip_g (some 18) rfl rfl ?_
  go_frame
  refine ls_skip_g (some 19) rfl rfl ?_
  go_frame
  refine ls_ex (some 20) (.bool true) rfl rfl (exec_pick _ _ _ rfl true rfl (.bool true) rfl) ?_
  go_frame
  refine ls_ex (some 21) (.bool true) rfl rfl (exec_move _ rfl (.bool true) rfl) ?_
  go_frame
  refine ls_skip_g (some 22) rfl rfl ?_
  go_frame
  refine ls_skip_g (some 23) rfl rfl ?_
  go_frame
  refine ls_skip_g (some 24) rfl rfl ?_
  go_frame
  refine ls_skip_g (some 25) rfl rfl ?_
  go_frame
  refine ls_ex (some 26) (.bool true) rfl rfl (exec_pick _ _ _ rfl true rfl (.bool true) rfl) ?_
  go_frame
  refine ls_ex (some 27) (.bool true) rfl rfl (exec_move _ rfl (.bool true) rfl) ?_
  go_frame
  refine ls_skip_g (some 28) rfl rfl ?_
  go_frame
  refine ls_skip_g (some 29) rfl rfl ?_
  go_frame
  refine ls_skip_g (some 30) rfl rfl ?_
  go_frame
  refine ls_skip_g (some 31) rfl rfl ?_
  go_frame
  refine ls_ex (some 32) (.bool true) rfl rfl (exec_pick _ _ _ rfl true rfl (.bool true) rfl) ?_
  go_frame
  refine wpList_nil ?_
  go_upto_region 2 with (fail)
  refine wp_region_lit ?_
  refine ls_ex (some 2) (.bool false) rfl rfl (exec_assign _ rfl (.bool false) rfl) ?_
  go_frame
  refine wpList_nil ?_
  go_wp2_with fail
  go_ret
  exact ⟨by rw [HNo.out]; rfl, hB⟩
set_option maxHeartbeats 4000000 in
theorem l09Is_bj (p i j k : Int) (A : Option Addr) (c : Nat) (qs : List (List Nat)) (w : World) (hR : Rd w A qs) (hlen : qs.length ≤ 1048576) (hp : primeB p = true) (hi : sideB i = true) (hj : sideB j = false) :
    Calls Try.prog 23 #[.agg #[.int .i64 p, .int .i64 i, .int .i64 j, .int .i64 k, .slice A qs.length c]] w (fun e w' => e = .returned (.bool (methB p i j k qs)) ∧ Below w.heap.size w w') := by
  have hB := Below.refl w.heap.size w
  have _u0 := hR
  have _u1 := hlen
  clear _u0 _u1
  have HNo : Hid (methB p i j k qs = false) := Lib.hid (by simp [methB, hj])
  have HP := Lib.hid hp
  have HI := Lib.hid hi
  have HJ := Lib.hid hj
  clear hp hi hj
  go_enter Try.func23, Try.ntmps23
  go_upto_region 0 with (fail)
  refine wp_region_lit ?_
  refine ls_op rfl (fun K' hK' => ?_)
  have lz1 := hB.size
  refine wp_new (some 1) rfl (exec_box 28 _ rfl (#[.int .i64 p, .int .i64 i, .int .i64 j, .int .i64 k, .slice A qs.length c]) rfl) (fun Wz2 nnz3 => ?_)
  have bz4 := nnz3.below (Below.refl _ _) (Nat.le_refl _)
  replace hB := below_after hB bz4
  have hz5 : At Wz2 w.heap.size (.cells #[.int .i64 p, .int .i64 i, .int .i64 j, .int .i64 k, .slice A qs.length c] 28 (0, 0)) := nnz3.at_
  refine hK' _ _ ?_
  clear hK' K' nnz3 bz4
  go_frame
  refine ls_ex (some 2) (.bool false) rfl rfl (exec_assign _ rfl (.bool false) rfl) ?_
  go_frame
  refine wpList_nil ?_
  go_upto_region 1 with (fail)
  refine wp_region_lit ?_
  refine ls_ex (some 5) (.pointer (some ⟨w.heap.size, 0, none⟩)) rfl rfl (exec_fieldAddr 28 _ 0 rfl _ (by kernel_rfl)) ?_
  go_frame
  refine ls_ex (some 6) (.int .i64 p) rfl rfl (exec_load_one 2 _ rfl w.heap.size 0 rfl (.int .i64 p) _ Try.underlying2 rfl (hz5.at_ 0)) ?_
  go_frame
  refine ls_op rfl (fun K' hK' => ?_)
  have lz8 := hB.size
  have lz9 := hz5.lt
  refine wp_call1 (some 7) rfl 49 _ _ rfl (fun args w => by kernel_rfl) _ rfl _ (l01Prime_c p _) (fun e Wz6 h => ?_)
  obtain ⟨rfl, rfl⟩ := h
  rw [HP.out]
  refine ⟨_, rfl, ?_⟩
  refine hK' _ _ ?_
  clear hK' K'
  go_frame
  refine ls_ex (some 8) (.bool false) rfl rfl (exec_not _ _ rfl true rfl) ?_
  go_frame
  refine ls_ex (some 9) (.bool false) rfl rfl (exec_move _ rfl (.bool false) rfl) ?_
  go_frame
  refine ls_ex_g (some 10) (.pointer (some ⟨w.heap.size, 1, none⟩)) rfl rfl (exec_fieldAddr 28 _ 1 rfl _ (by kernel_rfl)) ?_
  go_frame
  refine ls_ex_g (some 11) (.int .i64 i) rfl rfl (exec_load_one 2 _ rfl w.heap.size 1 rfl (.int .i64 i) _ Try.underlying2 rfl (hz5.at_ 1)) ?_
  go_frame
  refine ls_op_g rfl (fun K' hK' => ?_)
  have lz12 := hB.size
  have lz13 := hz5.lt
  refine wp_call3 (some 12) rfl 50 _ _ _ _ rfl (fun args w => by kernel_rfl) _ _ _ rfl rfl rfl _ (l01In_side i _) (fun e Wz10 h => ?_)
  obtain ⟨rfl, rfl⟩ := h
  rw [HI.out]
  refine ⟨_, rfl, ?_⟩
  refine hK' _ _ ?_
  clear hK' K'
  go_frame
  refine ls_ex_g (some 13) (.bool false) rfl rfl (exec_not _ _ rfl true rfl) ?_
  go_frame
  refine ls_ex (some 14) (.bool false) rfl rfl (exec_pick _ _ _ rfl false rfl (.bool false) rfl) ?_
  go_frame
  refine ls_ex (some 15) (.bool false) rfl rfl (exec_move _ rfl (.bool false) rfl) ?_
  go_frame
  refine ls_ex_g (some 16) (.pointer (some ⟨w.heap.size, 2, none⟩)) rfl rfl (exec_fieldAddr 28 _ 2 rfl _ (by kernel_rfl)) ?_
  go_frame
  refine ls_ex_g (some 17) (.int .i64 j) rfl rfl (exec_load_one 2 _ rfl w.heap.size 2 rfl (.int .i64 j) _ Try.underlying2 rfl (hz5.at_ 2)) ?_
  go_frame
  refine ls_op_g rfl (fun K' hK' => ?_)
  have lz16 := hB.size
  have lz17 := hz5.lt
  refine wp_call3 (some 18) rfl 50 _ _ _ _ rfl (fun args w => by kernel_rfl) _ _ _ rfl rfl rfl _ (l01In_side j _) (fun e Wz14 h => ?_)
  obtain ⟨rfl, rfl⟩ := h
  rw [HJ.out]
  refine ⟨_, rfl, ?_⟩
  refine hK' _ _ ?_
  clear hK' K'
  go_frame
  refine ls_ex_g (some 19) (.bool true) rfl rfl (exec_not _ _ rfl false rfl) ?_
  go_frame
  refine ls_ex (some 20) (.bool true) rfl rfl (exec_pick _ _ _ rfl false rfl (.bool true) rfl) ?_
  go_frame
  refine ls_ex (some 21) (.bool true) rfl rfl (exec_move _ rfl (.bool true) rfl) ?_
  go_frame
  refine ls_skip_g (some 22) rfl rfl ?_
  go_frame
  refine ls_skip_g (some 23) rfl rfl ?_
  go_frame
  refine ls_skip_g (some 24) rfl rfl ?_
  go_frame
  refine ls_skip_g (some 25) rfl rfl ?_
  go_frame
  refine ls_ex (some 26) (.bool true) rfl rfl (exec_pick _ _ _ rfl true rfl (.bool true) rfl) ?_
  go_frame
  refine ls_ex (some 27) (.bool true) rfl rfl (exec_move _ rfl (.bool true) rfl) ?_
  go_frame
  refine ls_skip_g (some 28) rfl rfl ?_
  go_frame
  refine ls_skip_g (some 29) rfl rfl ?_
  go_frame
  refine ls_skip_g (some 30) rfl rfl ?_
  go_frame
  refine ls_skip_g (some 31) rfl rfl ?_
  go_frame
  refine ls_ex (some 32) (.bool true) rfl rfl (exec_pick _ _ _ rfl true rfl (.bool true) rfl) ?_
  go_frame
  refine wpList_nil ?_
  go_upto_region 2 with (fail)
  refine wp_region_lit ?_
  refine ls_ex (some 2) (.bool false) rfl rfl (exec_assign _ rfl (.bool false) rfl) ?_
  go_frame
  refine wpList_nil ?_
  go_wp2_with fail
  go_ret
  exact ⟨by rw [HNo.out]; rfl, hB⟩
set_option maxHeartbeats 4000000 in
theorem l09Is_bk (p i j k : Int) (A : Option Addr) (c : Nat) (qs : List (List Nat)) (w : World) (hR : Rd w A qs) (hlen : qs.length ≤ 1048576) (hp : primeB p = true) (hi : sideB i = true) (hj : sideB j = true) (hk : sideB k = false) :
    Calls Try.prog 23 #[.agg #[.int .i64 p, .int .i64 i, .int .i64 j, .int .i64 k, .slice A qs.length c]] w (fun e w' => e = .returned (.bool (methB p i j k qs)) ∧ Below w.heap.size w w') := by
  have hB := Below.refl w.heap.size w
  have _u0 := hR
  have _u1 := hlen
  clear _u0 _u1
  have HNo : Hid (methB p i j k qs = false) := Lib.hid (by simp [methB, hk])
  have HP := Lib.hid hp
  have HI := Lib.hid hi
  have HJ := Lib.hid hj
  have HK := Lib.hid hk
  clear hp hi hj hk
  go_enter Try.func23, Try.ntmps23
  go_upto_region 0 with (fail)
  refine wp_region_lit ?_
  refine ls_op rfl (fun K' hK' => ?_)
  have lz1 := hB.size
  refine wp_new (some 1) rfl (exec_box 28 _ rfl (#[.int .i64 p, .int .i64 i, .int .i64 j, .int .i64 k, .slice A qs.length c]) rfl) (fun Wz2 nnz3 => ?_)
  have bz4 := nnz3.below (Below.refl _ _) (Nat.le_refl _)
  replace hB := below_after hB bz4
  have hz5 : At Wz2 w.heap.size (.cells #[.int .i64 p, .int .i64 i, .int .i64 j, .int .i64 k, .slice A qs.length c] 28 (0, 0)) := nnz3.at_
  refine hK' _ _ ?_
  clear hK' K' nnz3 bz4
  go_frame
  refine ls_ex (some 2) (.bool false) rfl rfl (exec_assign _ rfl (.bool false) rfl) ?_
  go_frame
  refine wpList_nil ?_
  go_upto_region 1 with (fail)
  refine wp_region_lit ?_
  refine ls_ex (some 5) (.pointer (some ⟨w.heap.size, 0, none⟩)) rfl rfl (exec_fieldAddr 28 _ 0 rfl _ (by kernel_rfl)) ?_
  go_frame
  refine ls_ex (some 6) (.int .i64 p) rfl rfl (exec_load_one 2 _ rfl w.heap.size 0 rfl (.int .i64 p) _ Try.underlying2 rfl (hz5.at_ 0)) ?_
  go_frame
  refine ls_op rfl (fun K' hK' => ?_)
  have lz8 := hB.size
  have lz9 := hz5.lt
  refine wp_call1 (some 7) rfl 49 _ _ rfl (fun args w => by kernel_rfl) _ rfl _ (l01Prime_c p _) (fun e Wz6 h => ?_)
  obtain ⟨rfl, rfl⟩ := h
  rw [HP.out]
  refine ⟨_, rfl, ?_⟩
  refine hK' _ _ ?_
  clear hK' K'
  go_frame
  refine ls_ex (some 8) (.bool false) rfl rfl (exec_not _ _ rfl true rfl) ?_
  go_frame
  refine ls_ex (some 9) (.bool false) rfl rfl (exec_move _ rfl (.bool false) rfl) ?_
  go_frame
  refine ls_ex_g (some 10) (.pointer (some ⟨w.heap.size, 1, none⟩)) rfl rfl (exec_fieldAddr 28 _ 1 rfl _ (by kernel_rfl)) ?_
  go_frame
  refine ls_ex_g (some 11) (.int .i64 i) rfl rfl (exec_load_one 2 _ rfl w.heap.size 1 rfl (.int .i64 i) _ Try.underlying2 rfl (hz5.at_ 1)) ?_
  go_frame
  refine ls_op_g rfl (fun K' hK' => ?_)
  have lz12 := hB.size
  have lz13 := hz5.lt
  refine wp_call3 (some 12) rfl 50 _ _ _ _ rfl (fun args w => by kernel_rfl) _ _ _ rfl rfl rfl _ (l01In_side i _) (fun e Wz10 h => ?_)
  obtain ⟨rfl, rfl⟩ := h
  rw [HI.out]
  refine ⟨_, rfl, ?_⟩
  refine hK' _ _ ?_
  clear hK' K'
  go_frame
  refine ls_ex_g (some 13) (.bool false) rfl rfl (exec_not _ _ rfl true rfl) ?_
  go_frame
  refine ls_ex (some 14) (.bool false) rfl rfl (exec_pick _ _ _ rfl false rfl (.bool false) rfl) ?_
  go_frame
  refine ls_ex (some 15) (.bool false) rfl rfl (exec_move _ rfl (.bool false) rfl) ?_
  go_frame
  refine ls_ex_g (some 16) (.pointer (some ⟨w.heap.size, 2, none⟩)) rfl rfl (exec_fieldAddr 28 _ 2 rfl _ (by kernel_rfl)) ?_
  go_frame
  refine ls_ex_g (some 17) (.int .i64 j) rfl rfl (exec_load_one 2 _ rfl w.heap.size 2 rfl (.int .i64 j) _ Try.underlying2 rfl (hz5.at_ 2)) ?_
  go_frame
  refine ls_op_g rfl (fun K' hK' => ?_)
  have lz16 := hB.size
  have lz17 := hz5.lt
  refine wp_call3 (some 18) rfl 50 _ _ _ _ rfl (fun args w => by kernel_rfl) _ _ _ rfl rfl rfl _ (l01In_side j _) (fun e Wz14 h => ?_)
  obtain ⟨rfl, rfl⟩ := h
  rw [HJ.out]
  refine ⟨_, rfl, ?_⟩
  refine hK' _ _ ?_
  clear hK' K'
  go_frame
  refine ls_ex_g (some 19) (.bool false) rfl rfl (exec_not _ _ rfl true rfl) ?_
  go_frame
  refine ls_ex (some 20) (.bool false) rfl rfl (exec_pick _ _ _ rfl false rfl (.bool false) rfl) ?_
  go_frame
  refine ls_ex (some 21) (.bool false) rfl rfl (exec_move _ rfl (.bool false) rfl) ?_
  go_frame
  refine ls_ex_g (some 22) (.pointer (some ⟨w.heap.size, 3, none⟩)) rfl rfl (exec_fieldAddr 28 _ 3 rfl _ (by kernel_rfl)) ?_
  go_frame
  refine ls_ex_g (some 23) (.int .i64 k) rfl rfl (exec_load_one 2 _ rfl w.heap.size 3 rfl (.int .i64 k) _ Try.underlying2 rfl (hz5.at_ 3)) ?_
  go_frame
  refine ls_op_g rfl (fun K' hK' => ?_)
  have lz20 := hB.size
  have lz21 := hz5.lt
  refine wp_call3 (some 24) rfl 50 _ _ _ _ rfl (fun args w => by kernel_rfl) _ _ _ rfl rfl rfl _ (l01In_side k _) (fun e Wz18 h => ?_)
  obtain ⟨rfl, rfl⟩ := h
  rw [HK.out]
  refine ⟨_, rfl, ?_⟩
  refine hK' _ _ ?_
  clear hK' K'
  go_frame
  refine ls_ex_g (some 25) (.bool true) rfl rfl (exec_not _ _ rfl false rfl) ?_
  go_frame
  refine ls_ex (some 26) (.bool true) rfl rfl (exec_pick _ _ _ rfl false rfl (.bool true) rfl) ?_
  go_frame
  refine ls_ex (some 27) (.bool true) rfl rfl (exec_move _ rfl (.bool true) rfl) ?_
  go_frame
  refine ls_skip_g (some 28) rfl rfl ?_
  go_frame
  refine ls_skip_g (some 29) rfl rfl ?_
  go_frame
  refine ls_skip_g (some 30) rfl rfl ?_
  go_frame
  refine ls_skip_g (some 31) rfl rfl ?_
  go_frame
  refine ls_ex (some 32) (.bool true) rfl rfl (exec_pick _ _ _ rfl true rfl (.bool true) rfl) ?_
  go_frame
  refine wpList_nil ?_
  go_upto_region 2 with (fail)
  refine wp_region_lit ?_
  refine ls_ex (some 2) (.bool false) rfl rfl (exec_assign _ rfl (.bool false) rfl) ?_
  go_frame
  refine wpList_nil ?_
  go_wp2_with fail
  go_ret
  exact ⟨by rw [HNo.out]; rfl, hB⟩
set_option maxHeartbeats 4000000 in
theorem l09Is_c30 (p i j k : Int) (A : Option Addr) (c : Nat) (qs : List (List Nat)) (w : World) (hR : Rd w A qs) (hlen : qs.length ≤ 1048576) (hp : primeB p = true) (hi : sideB i = true) (hj : sideB j = true) (hk : sideB k = true) (hl : 30 < qs.length) :
    Calls Try.prog 23 #[.agg #[.int .i64 p, .int .i64 i, .int .i64 j, .int .i64 k, .slice A qs.length c]] w (fun e w' => e = .returned (.bool (methB p i j k qs)) ∧ Below w.heap.size w w') := by
  have hB := Below.refl w.heap.size w
  have _u0 := hR
  clear _u0
  have HNo : Hid (methB p i j k qs = false) := Lib.hid (by simp [methB]; omega)
  have HP := Lib.hid hp
  have HI := Lib.hid hi
  have HJ := Lib.hid hj
  have HK := Lib.hid hk
  clear hp hi hj hk
  go_enter Try.func23, Try.ntmps23
  go_upto_region 0 with (fail)
  refine wp_region_lit ?_
  refine ls_op rfl (fun K' hK' => ?_)
  have lz1 := hB.size
  refine wp_new (some 1) rfl (exec_box 28 _ rfl (#[.int .i64 p, .int .i64 i, .int .i64 j, .int .i64 k, .slice A qs.length c]) rfl) (fun Wz2 nnz3 => ?_)
  have bz4 := nnz3.below (Below.refl _ _) (Nat.le_refl _)
  replace hB := below_after hB bz4
  have hz5 : At Wz2 w.heap.size (.cells #[.int .i64 p, .int .i64 i, .int .i64 j, .int .i64 k, .slice A qs.length c] 28 (0, 0)) := nnz3.at_
  refine hK' _ _ ?_
  clear hK' K' nnz3 bz4
  go_frame
  refine ls_ex (some 2) (.bool false) rfl rfl (exec_assign _ rfl (.bool false) rfl) ?_
  go_frame
  refine wpList_nil ?_
  go_upto_region 1 with (fail)
  refine wp_region_lit ?_
  refine ls_ex (some 5) (.pointer (some ⟨w.heap.size, 0, none⟩)) rfl rfl (exec_fieldAddr 28 _ 0 rfl _ (by kernel_rfl)) ?_
  go_frame
  refine ls_ex (some 6) (.int .i64 p) rfl rfl (exec_load_one 2 _ rfl w.heap.size 0 rfl (.int .i64 p) _ Try.underlying2 rfl (hz5.at_ 0)) ?_
  go_frame
  refine ls_op rfl (fun K' hK' => ?_)
  have lz8 := hB.size
  have lz9 := hz5.lt
  refine wp_call1 (some 7) rfl 49 _ _ rfl (fun args w => by kernel_rfl) _ rfl _ (l01Prime_c p _) (fun e Wz6 h => ?_)
  obtain ⟨rfl, rfl⟩ := h
  rw [HP.out]
  refine ⟨_, rfl, ?_⟩
  refine hK' _ _ ?_
  clear hK' K'
  go_frame
  refine ls_ex (some 8) (.bool false) rfl rfl (exec_not _ _ rfl true rfl) ?_
  go_frame
  refine ls_ex (some 9) (.bool false) rfl rfl (exec_move _ rfl (.bool false) rfl) ?_
  go_frame
  refine ls_ex_g (some 10) (.pointer (some ⟨w.heap.size, 1, none⟩)) rfl rfl (exec_fieldAddr 28 _ 1 rfl _ (by kernel_rfl)) ?_
  go_frame
  refine ls_ex_g (some 11) (.int .i64 i) rfl rfl (exec_load_one 2 _ rfl w.heap.size 1 rfl (.int .i64 i) _ Try.underlying2 rfl (hz5.at_ 1)) ?_
  go_frame
  refine ls_op_g rfl (fun K' hK' => ?_)
  have lz12 := hB.size
  have lz13 := hz5.lt
  refine wp_call3 (some 12) rfl 50 _ _ _ _ rfl (fun args w => by kernel_rfl) _ _ _ rfl rfl rfl _ (l01In_side i _) (fun e Wz10 h => ?_)
  obtain ⟨rfl, rfl⟩ := h
  rw [HI.out]
  refine ⟨_, rfl, ?_⟩
  refine hK' _ _ ?_
  clear hK' K'
  go_frame
  refine ls_ex_g (some 13) (.bool false) rfl rfl (exec_not _ _ rfl true rfl) ?_
  go_frame
  refine ls_ex (some 14) (.bool false) rfl rfl (exec_pick _ _ _ rfl false rfl (.bool false) rfl) ?_
  go_frame
  refine ls_ex (some 15) (.bool false) rfl rfl (exec_move _ rfl (.bool false) rfl) ?_
  go_frame
  refine ls_ex_g (some 16) (.pointer (some ⟨w.heap.size, 2, none⟩)) rfl rfl (exec_fieldAddr 28 _ 2 rfl _ (by kernel_rfl)) ?_
  go_frame
  refine ls_ex_g (some 17) (.int .i64 j) rfl rfl (exec_load_one 2 _ rfl w.heap.size 2 rfl (.int .i64 j) _ Try.underlying2 rfl (hz5.at_ 2)) ?_
  go_frame
  refine ls_op_g rfl (fun K' hK' => ?_)
  have lz16 := hB.size
  have lz17 := hz5.lt
  refine wp_call3 (some 18) rfl 50 _ _ _ _ rfl (fun args w => by kernel_rfl) _ _ _ rfl rfl rfl _ (l01In_side j _) (fun e Wz14 h => ?_)
  obtain ⟨rfl, rfl⟩ := h
  rw [HJ.out]
  refine ⟨_, rfl, ?_⟩
  refine hK' _ _ ?_
  clear hK' K'
  go_frame
  refine ls_ex_g (some 19) (.bool false) rfl rfl (exec_not _ _ rfl true rfl) ?_
  go_frame
  refine ls_ex (some 20) (.bool false) rfl rfl (exec_pick _ _ _ rfl false rfl (.bool false) rfl) ?_
  go_frame
  refine ls_ex (some 21) (.bool false) rfl rfl (exec_move _ rfl (.bool false) rfl) ?_
  go_frame
  refine ls_ex_g (some 22) (.pointer (some ⟨w.heap.size, 3, none⟩)) rfl rfl (exec_fieldAddr 28 _ 3 rfl _ (by kernel_rfl)) ?_
  go_frame
  refine ls_ex_g (some 23) (.int .i64 k) rfl rfl (exec_load_one 2 _ rfl w.heap.size 3 rfl (.int .i64 k) _ Try.underlying2 rfl (hz5.at_ 3)) ?_
  go_frame
  refine ls_op_g rfl (fun K' hK' => ?_)
  have lz20 := hB.size
  have lz21 := hz5.lt
  refine wp_call3 (some 24) rfl 50 _ _ _ _ rfl (fun args w => by kernel_rfl) _ _ _ rfl rfl rfl _ (l01In_side k _) (fun e Wz18 h => ?_)
  obtain ⟨rfl, rfl⟩ := h
  rw [HK.out]
  refine ⟨_, rfl, ?_⟩
  refine hK' _ _ ?_
  clear hK' K'
  go_frame
  refine ls_ex_g (some 25) (.bool false) rfl rfl (exec_not _ _ rfl true rfl) ?_
  go_frame
  refine ls_ex (some 26) (.bool false) rfl rfl (exec_pick _ _ _ rfl false rfl (.bool false) rfl) ?_
  go_frame
  refine ls_ex (some 27) (.bool false) rfl rfl (exec_move _ rfl (.bool false) rfl) ?_
  go_frame
  refine ls_ex_g (some 28) (.pointer (some ⟨w.heap.size, 4, none⟩)) rfl rfl (exec_fieldAddr 28 _ 4 rfl _ (by kernel_rfl)) ?_
  go_frame
  refine ls_ex_g (some 29) (.slice A qs.length c) rfl rfl (exec_load_one 26 _ rfl w.heap.size 4 rfl (.slice A qs.length c) _ Try.underlying26 rfl (hz5.at_ 4)) ?_
  go_frame
  refine ls_ex_g (some 30) (.int .i64 qs.length) rfl rfl (exec_len _ 26 53 rfl A qs.length c rfl Try.underlying26) ?_
  go_frame
  refine ls_ex_g (some 31) (.bool true) rfl rfl (exec_gtr _ _ _ _ rfl qs.length 30 rfl rfl true (decide_eq_true (by omega))) ?_
  go_frame
  refine ls_ex (some 32) (.bool true) rfl rfl (exec_pick _ _ _ rfl false rfl (.bool true) rfl) ?_
  go_frame
  refine wpList_nil ?_
  go_upto_region 2 with (fail)
  refine wp_region_lit ?_
  refine ls_ex (some 2) (.bool false) rfl rfl (exec_assign _ rfl (.bool false) rfl) ?_
  go_frame
  refine wpList_nil ?_
  go_wp2_with fail
  go_ret
  exact ⟨by rw [HNo.out]; rfl, hB⟩
set_option maxHeartbeats 12800000 in
theorem l09Is_d (p i j k : Int) (A : Option Addr) (c : Nat) (qs : List (List Nat)) (w : World) (hR : Rd w A qs) (hlen : qs.length ≤ 1048576) (hp : primeB p = true) (hi : sideB i = true) (hj : sideB j = true) (hk : sideB k = true) (hl : qs.length ≤ 30) :
    Calls Try.prog 23 #[.agg #[.int .i64 p, .int .i64 i, .int .i64 j, .int .i64 k, .slice A qs.length c]] w (fun e w' => e = .returned (.bool (methB p i j k qs)) ∧ Below w.heap.size w w') := by
  have hB := Below.refl w.heap.size w
  have HP := Lib.hid hp
  have HI := Lib.hid hi
  have HJ := Lib.hid hj
  have HK := Lib.hid hk
  clear hp hi hj hk
  go_enter Try.func23, Try.ntmps23
  go_upto_region 0 with (fail)
  refine wp_region_lit ?_
  refine ls_op rfl (fun K' hK' => ?_)
  have lz1 := hB.size
  refine wp_new (some 1) rfl (exec_box 28 _ rfl (#[.int .i64 p, .int .i64 i, .int .i64 j, .int .i64 k, .slice A qs.length c]) rfl) (fun Wz2 nnz3 => ?_)
  have bz4 := nnz3.below (Below.refl _ _) (Nat.le_refl _)
  replace hB := below_after hB bz4
  have hz5 : At Wz2 w.heap.size (.cells #[.int .i64 p, .int .i64 i, .int .i64 j, .int .i64 k, .slice A qs.length c] 28 (0, 0)) := nnz3.at_
  refine hK' _ _ ?_
  clear hK' K' nnz3 bz4
  go_frame
  refine ls_ex (some 2) (.bool false) rfl rfl (exec_assign _ rfl (.bool false) rfl) ?_
  go_frame
  refine wpList_nil ?_
  go_upto_region 1 with (fail)
  refine wp_region_lit ?_
  refine ls_ex (some 5) (.pointer (some ⟨w.heap.size, 0, none⟩)) rfl rfl (exec_fieldAddr 28 _ 0 rfl _ (by kernel_rfl)) ?_
  go_frame
  refine ls_ex (some 6) (.int .i64 p) rfl rfl (exec_load_one 2 _ rfl w.heap.size 0 rfl (.int .i64 p) _ Try.underlying2 rfl (hz5.at_ 0)) ?_
  go_frame
  refine ls_op rfl (fun K' hK' => ?_)
  have lz8 := hB.size
  have lz9 := hz5.lt
  refine wp_call1 (some 7) rfl 49 _ _ rfl (fun args w => by kernel_rfl) _ rfl _ (l01Prime_c p _) (fun e Wz6 h => ?_)
  obtain ⟨rfl, rfl⟩ := h
  rw [HP.out]
  refine ⟨_, rfl, ?_⟩
  refine hK' _ _ ?_
  clear hK' K'
  go_frame
  refine ls_ex (some 8) (.bool false) rfl rfl (exec_not _ _ rfl true rfl) ?_
  go_frame
  refine ls_ex (some 9) (.bool false) rfl rfl (exec_move _ rfl (.bool false) rfl) ?_
  go_frame
  refine ls_ex_g (some 10) (.pointer (some ⟨w.heap.size, 1, none⟩)) rfl rfl (exec_fieldAddr 28 _ 1 rfl _ (by kernel_rfl)) ?_
  go_frame
  refine ls_ex_g (some 11) (.int .i64 i) rfl rfl (exec_load_one 2 _ rfl w.heap.size 1 rfl (.int .i64 i) _ Try.underlying2 rfl (hz5.at_ 1)) ?_
  go_frame
  refine ls_op_g rfl (fun K' hK' => ?_)
  have lz12 := hB.size
  have lz13 := hz5.lt
  refine wp_call3 (some 12) rfl 50 _ _ _ _ rfl (fun args w => by kernel_rfl) _ _ _ rfl rfl rfl _ (l01In_side i _) (fun e Wz10 h => ?_)
  obtain ⟨rfl, rfl⟩ := h
  rw [HI.out]
  refine ⟨_, rfl, ?_⟩
  refine hK' _ _ ?_
  clear hK' K'
  go_frame
  refine ls_ex_g (some 13) (.bool false) rfl rfl (exec_not _ _ rfl true rfl) ?_
  go_frame
  refine ls_ex (some 14) (.bool false) rfl rfl (exec_pick _ _ _ rfl false rfl (.bool false) rfl) ?_
  go_frame
  refine ls_ex (some 15) (.bool false) rfl rfl (exec_move _ rfl (.bool false) rfl) ?_
  go_frame
  refine ls_ex_g (some 16) (.pointer (some ⟨w.heap.size, 2, none⟩)) rfl rfl (exec_fieldAddr 28 _ 2 rfl _ (by kernel_rfl)) ?_
  go_frame
  refine ls_ex_g (some 17) (.int .i64 j) rfl rfl (exec_load_one 2 _ rfl w.heap.size 2 rfl (.int .i64 j) _ Try.underlying2 rfl (hz5.at_ 2)) ?_
  go_frame
  refine ls_op_g rfl (fun K' hK' => ?_)
  have lz16 := hB.size
  have lz17 := hz5.lt
  refine wp_call3 (some 18) rfl 50 _ _ _ _ rfl (fun args w => by kernel_rfl) _ _ _ rfl rfl rfl _ (l01In_side j _) (fun e Wz14 h => ?_)
  obtain ⟨rfl, rfl⟩ := h
  rw [HJ.out]
  refine ⟨_, rfl, ?_⟩
  refine hK' _ _ ?_
  clear hK' K'
  go_frame
  refine ls_ex_g (some 19) (.bool false) rfl rfl (exec_not _ _ rfl true rfl) ?_
  go_frame
  refine ls_ex (some 20) (.bool false) rfl rfl (exec_pick _ _ _ rfl false rfl (.bool false) rfl) ?_
  go_frame
  refine ls_ex (some 21) (.bool false) rfl rfl (exec_move _ rfl (.bool false) rfl) ?_
  go_frame
  refine ls_ex_g (some 22) (.pointer (some ⟨w.heap.size, 3, none⟩)) rfl rfl (exec_fieldAddr 28 _ 3 rfl _ (by kernel_rfl)) ?_
  go_frame
  refine ls_ex_g (some 23) (.int .i64 k) rfl rfl (exec_load_one 2 _ rfl w.heap.size 3 rfl (.int .i64 k) _ Try.underlying2 rfl (hz5.at_ 3)) ?_
  go_frame
  refine ls_op_g rfl (fun K' hK' => ?_)
  have lz20 := hB.size
  have lz21 := hz5.lt
  refine wp_call3 (some 24) rfl 50 _ _ _ _ rfl (fun args w => by kernel_rfl) _ _ _ rfl rfl rfl _ (l01In_side k _) (fun e Wz18 h => ?_)
  obtain ⟨rfl, rfl⟩ := h
  rw [HK.out]
  refine ⟨_, rfl, ?_⟩
  refine hK' _ _ ?_
  clear hK' K'
  go_frame
  refine ls_ex_g (some 25) (.bool false) rfl rfl (exec_not _ _ rfl true rfl) ?_
  go_frame
  refine ls_ex (some 26) (.bool false) rfl rfl (exec_pick _ _ _ rfl false rfl (.bool false) rfl) ?_
  go_frame
  refine ls_ex (some 27) (.bool false) rfl rfl (exec_move _ rfl (.bool false) rfl) ?_
  go_frame
  refine ls_ex_g (some 28) (.pointer (some ⟨w.heap.size, 4, none⟩)) rfl rfl (exec_fieldAddr 28 _ 4 rfl _ (by kernel_rfl)) ?_
  go_frame
  refine ls_ex_g (some 29) (.slice A qs.length c) rfl rfl (exec_load_one 26 _ rfl w.heap.size 4 rfl (.slice A qs.length c) _ Try.underlying26 rfl (hz5.at_ 4)) ?_
  go_frame
  refine ls_ex_g (some 30) (.int .i64 qs.length) rfl rfl (exec_len _ 26 53 rfl A qs.length c rfl Try.underlying26) ?_
  go_frame
  refine ls_ex_g (some 31) (.bool false) rfl rfl (exec_gtr _ _ _ _ rfl qs.length 30 rfl rfl false (decide_eq_false (by omega))) ?_
  go_frame
  refine ls_ex (some 32) (.bool false) rfl rfl (exec_pick _ _ _ rfl false rfl (.bool false) rfl) ?_
  go_frame
  refine wpList_nil ?_
  go_upto_region 3 with (fail)
  refine wp_region_lit ?_
  refine ls_ex (some 3) (.int .i64 0) rfl rfl (exec_assign _ rfl (.int .i64 0) rfl) ?_
  go_frame
  refine wpList_nil ?_
  go_wp2_with fail
  go_loopw [3] (fun s3 wr => ∃ a : Nat, a ≤ qs.length ∧ s3 = .int .i64 a ∧ Hid (mProds p i j k qs a = true) ∧ Below w.heap.size w wr ∧ At wr w.heap.size (.cells #[.int .i64 p, .int .i64 i, .int .i64 j, .int .i64 k, .slice A qs.length c] 28 (0, 0))) (fun s3 _ => qs.length - (intOf s3).toNat)
  case atStart => exact ⟨0, by omega, rfl, Lib.hid rfl, hB, hz5⟩
  case round =>
    clear hB hz5
    obtain ⟨a, ha, rfl, HG, hB, h0⟩ := hrel
    by_cases hlt : a < qs.length
    · obtain ⟨b, off, rfl, hc⟩ := (hR.keep hB).at_ hlt
      clear hc
      have hb := hR.good _ (List.getElem_mem hlt)
      skip
      · cases hfa : formB p (segm qs[a] 0 9) i with
        | false =>
          have HNo : Hid (methB p i j k qs = false) := Lib.hid (methB_no hlt (by unfold prodM; rw [hfa]; simp))
          have HFa := Lib.hid hfa
          clear hfa
          go_upto_region 4 with (fail)
          refine wp_region_lit ?_
          refine ls_ex (some 33) (.int .i64 a) rfl rfl (exec_move _ rfl (.int .i64 a) rfl) ?_
          go_frame
          refine ls_ex (some 34) (.pointer (some ⟨w.heap.size, 4, none⟩)) rfl rfl (exec_fieldAddr 28 _ 4 rfl _ (by kernel_rfl)) ?_
          go_frame
          refine ls_ex (some 35) (.slice (some ⟨b, off, none⟩) qs.length c) rfl rfl (exec_load_one 26 _ rfl w.heap.size 4 rfl (.slice (some ⟨b, off, none⟩) qs.length c) _ Try.underlying26 rfl (h0.at_ 4)) ?_
          go_frame
          refine ls_ex (some 36) (.int .i64 qs.length) rfl rfl (exec_len _ 26 53 rfl ((some ⟨b, off, none⟩)) qs.length c rfl Try.underlying26) ?_
          go_frame
          refine ls_ex (some 37) (.bool true) rfl rfl (exec_lss _ _ _ _ rfl a qs.length rfl rfl true (decide_eq_true (by omega))) ?_
          go_frame
          refine wpList_nil ?_
          go_upto_region 6 with (fail)
          refine wp_region_lit ?_
          refine ls_ex (some 40) (.pointer (some ⟨w.heap.size, 4, none⟩)) rfl rfl (exec_fieldAddr 28 _ 4 rfl _ (by kernel_rfl)) ?_
          go_frame
          refine ls_ex (some 41) (.slice (some ⟨b, off, none⟩) qs.length c) rfl rfl (exec_load_one 26 _ rfl w.heap.size 4 rfl (.slice (some ⟨b, off, none⟩) qs.length c) _ Try.underlying26 rfl (h0.at_ 4)) ?_
          go_frame
          refine ls_ex (some 42) (.int .i64 a) rfl rfl (exec_move _ rfl (.int .i64 a) rfl) ?_
          go_frame
          refine ls_ex (some 43) (.pointer (some ⟨b, off + a * 27, none⟩)) rfl rfl (exec_index_slice _ 53 _ _ rfl b off qs.length c a 27 rfl rfl Try.underlying26 (by kernel_rfl) (by omega)) ?_
          go_frame
          refine ls_ex (some 44) (.agg (u8s (qs[a]))) rfl rfl (exec_load_cells 53 _ rfl b (off + a * 27) rfl (qs[a]) _ 27 (Rd.c27m (hR.keep hB) hlt) Try.underlying53 rfl (by kernel_rfl) (hb.len)) ?_
          go_frame
          refine ls_op rfl (fun K' hK' => ?_)
          have lz22 := hB.size
          have lz23 := h0.lt
          refine wp_new (some 4) rfl (al_impl_Product rfl) (fun Wz24 nnz25 => ?_)
          have bz26 := nnz25.below (Below.refl _ _) (Nat.le_refl _)
          replace hB := below_after hB bz26
          replace h0 := h0.after bz26
          have hz27 : At Wz24 wr.heap.size (.cells (u8s (List.replicate 27 0)) 53 (0, 0)) := nnz25.at_
          refine hK' _ _ ?_
          clear hK' K' nnz25 bz26
          go_frame
          refine ls_op rfl (fun K' hK' => ?_)
          refine wp_store_bytes 53 _ _ rfl rfl wr.heap.size rfl (qs[a]) rfl _ _ hz27 27 (by kernel_rfl) hb.len (by simp) (fun Wz28 pz29 => ?_)
          replace hB := pz29.below hB (by omega)
          replace h0 := pz29.other h0 (by omega)
          replace hz27 : At Wz28 wr.heap.size (.cells (u8s (qs[a])) 53 (0, 0)) := pz29.at_
          refine hK' _ _ ?_
          clear hK' K' pz29
          refine wpList_nil ?_
          go_upto_region 7 with (fail)
          refine wp_region_lit ?_
          refine ls_ex (some 45) (.pointer (some ⟨w.heap.size, 0, none⟩)) rfl rfl (exec_fieldAddr 28 _ 0 rfl _ (by kernel_rfl)) ?_
          go_frame
          refine ls_ex (some 46) (.int .i64 p) rfl rfl (exec_load_one 2 _ rfl w.heap.size 0 rfl (.int .i64 p) _ Try.underlying2 rfl (h0.at_ 0)) ?_
          go_frame
          refine ls_ex (some 47) (.pointer (some ⟨wr.heap.size, 0, none⟩)) rfl rfl (exec_fieldAddr 53 _ 0 rfl _ (by kernel_rfl)) ?_
          go_frame
          refine ls_ex (some 48) (.agg (u8s (segm qs[a] 0 9))) rfl rfl (exec_load_seg 51 _ rfl wr.heap.size (0) rfl _ (qs[a]) _ 9 hz27 Try.underlying51 rfl (by kernel_rfl) (by rw [hb.len]; omega) (segm qs[a] 0 9) rfl) ?_
          go_frame
          refine ls_ex (some 49) (.pointer (some ⟨w.heap.size, 1, none⟩)) rfl rfl (exec_fieldAddr 28 _ 1 rfl _ (by kernel_rfl)) ?_
          go_frame
          refine ls_ex (some 50) (.int .i64 i) rfl rfl (exec_load_one 2 _ rfl w.heap.size 1 rfl (.int .i64 i) _ Try.underlying2 rfl (h0.at_ 1)) ?_
          go_frame
          refine ls_op rfl (fun K' hK' => ?_)
          have lz32 := hB.size
          have lz33 := h0.lt
          have lz34 := hz27.lt
          refine wp_call3 (some 51) rfl 51 _ _ _ _ rfl (fun args w => by kernel_rfl) _ _ _ rfl rfl rfl _ (l01Form_c p (segm qs[a] 0 9) i (segm_bytes hb (by omega)) _) (fun e Wz30 h => ?_)
          obtain ⟨rfl, bz31⟩ := h
          replace hB := below_after hB bz31
          replace h0 := h0.after bz31
          replace hz27 := hz27.after bz31
          rw [HFa.out]
          clear bz31
          refine ⟨_, rfl, ?_⟩
          refine hK' _ _ ?_
          clear hK' K'
          go_frame
          refine ls_ex (some 52) (.bool true) rfl rfl (exec_not _ _ rfl false rfl) ?_
          go_frame
          refine ls_ex (some 53) (.bool true) rfl rfl (exec_move _ rfl (.bool true) rfl) ?_
          go_frame
          refine ls_skip_g (some 54) rfl rfl ?_
          go_frame
          refine ls_skip_g (some 55) rfl rfl ?_
          go_frame
          refine ls_skip_g (some 56) rfl rfl ?_
          go_frame
          refine ls_skip_g (some 57) rfl rfl ?_
          go_frame
          refine ls_skip_g (some 58) rfl rfl ?_
          go_frame
          refine ls_skip_g (some 59) rfl rfl ?_
          go_frame
          refine ls_skip_g (some 60) rfl rfl ?_
          go_frame
          refine ls_skip_g (some 61) rfl rfl ?_
          go_frame
          refine ls_ex (some 62) (.bool true) rfl rfl (exec_pick _ _ _ rfl true rfl (.bool true) rfl) ?_
          go_frame
          refine ls_ex (some 63) (.bool true) rfl rfl (exec_move _ rfl (.bool true) rfl) ?_
          go_frame
          refine ls_skip_g (some 64) rfl rfl ?_
          go_frame
          refine ls_skip_g (some 65) rfl rfl ?_
          go_frame
          refine ls_skip_g (some 66) rfl rfl ?_
          go_frame
          refine ls_skip_g (some 67) rfl rfl ?_
          go_frame
          refine ls_skip_g (some 68) rfl rfl ?_
          go_frame
          refine ls_skip_g (some 69) rfl rfl ?_
          go_frame
          refine ls_skip_g (some 70) rfl rfl ?_
          go_frame
          refine ls_skip_g (some 71) rfl rfl ?_
          go_frame
          refine ls_ex (some 72) (.bool true) rfl rfl (exec_pick _ _ _ rfl true rfl (.bool true) rfl) ?_
          go_frame
          refine ls_ex (some 73) (.bool true) rfl rfl (exec_move _ rfl (.bool true) rfl) ?_
          go_frame
          refine ls_skip_g (some 74) rfl rfl ?_
          go_frame
          refine ls_skip_g (some 75) rfl rfl ?_
          go_frame
          refine ls_skip_g (some 76) rfl rfl ?_
          go_frame
          refine ls_ex (some 77) (.bool true) rfl rfl (exec_pick _ _ _ rfl true rfl (.bool true) rfl) ?_
          go_frame
          refine ls_ex (some 78) (.bool true) rfl rfl (exec_move _ rfl (.bool true) rfl) ?_
          go_frame
          refine ls_skip_g (some 79) rfl rfl ?_
          go_frame
          refine ls_skip_g (some 80) rfl rfl ?_
          go_frame
          refine ls_skip_g (some 81) rfl rfl ?_
          go_frame
          refine ls_ex (some 82) (.bool true) rfl rfl (exec_pick _ _ _ rfl true rfl (.bool true) rfl) ?_
          go_frame
          refine ls_ex (some 83) (.bool true) rfl rfl (exec_move _ rfl (.bool true) rfl) ?_
          go_frame
          refine ls_skip_g (some 84) rfl rfl ?_
          go_frame
          refine ls_skip_g (some 85) rfl rfl ?_
          go_frame
          refine ls_skip_g (some 86) rfl rfl ?_
          go_frame
          refine ls_ex (some 87) (.bool true) rfl rfl (exec_pick _ _ _ rfl true rfl (.bool true) rfl) ?_
          go_frame
          refine wpList_nil ?_
          go_upto_region 8 with (fail)
          refine wp_region_lit ?_
          refine ls_ex (some 2) (.bool false) rfl rfl (exec_assign _ rfl (.bool false) rfl) ?_
          go_frame
          refine wpList_nil ?_
          go_wp2_with fail
          go_ret
          exact ⟨by rw [HNo.out]; rfl, hB⟩
        | true =>
          cases hfb : formB p (segm qs[a] 9 9) j with
          | false =>
            have HNo : Hid (methB p i j k qs = false) := Lib.hid (methB_no hlt (by unfold prodM; rw [hfa, hfb]; simp))
            have HFa := Lib.hid hfa
            have HFb := Lib.hid hfb
            clear hfa hfb
            go_upto_region 4 with (fail)
            refine wp_region_lit ?_
            refine ls_ex (some 33) (.int .i64 a) rfl rfl (exec_move _ rfl (.int .i64 a) rfl) ?_
            go_frame
            refine ls_ex (some 34) (.pointer (some ⟨w.heap.size, 4, none⟩)) rfl rfl (exec_fieldAddr 28 _ 4 rfl _ (by kernel_rfl)) ?_
            go_frame
            refine ls_ex (some 35) (.slice (some ⟨b, off, none⟩) qs.length c) rfl rfl (exec_load_one 26 _ rfl w.heap.size 4 rfl (.slice (some ⟨b, off, none⟩) qs.length c) _ Try.underlying26 rfl (h0.at_ 4)) ?_
            go_frame
            refine ls_ex (some 36) (.int .i64 qs.length) rfl rfl (exec_len _ 26 53 rfl ((some ⟨b, off, none⟩)) qs.length c rfl Try.underlying26) ?_
            go_frame
            refine ls_ex (some 37) (.bool true) rfl rfl (exec_lss _ _ _ _ rfl a qs.length rfl rfl true (decide_eq_true (by omega))) ?_
            go_frame
            refine wpList_nil ?_
            go_upto_region 6 with (fail)
            refine wp_region_lit ?_
            refine ls_ex (some 40) (.pointer (some ⟨w.heap.size, 4, none⟩)) rfl rfl (exec_fieldAddr 28 _ 4 rfl _ (by kernel_rfl)) ?_
            go_frame
            refine ls_ex (some 41) (.slice (some ⟨b, off, none⟩) qs.length c) rfl rfl (exec_load_one 26 _ rfl w.heap.size 4 rfl (.slice (some ⟨b, off, none⟩) qs.length c) _ Try.underlying26 rfl (h0.at_ 4)) ?_
            go_frame
            refine ls_ex (some 42) (.int .i64 a) rfl rfl (exec_move _ rfl (.int .i64 a) rfl) ?_
            go_frame
            refine ls_ex (some 43) (.pointer (some ⟨b, off + a * 27, none⟩)) rfl rfl (exec_index_slice _ 53 _ _ rfl b off qs.length c a 27 rfl rfl Try.underlying26 (by kernel_rfl) (by omega)) ?_
            go_frame
            refine ls_ex (some 44) (.agg (u8s (qs[a]))) rfl rfl (exec_load_cells 53 _ rfl b (off + a * 27) rfl (qs[a]) _ 27 (Rd.c27m (hR.keep hB) hlt) Try.underlying53 rfl (by kernel_rfl) (hb.len)) ?_
            go_frame
            refine ls_op rfl (fun K' hK' => ?_)
            have lz35 := hB.size
            have lz36 := h0.lt
            refine wp_new (some 4) rfl (al_impl_Product rfl) (fun Wz37 nnz38 => ?_)
            have bz39 := nnz38.below (Below.refl _ _) (Nat.le_refl _)
            replace hB := below_after hB bz39
            replace h0 := h0.after bz39
            have hz40 : At Wz37 wr.heap.size (.cells (u8s (List.replicate 27 0)) 53 (0, 0)) := nnz38.at_
            refine hK' _ _ ?_
            clear hK' K' nnz38 bz39
            go_frame
            refine ls_op rfl (fun K' hK' => ?_)
            refine wp_store_bytes 53 _ _ rfl rfl wr.heap.size rfl (qs[a]) rfl _ _ hz40 27 (by kernel_rfl) hb.len (by simp) (fun Wz41 pz42 => ?_)
            replace hB := pz42.below hB (by omega)
            replace h0 := pz42.other h0 (by omega)
            replace hz40 : At Wz41 wr.heap.size (.cells (u8s (qs[a])) 53 (0, 0)) := pz42.at_
            refine hK' _ _ ?_
            clear hK' K' pz42
            refine wpList_nil ?_
            go_upto_region 7 with (fail)
            refine wp_region_lit ?_
            refine ls_ex (some 45) (.pointer (some ⟨w.heap.size, 0, none⟩)) rfl rfl (exec_fieldAddr 28 _ 0 rfl _ (by kernel_rfl)) ?_
            go_frame
            refine ls_ex (some 46) (.int .i64 p) rfl rfl (exec_load_one 2 _ rfl w.heap.size 0 rfl (.int .i64 p) _ Try.underlying2 rfl (h0.at_ 0)) ?_
            go_frame
            refine ls_ex (some 47) (.pointer (some ⟨wr.heap.size, 0, none⟩)) rfl rfl (exec_fieldAddr 53 _ 0 rfl _ (by kernel_rfl)) ?_
            go_frame
            refine ls_ex (some 48) (.agg (u8s (segm qs[a] 0 9))) rfl rfl (exec_load_seg 51 _ rfl wr.heap.size (0) rfl _ (qs[a]) _ 9 hz40 Try.underlying51 rfl (by kernel_rfl) (by rw [hb.len]; omega) (segm qs[a] 0 9) rfl) ?_
            go_frame
            refine ls_ex (some 49) (.pointer (some ⟨w.heap.size, 1, none⟩)) rfl rfl (exec_fieldAddr 28 _ 1 rfl _ (by kernel_rfl)) ?_
            go_frame
            refine ls_ex (some 50) (.int .i64 i) rfl rfl (exec_load_one 2 _ rfl w.heap.size 1 rfl (.int .i64 i) _ Try.underlying2 rfl (h0.at_ 1)) ?_
            go_frame
            refine ls_op rfl (fun K' hK' => ?_)
            have lz45 := hB.size
            have lz46 := h0.lt
            have lz47 := hz40.lt
            refine wp_call3 (some 51) rfl 51 _ _ _ _ rfl (fun args w => by kernel_rfl) _ _ _ rfl rfl rfl _ (l01Form_c p (segm qs[a] 0 9) i (segm_bytes hb (by omega)) _) (fun e Wz43 h => ?_)
            obtain ⟨rfl, bz44⟩ := h
            replace hB := below_after hB bz44
            replace h0 := h0.after bz44
            replace hz40 := hz40.after bz44
            rw [HFa.out]
            clear bz44
            refine ⟨_, rfl, ?_⟩
            refine hK' _ _ ?_
            clear hK' K'
            go_frame
            refine ls_ex (some 52) (.bool false) rfl rfl (exec_not _ _ rfl true rfl) ?_
            go_frame
            refine ls_ex (some 53) (.bool false) rfl rfl (exec_move _ rfl (.bool false) rfl) ?_
            go_frame
            refine ls_ex_g (some 54) (.pointer (some ⟨w.heap.size, 0, none⟩)) rfl rfl (exec_fieldAddr 28 _ 0 rfl _ (by kernel_rfl)) ?_
            go_frame
            refine ls_ex_g (some 55) (.int .i64 p) rfl rfl (exec_load_one 2 _ rfl w.heap.size 0 rfl (.int .i64 p) _ Try.underlying2 rfl (h0.at_ 0)) ?_
            go_frame
            refine ls_ex_g (some 56) (.pointer (some ⟨wr.heap.size, 9, none⟩)) rfl rfl (exec_fieldAddr 53 _ 1 rfl _ (by kernel_rfl)) ?_
            go_frame
            refine ls_ex_g (some 57) (.agg (u8s (segm qs[a] 9 9))) rfl rfl (exec_load_seg 51 _ rfl wr.heap.size (9) rfl _ (qs[a]) _ 9 hz40 Try.underlying51 rfl (by kernel_rfl) (by rw [hb.len]; omega) (segm qs[a] 9 9) rfl) ?_
            go_frame
            refine ls_ex_g (some 58) (.pointer (some ⟨w.heap.size, 2, none⟩)) rfl rfl (exec_fieldAddr 28 _ 2 rfl _ (by kernel_rfl)) ?_
            go_frame
            refine ls_ex_g (some 59) (.int .i64 j) rfl rfl (exec_load_one 2 _ rfl w.heap.size 2 rfl (.int .i64 j) _ Try.underlying2 rfl (h0.at_ 2)) ?_
            go_frame
            refine ls_op_g rfl (fun K' hK' => ?_)
            have lz50 := hB.size
            have lz51 := h0.lt
            have lz52 := hz40.lt
            refine wp_call3 (some 60) rfl 51 _ _ _ _ rfl (fun args w => by kernel_rfl) _ _ _ rfl rfl rfl _ (l01Form_c p (segm qs[a] 9 9) j (segm_bytes hb (by omega)) _) (fun e Wz48 h => ?_)
            obtain ⟨rfl, bz49⟩ := h
            replace hB := below_after hB bz49
            replace h0 := h0.after bz49
            replace hz40 := hz40.after bz49
            rw [HFb.out]
            clear bz49
            refine ⟨_, rfl, ?_⟩
            refine hK' _ _ ?_
            clear hK' K'
            go_frame
            refine ls_ex_g (some 61) (.bool true) rfl rfl (exec_not _ _ rfl false rfl) ?_
            go_frame
            refine ls_ex (some 62) (.bool true) rfl rfl (exec_pick _ _ _ rfl false rfl (.bool true) rfl) ?_
            go_frame
            refine ls_ex (some 63) (.bool true) rfl rfl (exec_move _ rfl (.bool true) rfl) ?_
            go_frame
            refine ls_skip_g (some 64) rfl rfl ?_
            go_frame
            refine ls_skip_g (some 65) rfl rfl ?_
            go_frame
            refine ls_skip_g (some 66) rfl rfl ?_
            go_frame
            refine ls_skip_g (some 67) rfl rfl ?_
            go_frame
            refine ls_skip_g (some 68) rfl rfl ?_
            go_frame
            refine ls_skip_g (some 69) rfl rfl ?_
            go_frame
            refine ls_skip_g (some 70) rfl rfl ?_
            go_frame
            refine ls_skip_g (some 71) rfl rfl ?_
            go_frame
            refine ls_ex (some 72) (.bool true) rfl rfl (exec_pick _ _ _ rfl true rfl (.bool true) rfl) ?_
            go_frame
            refine ls_ex (some 73) (.bool true) rfl rfl (exec_move _ rfl (.bool true) rfl) ?_
            go_frame
            refine ls_skip_g (some 74) rfl rfl ?_
            go_frame
            refine ls_skip_g (some 75) rfl rfl ?_
            go_frame
            refine ls_skip_g (some 76) rfl rfl ?_
            go_frame
            refine ls_ex (some 77) (.bool true) rfl rfl (exec_pick _ _ _ rfl true rfl (.bool true) rfl) ?_
            go_frame
            refine ls_ex (some 78) (.bool true) rfl rfl (exec_move _ rfl (.bool true) rfl) ?_
            go_frame
            refine ls_skip_g (some 79) rfl rfl ?_
            go_frame
            refine ls_skip_g (some 80) rfl rfl ?_
            go_frame
            refine ls_skip_g (some 81) rfl rfl ?_
            go_frame
            refine ls_ex (some 82) (.bool true) rfl rfl (exec_pick _ _ _ rfl true rfl (.bool true) rfl) ?_
            go_frame
            refine ls_ex (some 83) (.bool true) rfl rfl (exec_move _ rfl (.bool true) rfl) ?_
            go_frame
            refine ls_skip_g (some 84) rfl rfl ?_
            go_frame
            refine ls_skip_g (some 85) rfl rfl ?_
            go_frame
            refine ls_skip_g (some 86) rfl rfl ?_
            go_frame
            refine ls_ex (some 87) (.bool true) rfl rfl (exec_pick _ _ _ rfl true rfl (.bool true) rfl) ?_
            go_frame
            refine wpList_nil ?_
            go_upto_region 8 with (fail)
            refine wp_region_lit ?_
            refine ls_ex (some 2) (.bool false) rfl rfl (exec_assign _ rfl (.bool false) rfl) ?_
            go_frame
            refine wpList_nil ?_
            go_wp2_with fail
            go_ret
            exact ⟨by rw [HNo.out]; rfl, hB⟩
          | true =>
            cases hfc : formB p (segm qs[a] 18 9) k with
            | false =>
              have HNo : Hid (methB p i j k qs = false) := Lib.hid (methB_no hlt (by unfold prodM; rw [hfa, hfb, hfc]; simp))
              have HFa := Lib.hid hfa
              have HFb := Lib.hid hfb
              have HFc := Lib.hid hfc
              clear hfa hfb hfc
              go_upto_region 4 with (fail)
              refine wp_region_lit ?_
              refine ls_ex (some 33) (.int .i64 a) rfl rfl (exec_move _ rfl (.int .i64 a) rfl) ?_
              go_frame
              refine ls_ex (some 34) (.pointer (some ⟨w.heap.size, 4, none⟩)) rfl rfl (exec_fieldAddr 28 _ 4 rfl _ (by kernel_rfl)) ?_
              go_frame
              refine ls_ex (some 35) (.slice (some ⟨b, off, none⟩) qs.length c) rfl rfl (exec_load_one 26 _ rfl w.heap.size 4 rfl (.slice (some ⟨b, off, none⟩) qs.length c) _ Try.underlying26 rfl (h0.at_ 4)) ?_
              go_frame
              refine ls_ex (some 36) (.int .i64 qs.length) rfl rfl (exec_len _ 26 53 rfl ((some ⟨b, off, none⟩)) qs.length c rfl Try.underlying26) ?_
              go_frame
              refine ls_ex (some 37) (.bool true) rfl rfl (exec_lss _ _ _ _ rfl a qs.length rfl rfl true (decide_eq_true (by omega))) ?_
              go_frame
              refine wpList_nil ?_
              go_upto_region 6 with (fail)
              refine wp_region_lit ?_
              refine ls_ex (some 40) (.pointer (some ⟨w.heap.size, 4, none⟩)) rfl rfl (exec_fieldAddr 28 _ 4 rfl _ (by kernel_rfl)) ?_
              go_frame
              refine ls_ex (some 41) (.slice (some ⟨b, off, none⟩) qs.length c) rfl rfl (exec_load_one 26 _ rfl w.heap.size 4 rfl (.slice (some ⟨b, off, none⟩) qs.length c) _ Try.underlying26 rfl (h0.at_ 4)) ?_
              go_frame
              refine ls_ex (some 42) (.int .i64 a) rfl rfl (exec_move _ rfl (.int .i64 a) rfl) ?_
              go_frame
              refine ls_ex (some 43) (.pointer (some ⟨b, off + a * 27, none⟩)) rfl rfl (exec_index_slice _ 53 _ _ rfl b off qs.length c a 27 rfl rfl Try.underlying26 (by kernel_rfl) (by omega)) ?_
              go_frame
              refine ls_ex (some 44) (.agg (u8s (qs[a]))) rfl rfl (exec_load_cells 53 _ rfl b (off + a * 27) rfl (qs[a]) _ 27 (Rd.c27m (hR.keep hB) hlt) Try.underlying53 rfl (by kernel_rfl) (hb.len)) ?_
              go_frame
              refine ls_op rfl (fun K' hK' => ?_)
              have lz53 := hB.size
              have lz54 := h0.lt
              refine wp_new (some 4) rfl (al_impl_Product rfl) (fun Wz55 nnz56 => ?_)
              have bz57 := nnz56.below (Below.refl _ _) (Nat.le_refl _)
              replace hB := below_after hB bz57
              replace h0 := h0.after bz57
              have hz58 : At Wz55 wr.heap.size (.cells (u8s (List.replicate 27 0)) 53 (0, 0)) := nnz56.at_
              refine hK' _ _ ?_
              clear hK' K' nnz56 bz57
              go_frame
              refine ls_op rfl (fun K' hK' => ?_)
              refine wp_store_bytes 53 _ _ rfl rfl wr.heap.size rfl (qs[a]) rfl _ _ hz58 27 (by kernel_rfl) hb.len (by simp) (fun Wz59 pz60 => ?_)
              replace hB := pz60.below hB (by omega)
              replace h0 := pz60.other h0 (by omega)
              replace hz58 : At Wz59 wr.heap.size (.cells (u8s (qs[a])) 53 (0, 0)) := pz60.at_
              refine hK' _ _ ?_
              clear hK' K' pz60
              refine wpList_nil ?_
              go_upto_region 7 with (fail)
              refine wp_region_lit ?_
              refine ls_ex (some 45) (.pointer (some ⟨w.heap.size, 0, none⟩)) rfl rfl (exec_fieldAddr 28 _ 0 rfl _ (by kernel_rfl)) ?_
              go_frame
              refine ls_ex (some 46) (.int .i64 p) rfl rfl (exec_load_one 2 _ rfl w.heap.size 0 rfl (.int .i64 p) _ Try.underlying2 rfl (h0.at_ 0)) ?_
              go_frame
              refine ls_ex (some 47) (.pointer (some ⟨wr.heap.size, 0, none⟩)) rfl rfl (exec_fieldAddr 53 _ 0 rfl _ (by kernel_rfl)) ?_
              go_frame
              refine ls_ex (some 48) (.agg (u8s (segm qs[a] 0 9))) rfl rfl (exec_load_seg 51 _ rfl wr.heap.size (0) rfl _ (qs[a]) _ 9 hz58 Try.underlying51 rfl (by kernel_rfl) (by rw [hb.len]; omega) (segm qs[a] 0 9) rfl) ?_
              go_frame
              refine ls_ex (some 49) (.pointer (some ⟨w.heap.size, 1, none⟩)) rfl rfl (exec_fieldAddr 28 _ 1 rfl _ (by kernel_rfl)) ?_
              go_frame
              refine ls_ex (some 50) (.int .i64 i) rfl rfl (exec_load_one 2 _ rfl w.heap.size 1 rfl (.int .i64 i) _ Try.underlying2 rfl (h0.at_ 1)) ?_
              go_frame
              refine ls_op rfl (fun K' hK' => ?_)
              have lz63 := hB.size
              have lz64 := h0.lt
              have lz65 := hz58.lt
              refine wp_call3 (some 51) rfl 51 _ _ _ _ rfl (fun args w => by kernel_rfl) _ _ _ rfl rfl rfl _ (l01Form_c p (segm qs[a] 0 9) i (segm_bytes hb (by omega)) _) (fun e Wz61 h => ?_)
              obtain ⟨rfl, bz62⟩ := h
              replace hB := below_after hB bz62
              replace h0 := h0.after bz62
              replace hz58 := hz58.after bz62
              rw [HFa.out]
              clear bz62
              refine ⟨_, rfl, ?_⟩
              refine hK' _ _ ?_
              clear hK' K'
              go_frame
              refine ls_ex (some 52) (.bool false) rfl rfl (exec_not _ _ rfl true rfl) ?_
              go_frame
              refine ls_ex (some 53) (.bool false) rfl rfl (exec_move _ rfl (.bool false) rfl) ?_
              go_frame
              refine ls_ex_g (some 54) (.pointer (some ⟨w.heap.size, 0, none⟩)) rfl rfl (exec_fieldAddr 28 _ 0 rfl _ (by kernel_rfl)) ?_
              go_frame
              refine ls_ex_g (some 55) (.int .i64 p) rfl rfl (exec_load_one 2 _ rfl w.heap.size 0 rfl (.int .i64 p) _ Try.underlying2 rfl (h0.at_ 0)) ?_
              go_frame
              refine ls_ex_g (some 56) (.pointer (some ⟨wr.heap.size, 9, none⟩)) rfl rfl (exec_fieldAddr 53 _ 1 rfl _ (by kernel_rfl)) ?_
              go_frame
              refine ls_ex_g (some 57) (.agg (u8s (segm qs[a] 9 9))) rfl rfl (exec_load_seg 51 _ rfl wr.heap.size (9) rfl _ (qs[a]) _ 9 hz58 Try.underlying51 rfl (by kernel_rfl) (by rw [hb.len]; omega) (segm qs[a] 9 9) rfl) ?_
              go_frame
              refine ls_ex_g (some 58) (.pointer (some ⟨w.heap.size, 2, none⟩)) rfl rfl (exec_fieldAddr 28 _ 2 rfl _ (by kernel_rfl)) ?_
              go_frame
              refine ls_ex_g (some 59) (.int .i64 j) rfl rfl (exec_load_one 2 _ rfl w.heap.size 2 rfl (.int .i64 j) _ Try.underlying2 rfl (h0.at_ 2)) ?_
              go_frame
              refine ls_op_g rfl (fun K' hK' => ?_)
              have lz68 := hB.size
              have lz69 := h0.lt
              have lz70 := hz58.lt
              refine wp_call3 (some 60) rfl 51 _ _ _ _ rfl (fun args w => by kernel_rfl) _ _ _ rfl rfl rfl _ (l01Form_c p (segm qs[a] 9 9) j (segm_bytes hb (by omega)) _) (fun e Wz66 h => ?_)
              obtain ⟨rfl, bz67⟩ := h
              replace hB := below_after hB bz67
              replace h0 := h0.after bz67
              replace hz58 := hz58.after bz67
              rw [HFb.out]
              clear bz67
              refine ⟨_, rfl, ?_⟩
              refine hK' _ _ ?_
              clear hK' K'
              go_frame
              refine ls_ex_g (some 61) (.bool false) rfl rfl (exec_not _ _ rfl true rfl) ?_
              go_frame
              refine ls_ex (some 62) (.bool false) rfl rfl (exec_pick _ _ _ rfl false rfl (.bool false) rfl) ?_
              go_frame
              refine ls_ex (some 63) (.bool false) rfl rfl (exec_move _ rfl (.bool false) rfl) ?_
              go_frame
              refine ls_ex_g (some 64) (.pointer (some ⟨w.heap.size, 0, none⟩)) rfl rfl (exec_fieldAddr 28 _ 0 rfl _ (by kernel_rfl)) ?_
              go_frame
              refine ls_ex_g (some 65) (.int .i64 p) rfl rfl (exec_load_one 2 _ rfl w.heap.size 0 rfl (.int .i64 p) _ Try.underlying2 rfl (h0.at_ 0)) ?_
              go_frame
              refine ls_ex_g (some 66) (.pointer (some ⟨wr.heap.size, 18, none⟩)) rfl rfl (exec_fieldAddr 53 _ 2 rfl _ (by kernel_rfl)) ?_
              go_frame
              refine ls_ex_g (some 67) (.agg (u8s (segm qs[a] 18 9))) rfl rfl (exec_load_seg 51 _ rfl wr.heap.size (18) rfl _ (qs[a]) _ 9 hz58 Try.underlying51 rfl (by kernel_rfl) (by rw [hb.len]; omega) (segm qs[a] 18 9) rfl) ?_
              go_frame
              refine ls_ex_g (some 68) (.pointer (some ⟨w.heap.size, 3, none⟩)) rfl rfl (exec_fieldAddr 28 _ 3 rfl _ (by kernel_rfl)) ?_
              go_frame
              refine ls_ex_g (some 69) (.int .i64 k) rfl rfl (exec_load_one 2 _ rfl w.heap.size 3 rfl (.int .i64 k) _ Try.underlying2 rfl (h0.at_ 3)) ?_
              go_frame
              refine ls_op_g rfl (fun K' hK' => ?_)
              have lz73 := hB.size
              have lz74 := h0.lt
              have lz75 := hz58.lt
              refine wp_call3 (some 70) rfl 51 _ _ _ _ rfl (fun args w => by kernel_rfl) _ _ _ rfl rfl rfl _ (l01Form_c p (segm qs[a] 18 9) k (segm_bytes hb (by omega)) _) (fun e Wz71 h => ?_)
              obtain ⟨rfl, bz72⟩ := h
              replace hB := below_after hB bz72
              replace h0 := h0.after bz72
              replace hz58 := hz58.after bz72
              rw [HFc.out]
              clear bz72
              refine ⟨_, rfl, ?_⟩
              refine hK' _ _ ?_
              clear hK' K'
              go_frame
              refine ls_ex_g (some 71) (.bool true) rfl rfl (exec_not _ _ rfl false rfl) ?_
              go_frame
              refine ls_ex (some 72) (.bool true) rfl rfl (exec_pick _ _ _ rfl false rfl (.bool true) rfl) ?_
              go_frame
              refine ls_ex (some 73) (.bool true) rfl rfl (exec_move _ rfl (.bool true) rfl) ?_
              go_frame
              refine ls_skip_g (some 74) rfl rfl ?_
              go_frame
              refine ls_skip_g (some 75) rfl rfl ?_
              go_frame
              refine ls_skip_g (some 76) rfl rfl ?_
              go_frame
              refine ls_ex (some 77) (.bool true) rfl rfl (exec_pick _ _ _ rfl true rfl (.bool true) rfl) ?_
              go_frame
              refine ls_ex (some 78) (.bool true) rfl rfl (exec_move _ rfl (.bool true) rfl) ?_
              go_frame
              refine ls_skip_g (some 79) rfl rfl ?_
              go_frame
              refine ls_skip_g (some 80) rfl rfl ?_
              go_frame
              refine ls_skip_g (some 81) rfl rfl ?_
              go_frame
              refine ls_ex (some 82) (.bool true) rfl rfl (exec_pick _ _ _ rfl true rfl (.bool true) rfl) ?_
              go_frame
              refine ls_ex (some 83) (.bool true) rfl rfl (exec_move _ rfl (.bool true) rfl) ?_
              go_frame
              refine ls_skip_g (some 84) rfl rfl ?_
              go_frame
              refine ls_skip_g (some 85) rfl rfl ?_
              go_frame
              refine ls_skip_g (some 86) rfl rfl ?_
              go_frame
              refine ls_ex (some 87) (.bool true) rfl rfl (exec_pick _ _ _ rfl true rfl (.bool true) rfl) ?_
              go_frame
              refine wpList_nil ?_
              go_upto_region 8 with (fail)
              refine wp_region_lit ?_
              refine ls_ex (some 2) (.bool false) rfl rfl (exec_assign _ rfl (.bool false) rfl) ?_
              go_frame
              refine wpList_nil ?_
              go_wp2_with fail
              go_ret
              exact ⟨by rw [HNo.out]; rfl, hB⟩
            | true =>
              cases hza : zeroB (segm qs[a] 0 9) with
              | true =>
                have HNo : Hid (methB p i j k qs = false) := Lib.hid (methB_no hlt (by unfold prodM; rw [hfa, hfb, hfc, hza]; simp))
                have HFa := Lib.hid hfa
                have HFb := Lib.hid hfb
                have HFc := Lib.hid hfc
                have HZa := Lib.hid hza
                clear hfa hfb hfc hza
                go_upto_region 4 with (fail)
                refine wp_region_lit ?_
                refine ls_ex (some 33) (.int .i64 a) rfl rfl (exec_move _ rfl (.int .i64 a) rfl) ?_
                go_frame
                refine ls_ex (some 34) (.pointer (some ⟨w.heap.size, 4, none⟩)) rfl rfl (exec_fieldAddr 28 _ 4 rfl _ (by kernel_rfl)) ?_
                go_frame
                refine ls_ex (some 35) (.slice (some ⟨b, off, none⟩) qs.length c) rfl rfl (exec_load_one 26 _ rfl w.heap.size 4 rfl (.slice (some ⟨b, off, none⟩) qs.length c) _ Try.underlying26 rfl (h0.at_ 4)) ?_
                go_frame
                refine ls_ex (some 36) (.int .i64 qs.length) rfl rfl (exec_len _ 26 53 rfl ((some ⟨b, off, none⟩)) qs.length c rfl Try.underlying26) ?_
                go_frame
                refine ls_ex (some 37) (.bool true) rfl rfl (exec_lss _ _ _ _ rfl a qs.length rfl rfl true (decide_eq_true (by omega))) ?_
                go_frame
                refine wpList_nil ?_
                go_upto_region 6 with (fail)
                refine wp_region_lit ?_
                refine ls_ex (some 40) (.pointer (some ⟨w.heap.size, 4, none⟩)) rfl rfl (exec_fieldAddr 28 _ 4 rfl _ (by kernel_rfl)) ?_
                go_frame
                refine ls_ex (some 41) (.slice (some ⟨b, off, none⟩) qs.length c) rfl rfl (exec_load_one 26 _ rfl w.heap.size 4 rfl (.slice (some ⟨b, off, none⟩) qs.length c) _ Try.underlying26 rfl (h0.at_ 4)) ?_
                go_frame
                refine ls_ex (some 42) (.int .i64 a) rfl rfl (exec_move _ rfl (.int .i64 a) rfl) ?_
                go_frame
                refine ls_ex (some 43) (.pointer (some ⟨b, off + a * 27, none⟩)) rfl rfl (exec_index_slice _ 53 _ _ rfl b off qs.length c a 27 rfl rfl Try.underlying26 (by kernel_rfl) (by omega)) ?_
                go_frame
                refine ls_ex (some 44) (.agg (u8s (qs[a]))) rfl rfl (exec_load_cells 53 _ rfl b (off + a * 27) rfl (qs[a]) _ 27 (Rd.c27m (hR.keep hB) hlt) Try.underlying53 rfl (by kernel_rfl) (hb.len)) ?_
                go_frame
                refine ls_op rfl (fun K' hK' => ?_)
                have lz76 := hB.size
                have lz77 := h0.lt
                refine wp_new (some 4) rfl (al_impl_Product rfl) (fun Wz78 nnz79 => ?_)
                have bz80 := nnz79.below (Below.refl _ _) (Nat.le_refl _)
                replace hB := below_after hB bz80
                replace h0 := h0.after bz80
                have hz81 : At Wz78 wr.heap.size (.cells (u8s (List.replicate 27 0)) 53 (0, 0)) := nnz79.at_
                refine hK' _ _ ?_
                clear hK' K' nnz79 bz80
                go_frame
                refine ls_op rfl (fun K' hK' => ?_)
                refine wp_store_bytes 53 _ _ rfl rfl wr.heap.size rfl (qs[a]) rfl _ _ hz81 27 (by kernel_rfl) hb.len (by simp) (fun Wz82 pz83 => ?_)
                replace hB := pz83.below hB (by omega)
                replace h0 := pz83.other h0 (by omega)
                replace hz81 : At Wz82 wr.heap.size (.cells (u8s (qs[a])) 53 (0, 0)) := pz83.at_
                refine hK' _ _ ?_
                clear hK' K' pz83
                refine wpList_nil ?_
                go_upto_region 7 with (fail)
                refine wp_region_lit ?_
                refine ls_ex (some 45) (.pointer (some ⟨w.heap.size, 0, none⟩)) rfl rfl (exec_fieldAddr 28 _ 0 rfl _ (by kernel_rfl)) ?_
                go_frame
                refine ls_ex (some 46) (.int .i64 p) rfl rfl (exec_load_one 2 _ rfl w.heap.size 0 rfl (.int .i64 p) _ Try.underlying2 rfl (h0.at_ 0)) ?_
                go_frame
                refine ls_ex (some 47) (.pointer (some ⟨wr.heap.size, 0, none⟩)) rfl rfl (exec_fieldAddr 53 _ 0 rfl _ (by kernel_rfl)) ?_
                go_frame
                refine ls_ex (some 48) (.agg (u8s (segm qs[a] 0 9))) rfl rfl (exec_load_seg 51 _ rfl wr.heap.size (0) rfl _ (qs[a]) _ 9 hz81 Try.underlying51 rfl (by kernel_rfl) (by rw [hb.len]; omega) (segm qs[a] 0 9) rfl) ?_
                go_frame
                refine ls_ex (some 49) (.pointer (some ⟨w.heap.size, 1, none⟩)) rfl rfl (exec_fieldAddr 28 _ 1 rfl _ (by kernel_rfl)) ?_
                go_frame
                refine ls_ex (some 50) (.int .i64 i) rfl rfl (exec_load_one 2 _ rfl w.heap.size 1 rfl (.int .i64 i) _ Try.underlying2 rfl (h0.at_ 1)) ?_
                go_frame
                refine ls_op rfl (fun K' hK' => ?_)
                have lz86 := hB.size
                have lz87 := h0.lt
                have lz88 := hz81.lt
                refine wp_call3 (some 51) rfl 51 _ _ _ _ rfl (fun args w => by kernel_rfl) _ _ _ rfl rfl rfl _ (l01Form_c p (segm qs[a] 0 9) i (segm_bytes hb (by omega)) _) (fun e Wz84 h => ?_)
                obtain ⟨rfl, bz85⟩ := h
                replace hB := below_after hB bz85
                replace h0 := h0.after bz85
                replace hz81 := hz81.after bz85
                rw [HFa.out]
                clear bz85
                refine ⟨_, rfl, ?_⟩
                refine hK' _ _ ?_
                clear hK' K'
                go_frame
                refine ls_ex (some 52) (.bool false) rfl rfl (exec_not _ _ rfl true rfl) ?_
                go_frame
                refine ls_ex (some 53) (.bool false) rfl rfl (exec_move _ rfl (.bool false) rfl) ?_
                go_frame
                refine ls_ex_g (some 54) (.pointer (some ⟨w.heap.size, 0, none⟩)) rfl rfl (exec_fieldAddr 28 _ 0 rfl _ (by kernel_rfl)) ?_
                go_frame
                refine ls_ex_g (some 55) (.int .i64 p) rfl rfl (exec_load_one 2 _ rfl w.heap.size 0 rfl (.int .i64 p) _ Try.underlying2 rfl (h0.at_ 0)) ?_
                go_frame
                refine ls_ex_g (some 56) (.pointer (some ⟨wr.heap.size, 9, none⟩)) rfl rfl (exec_fieldAddr 53 _ 1 rfl _ (by kernel_rfl)) ?_
                go_frame
                refine ls_ex_g (some 57) (.agg (u8s (segm qs[a] 9 9))) rfl rfl (exec_load_seg 51 _ rfl wr.heap.size (9) rfl _ (qs[a]) _ 9 hz81 Try.underlying51 rfl (by kernel_rfl) (by rw [hb.len]; omega) (segm qs[a] 9 9) rfl) ?_
                go_frame
                refine ls_ex_g (some 58) (.pointer (some ⟨w.heap.size, 2, none⟩)) rfl rfl (exec_fieldAddr 28 _ 2 rfl _ (by kernel_rfl)) ?_
                go_frame
                refine ls_ex_g (some 59) (.int .i64 j) rfl rfl (exec_load_one 2 _ rfl w.heap.size 2 rfl (.int .i64 j) _ Try.underlying2 rfl (h0.at_ 2)) ?_
                go_frame
                refine ls_op_g rfl (fun K' hK' => ?_)
                have lz91 := hB.size
                have lz92 := h0.lt
                have lz93 := hz81.lt
                refine wp_call3 (some 60) rfl 51 _ _ _ _ rfl (fun args w => by kernel_rfl) _ _ _ rfl rfl rfl _ (l01Form_c p (segm qs[a] 9 9) j (segm_bytes hb (by omega)) _) (fun e Wz89 h => ?_)
                obtain ⟨rfl, bz90⟩ := h
                replace hB := below_after hB bz90
                replace h0 := h0.after bz90
                replace hz81 := hz81.after bz90
                rw [HFb.out]
                clear bz90
                refine ⟨_, rfl, ?_⟩
                refine hK' _ _ ?_
                clear hK' K'
                go_frame
                refine ls_ex_g (some 61) (.bool false) rfl rfl (exec_not _ _ rfl true rfl) ?_
                go_frame
                refine ls_ex (some 62) (.bool false) rfl rfl (exec_pick _ _ _ rfl false rfl (.bool false) rfl) ?_
                go_frame
                refine ls_ex (some 63) (.bool false) rfl rfl (exec_move _ rfl (.bool false) rfl) ?_
                go_frame
                refine ls_ex_g (some 64) (.pointer (some ⟨w.heap.size, 0, none⟩)) rfl rfl (exec_fieldAddr 28 _ 0 rfl _ (by kernel_rfl)) ?_
                go_frame
                refine ls_ex_g (some 65) (.int .i64 p) rfl rfl (exec_load_one 2 _ rfl w.heap.size 0 rfl (.int .i64 p) _ Try.underlying2 rfl (h0.at_ 0)) ?_
                go_frame
                refine ls_ex_g (some 66) (.pointer (some ⟨wr.heap.size, 18, none⟩)) rfl rfl (exec_fieldAddr 53 _ 2 rfl _ (by kernel_rfl)) ?_
                go_frame
                refine ls_ex_g (some 67) (.agg (u8s (segm qs[a] 18 9))) rfl rfl (exec_load_seg 51 _ rfl wr.heap.size (18) rfl _ (qs[a]) _ 9 hz81 Try.underlying51 rfl (by kernel_rfl) (by rw [hb.len]; omega) (segm qs[a] 18 9) rfl) ?_
                go_frame
                refine ls_ex_g (some 68) (.pointer (some ⟨w.heap.size, 3, none⟩)) rfl rfl (exec_fieldAddr 28 _ 3 rfl _ (by kernel_rfl)) ?_
                go_frame
                refine ls_ex_g (some 69) (.int .i64 k) rfl rfl (exec_load_one 2 _ rfl w.heap.size 3 rfl (.int .i64 k) _ Try.underlying2 rfl (h0.at_ 3)) ?_
                go_frame
                refine ls_op_g rfl (fun K' hK' => ?_)
                have lz96 := hB.size
                have lz97 := h0.lt
                have lz98 := hz81.lt
                refine wp_call3 (some 70) rfl 51 _ _ _ _ rfl (fun args w => by kernel_rfl) _ _ _ rfl rfl rfl _ (l01Form_c p (segm qs[a] 18 9) k (segm_bytes hb (by omega)) _) (fun e Wz94 h => ?_)
                obtain ⟨rfl, bz95⟩ := h
                replace hB := below_after hB bz95
                replace h0 := h0.after bz95
                replace hz81 := hz81.after bz95
                rw [HFc.out]
                clear bz95
                refine ⟨_, rfl, ?_⟩
                refine hK' _ _ ?_
                clear hK' K'
                go_frame
                refine ls_ex_g (some 71) (.bool false) rfl rfl (exec_not _ _ rfl true rfl) ?_
                go_frame
                refine ls_ex (some 72) (.bool false) rfl rfl (exec_pick _ _ _ rfl false rfl (.bool false) rfl) ?_
                go_frame
                refine ls_ex (some 73) (.bool false) rfl rfl (exec_move _ rfl (.bool false) rfl) ?_
                go_frame
                refine ls_ex_g (some 74) (.pointer (some ⟨wr.heap.size, 0, none⟩)) rfl rfl (exec_fieldAddr 53 _ 0 rfl _ (by kernel_rfl)) ?_
                go_frame
                refine ls_ex_g (some 75) (.agg (u8s (segm qs[a] 0 9))) rfl rfl (exec_load_seg 51 _ rfl wr.heap.size (0) rfl _ (qs[a]) _ 9 hz81 Try.underlying51 rfl (by kernel_rfl) (by rw [hb.len]; omega) (segm qs[a] 0 9) rfl) ?_
                go_frame
                refine ls_op_g rfl (fun K' hK' => ?_)
                have lz101 := hB.size
                have lz102 := h0.lt
                have lz103 := hz81.lt
                refine wp_call1 (some 76) rfl 52 _ _ rfl (fun args w => by kernel_rfl) _ rfl _ (l01Zero_c (segm qs[a] 0 9) (segm_bytes hb (by omega)) _) (fun e Wz99 h => ?_)
                obtain ⟨rfl, bz100⟩ := h
                replace hB := below_after hB bz100
                replace h0 := h0.after bz100
                replace hz81 := hz81.after bz100
                rw [HZa.out]
                clear bz100
                refine ⟨_, rfl, ?_⟩
                refine hK' _ _ ?_
                clear hK' K'
                go_frame
                refine ls_ex (some 77) (.bool true) rfl rfl (exec_pick _ _ _ rfl false rfl (.bool true) rfl) ?_
                go_frame
                refine ls_ex (some 78) (.bool true) rfl rfl (exec_move _ rfl (.bool true) rfl) ?_
                go_frame
                refine ls_skip_g (some 79) rfl rfl ?_
                go_frame
                refine ls_skip_g (some 80) rfl rfl ?_
                go_frame
                refine ls_skip_g (some 81) rfl rfl ?_
                go_frame
                refine ls_ex (some 82) (.bool true) rfl rfl (exec_pick _ _ _ rfl true rfl (.bool true) rfl) ?_
                go_frame
                refine ls_ex (some 83) (.bool true) rfl rfl (exec_move _ rfl (.bool true) rfl) ?_
                go_frame
                refine ls_skip_g (some 84) rfl rfl ?_
                go_frame
                refine ls_skip_g (some 85) rfl rfl ?_
                go_frame
                refine ls_skip_g (some 86) rfl rfl ?_
                go_frame
                refine ls_ex (some 87) (.bool true) rfl rfl (exec_pick _ _ _ rfl true rfl (.bool true) rfl) ?_
                go_frame
                refine wpList_nil ?_
                go_upto_region 8 with (fail)
                refine wp_region_lit ?_
                refine ls_ex (some 2) (.bool false) rfl rfl (exec_assign _ rfl (.bool false) rfl) ?_
                go_frame
                refine wpList_nil ?_
                go_wp2_with fail
                go_ret
                exact ⟨by rw [HNo.out]; rfl, hB⟩
              | false =>
                cases hzb : zeroB (segm qs[a] 9 9) with
                | true =>
                  have HNo : Hid (methB p i j k qs = false) := Lib.hid (methB_no hlt (by unfold prodM; rw [hfa, hfb, hfc, hza, hzb]; simp))
                  have HFa := Lib.hid hfa
                  have HFb := Lib.hid hfb
                  have HFc := Lib.hid hfc
                  have HZa := Lib.hid hza
                  have HZb := Lib.hid hzb
                  clear hfa hfb hfc hza hzb
                  go_upto_region 4 with (fail)
                  refine wp_region_lit ?_
                  refine ls_ex (some 33) (.int .i64 a) rfl rfl (exec_move _ rfl (.int .i64 a) rfl) ?_
                  go_frame
                  refine ls_ex (some 34) (.pointer (some ⟨w.heap.size, 4, none⟩)) rfl rfl (exec_fieldAddr 28 _ 4 rfl _ (by kernel_rfl)) ?_
                  go_frame
                  refine ls_ex (some 35) (.slice (some ⟨b, off, none⟩) qs.length c) rfl rfl (exec_load_one 26 _ rfl w.heap.size 4 rfl (.slice (some ⟨b, off, none⟩) qs.length c) _ Try.underlying26 rfl (h0.at_ 4)) ?_
                  go_frame
                  refine ls_ex (some 36) (.int .i64 qs.length) rfl rfl (exec_len _ 26 53 rfl ((some ⟨b, off, none⟩)) qs.length c rfl Try.underlying26) ?_
                  go_frame
                  refine ls_ex (some 37) (.bool true) rfl rfl (exec_lss _ _ _ _ rfl a qs.length rfl rfl true (decide_eq_true (by omega))) ?_
                  go_frame
                  refine wpList_nil ?_
                  go_upto_region 6 with (fail)
                  refine wp_region_lit ?_
                  refine ls_ex (some 40) (.pointer (some ⟨w.heap.size, 4, none⟩)) rfl rfl (exec_fieldAddr 28 _ 4 rfl _ (by kernel_rfl)) ?_
                  go_frame
                  refine ls_ex (some 41) (.slice (some ⟨b, off, none⟩) qs.length c) rfl rfl (exec_load_one 26 _ rfl w.heap.size 4 rfl (.slice (some ⟨b, off, none⟩) qs.length c) _ Try.underlying26 rfl (h0.at_ 4)) ?_
                  go_frame
                  refine ls_ex (some 42) (.int .i64 a) rfl rfl (exec_move _ rfl (.int .i64 a) rfl) ?_
                  go_frame
                  refine ls_ex (some 43) (.pointer (some ⟨b, off + a * 27, none⟩)) rfl rfl (exec_index_slice _ 53 _ _ rfl b off qs.length c a 27 rfl rfl Try.underlying26 (by kernel_rfl) (by omega)) ?_
                  go_frame
                  refine ls_ex (some 44) (.agg (u8s (qs[a]))) rfl rfl (exec_load_cells 53 _ rfl b (off + a * 27) rfl (qs[a]) _ 27 (Rd.c27m (hR.keep hB) hlt) Try.underlying53 rfl (by kernel_rfl) (hb.len)) ?_
                  go_frame
                  refine ls_op rfl (fun K' hK' => ?_)
                  have lz104 := hB.size
                  have lz105 := h0.lt
                  refine wp_new (some 4) rfl (al_impl_Product rfl) (fun Wz106 nnz107 => ?_)
                  have bz108 := nnz107.below (Below.refl _ _) (Nat.le_refl _)
                  replace hB := below_after hB bz108
                  replace h0 := h0.after bz108
                  have hz109 : At Wz106 wr.heap.size (.cells (u8s (List.replicate 27 0)) 53 (0, 0)) := nnz107.at_
                  refine hK' _ _ ?_
                  clear hK' K' nnz107 bz108
                  go_frame
                  refine ls_op rfl (fun K' hK' => ?_)
                  refine wp_store_bytes 53 _ _ rfl rfl wr.heap.size rfl (qs[a]) rfl _ _ hz109 27 (by kernel_rfl) hb.len (by simp) (fun Wz110 pz111 => ?_)
                  replace hB := pz111.below hB (by omega)
                  replace h0 := pz111.other h0 (by omega)
                  replace hz109 : At Wz110 wr.heap.size (.cells (u8s (qs[a])) 53 (0, 0)) := pz111.at_
                  refine hK' _ _ ?_
                  clear hK' K' pz111
                  refine wpList_nil ?_
                  go_upto_region 7 with (fail)
                  refine wp_region_lit ?_
                  refine ls_ex (some 45) (.pointer (some ⟨w.heap.size, 0, none⟩)) rfl rfl (exec_fieldAddr 28 _ 0 rfl _ (by kernel_rfl)) ?_
                  go_frame
                  refine ls_ex (some 46) (.int .i64 p) rfl rfl (exec_load_one 2 _ rfl w.heap.size 0 rfl (.int .i64 p) _ Try.underlying2 rfl (h0.at_ 0)) ?_
                  go_frame
                  refine ls_ex (some 47) (.pointer (some ⟨wr.heap.size, 0, none⟩)) rfl rfl (exec_fieldAddr 53 _ 0 rfl _ (by kernel_rfl)) ?_
                  go_frame
                  refine ls_ex (some 48) (.agg (u8s (segm qs[a] 0 9))) rfl rfl (exec_load_seg 51 _ rfl wr.heap.size (0) rfl _ (qs[a]) _ 9 hz109 Try.underlying51 rfl (by kernel_rfl) (by rw [hb.len]; omega) (segm qs[a] 0 9) rfl) ?_
                  go_frame
                  refine ls_ex (some 49) (.pointer (some ⟨w.heap.size, 1, none⟩)) rfl rfl (exec_fieldAddr 28 _ 1 rfl _ (by kernel_rfl)) ?_
                  go_frame
                  refine ls_ex (some 50) (.int .i64 i) rfl rfl (exec_load_one 2 _ rfl w.heap.size 1 rfl (.int .i64 i) _ Try.underlying2 rfl (h0.at_ 1)) ?_
                  go_frame
                  refine ls_op rfl (fun K' hK' => ?_)
                  have lz114 := hB.size
                  have lz115 := h0.lt
                  have lz116 := hz109.lt
                  refine wp_call3 (some 51) rfl 51 _ _ _ _ rfl (fun args w => by kernel_rfl) _ _ _ rfl rfl rfl _ (l01Form_c p (segm qs[a] 0 9) i (segm_bytes hb (by omega)) _) (fun e Wz112 h => ?_)
                  obtain ⟨rfl, bz113⟩ := h
                  replace hB := below_after hB bz113
                  replace h0 := h0.after bz113
                  replace hz109 := hz109.after bz113
                  rw [HFa.out]
                  clear bz113
                  refine ⟨_, rfl, ?_⟩
                  refine hK' _ _ ?_
                  clear hK' K'
                  go_frame
                  refine ls_ex (some 52) (.bool false) rfl rfl (exec_not _ _ rfl true rfl) ?_
                  go_frame
                  refine ls_ex (some 53) (.bool false) rfl rfl (exec_move _ rfl (.bool false) rfl) ?_
                  go_frame
                  refine ls_ex_g (some 54) (.pointer (some ⟨w.heap.size, 0, none⟩)) rfl rfl (exec_fieldAddr 28 _ 0 rfl _ (by kernel_rfl)) ?_
                  go_frame
                  refine ls_ex_g (some 55) (.int .i64 p) rfl rfl (exec_load_one 2 _ rfl w.heap.size 0 rfl (.int .i64 p) _ Try.underlying2 rfl (h0.at_ 0)) ?_
                  go_frame
                  refine ls_ex_g (some 56) (.pointer (some ⟨wr.heap.size, 9, none⟩)) rfl rfl (exec_fieldAddr 53 _ 1 rfl _ (by kernel_rfl)) ?_
                  go_frame
                  refine ls_ex_g (some 57) (.agg (u8s (segm qs[a] 9 9))) rfl rfl (exec_load_seg 51 _ rfl wr.heap.size (9) rfl _ (qs[a]) _ 9 hz109 Try.underlying51 rfl (by kernel_rfl) (by rw [hb.len]; omega) (segm qs[a] 9 9) rfl) ?_
                  go_frame
                  refine ls_ex_g (some 58) (.pointer (some ⟨w.heap.size, 2, none⟩)) rfl rfl (exec_fieldAddr 28 _ 2 rfl _ (by kernel_rfl)) ?_
                  go_frame
                  refine ls_ex_g (some 59) (.int .i64 j) rfl rfl (exec_load_one 2 _ rfl w.heap.size 2 rfl (.int .i64 j) _ Try.underlying2 rfl (h0.at_ 2)) ?_
                  go_frame
                  refine ls_op_g rfl (fun K' hK' => ?_)
                  have lz119 := hB.size
                  have lz120 := h0.lt
                  have lz121 := hz109.lt
                  refine wp_call3 (some 60) rfl 51 _ _ _ _ rfl (fun args w => by kernel_rfl) _ _ _ rfl rfl rfl _ (l01Form_c p (segm qs[a] 9 9) j (segm_bytes hb (by omega)) _) (fun e Wz117 h => ?_)
                  obtain ⟨rfl, bz118⟩ := h
                  replace hB := below_after hB bz118
                  replace h0 := h0.after bz118
                  replace hz109 := hz109.after bz118
                  rw [HFb.out]
                  clear bz118
                  refine ⟨_, rfl, ?_⟩
                  refine hK' _ _ ?_
                  clear hK' K'
                  go_frame
                  refine ls_ex_g (some 61) (.bool false) rfl rfl (exec_not _ _ rfl true rfl) ?_
                  go_frame
                  refine ls_ex (some 62) (.bool false) rfl rfl (exec_pick _ _ _ rfl false rfl (.bool false) rfl) ?_
                  go_frame
                  refine ls_ex (some 63) (.bool false) rfl rfl (exec_move _ rfl (.bool false) rfl) ?_
                  go_frame
                  refine ls_ex_g (some 64) (.pointer (some ⟨w.heap.size, 0, none⟩)) rfl rfl (exec_fieldAddr 28 _ 0 rfl _ (by kernel_rfl)) ?_
                  go_frame
                  refine ls_ex_g (some 65) (.int .i64 p) rfl rfl (exec_load_one 2 _ rfl w.heap.size 0 rfl (.int .i64 p) _ Try.underlying2 rfl (h0.at_ 0)) ?_
                  go_frame
                  refine ls_ex_g (some 66) (.pointer (some ⟨wr.heap.size, 18, none⟩)) rfl rfl (exec_fieldAddr 53 _ 2 rfl _ (by kernel_rfl)) ?_
                  go_frame
                  refine ls_ex_g (some 67) (.agg (u8s (segm qs[a] 18 9))) rfl rfl (exec_load_seg 51 _ rfl wr.heap.size (18) rfl _ (qs[a]) _ 9 hz109 Try.underlying51 rfl (by kernel_rfl) (by rw [hb.len]; omega) (segm qs[a] 18 9) rfl) ?_
                  go_frame
                  refine ls_ex_g (some 68) (.pointer (some ⟨w.heap.size, 3, none⟩)) rfl rfl (exec_fieldAddr 28 _ 3 rfl _ (by kernel_rfl)) ?_
                  go_frame
                  refine ls_ex_g (some 69) (.int .i64 k) rfl rfl (exec_load_one 2 _ rfl w.heap.size 3 rfl (.int .i64 k) _ Try.underlying2 rfl (h0.at_ 3)) ?_
                  go_frame
                  refine ls_op_g rfl (fun K' hK' => ?_)
                  have lz124 := hB.size
                  have lz125 := h0.lt
                  have lz126 := hz109.lt
                  refine wp_call3 (some 70) rfl 51 _ _ _ _ rfl (fun args w => by kernel_rfl) _ _ _ rfl rfl rfl _ (l01Form_c p (segm qs[a] 18 9) k (segm_bytes hb (by omega)) _) (fun e Wz122 h => ?_)
                  obtain ⟨rfl, bz123⟩ := h
                  replace hB := below_after hB bz123
                  replace h0 := h0.after bz123
                  replace hz109 := hz109.after bz123
                  rw [HFc.out]
                  clear bz123
                  refine ⟨_, rfl, ?_⟩
                  refine hK' _ _ ?_
                  clear hK' K'
                  go_frame
                  refine ls_ex_g (some 71) (.bool false) rfl rfl (exec_not _ _ rfl true rfl) ?_
                  go_frame
                  refine ls_ex (some 72) (.bool false) rfl rfl (exec_pick _ _ _ rfl false rfl (.bool false) rfl) ?_
                  go_frame
                  refine ls_ex (some 73) (.bool false) rfl rfl (exec_move _ rfl (.bool false) rfl) ?_
                  go_frame
                  refine ls_ex_g (some 74) (.pointer (some ⟨wr.heap.size, 0, none⟩)) rfl rfl (exec_fieldAddr 53 _ 0 rfl _ (by kernel_rfl)) ?_
                  go_frame
                  refine ls_ex_g (some 75) (.agg (u8s (segm qs[a] 0 9))) rfl rfl (exec_load_seg 51 _ rfl wr.heap.size (0) rfl _ (qs[a]) _ 9 hz109 Try.underlying51 rfl (by kernel_rfl) (by rw [hb.len]; omega) (segm qs[a] 0 9) rfl) ?_
                  go_frame
                  refine ls_op_g rfl (fun K' hK' => ?_)
                  have lz129 := hB.size
                  have lz130 := h0.lt
                  have lz131 := hz109.lt
                  refine wp_call1 (some 76) rfl 52 _ _ rfl (fun args w => by kernel_rfl) _ rfl _ (l01Zero_c (segm qs[a] 0 9) (segm_bytes hb (by omega)) _) (fun e Wz127 h => ?_)
                  obtain ⟨rfl, bz128⟩ := h
                  replace hB := below_after hB bz128
                  replace h0 := h0.after bz128
                  replace hz109 := hz109.after bz128
                  rw [HZa.out]
                  clear bz128
                  refine ⟨_, rfl, ?_⟩
                  refine hK' _ _ ?_
                  clear hK' K'
                  go_frame
                  refine ls_ex (some 77) (.bool false) rfl rfl (exec_pick _ _ _ rfl false rfl (.bool false) rfl) ?_
                  go_frame
                  refine ls_ex (some 78) (.bool false) rfl rfl (exec_move _ rfl (.bool false) rfl) ?_
                  go_frame
                  refine ls_ex_g (some 79) (.pointer (some ⟨wr.heap.size, 9, none⟩)) rfl rfl (exec_fieldAddr 53 _ 1 rfl _ (by kernel_rfl)) ?_
                  go_frame
                  refine ls_ex_g (some 80) (.agg (u8s (segm qs[a] 9 9))) rfl rfl (exec_load_seg 51 _ rfl wr.heap.size (9) rfl _ (qs[a]) _ 9 hz109 Try.underlying51 rfl (by kernel_rfl) (by rw [hb.len]; omega) (segm qs[a] 9 9) rfl) ?_
                  go_frame
                  refine ls_op_g rfl (fun K' hK' => ?_)
                  have lz134 := hB.size
                  have lz135 := h0.lt
                  have lz136 := hz109.lt
                  refine wp_call1 (some 81) rfl 52 _ _ rfl (fun args w => by kernel_rfl) _ rfl _ (l01Zero_c (segm qs[a] 9 9) (segm_bytes hb (by omega)) _) (fun e Wz132 h => ?_)
                  obtain ⟨rfl, bz133⟩ := h
                  replace hB := below_after hB bz133
                  replace h0 := h0.after bz133
                  replace hz109 := hz109.after bz133
                  rw [HZb.out]
                  clear bz133
                  refine ⟨_, rfl, ?_⟩
                  refine hK' _ _ ?_
                  clear hK' K'
                  go_frame
                  refine ls_ex (some 82) (.bool true) rfl rfl (exec_pick _ _ _ rfl false rfl (.bool true) rfl) ?_
                  go_frame
                  refine ls_ex (some 83) (.bool true) rfl rfl (exec_move _ rfl (.bool true) rfl) ?_
                  go_frame
                  refine ls_skip_g (some 84) rfl rfl ?_
                  go_frame
                  refine ls_skip_g (some 85) rfl rfl ?_
                  go_frame
                  refine ls_skip_g (some 86) rfl rfl ?_
                  go_frame
                  refine ls_ex (some 87) (.bool true) rfl rfl (exec_pick _ _ _ rfl true rfl (.bool true) rfl) ?_
                  go_frame
                  refine wpList_nil ?_
                  go_upto_region 8 with (fail)
                  refine wp_region_lit ?_
                  refine ls_ex (some 2) (.bool false) rfl rfl (exec_assign _ rfl (.bool false) rfl) ?_
                  go_frame
                  refine wpList_nil ?_
                  go_wp2_with fail
                  go_ret
                  exact ⟨by rw [HNo.out]; rfl, hB⟩
                | false =>
                  cases hzc : zeroB (segm qs[a] 18 9) with
                  | true =>
                    have HNo : Hid (methB p i j k qs = false) := Lib.hid (methB_no hlt (by unfold prodM; rw [hfa, hfb, hfc, hza, hzb, hzc]; simp))
                    have HFa := Lib.hid hfa
                    have HFb := Lib.hid hfb
                    have HFc := Lib.hid hfc
                    have HZa := Lib.hid hza
                    have HZb := Lib.hid hzb
                    have HZc := Lib.hid hzc
                    clear hfa hfb hfc hza hzb hzc
                    go_upto_region 4 with (fail)
                    refine wp_region_lit ?_
                    refine ls_ex (some 33) (.int .i64 a) rfl rfl (exec_move _ rfl (.int .i64 a) rfl) ?_
                    go_frame
                    refine ls_ex (some 34) (.pointer (some ⟨w.heap.size, 4, none⟩)) rfl rfl (exec_fieldAddr 28 _ 4 rfl _ (by kernel_rfl)) ?_
                    go_frame
                    refine ls_ex (some 35) (.slice (some ⟨b, off, none⟩) qs.length c) rfl rfl (exec_load_one 26 _ rfl w.heap.size 4 rfl (.slice (some ⟨b, off, none⟩) qs.length c) _ Try.underlying26 rfl (h0.at_ 4)) ?_
                    go_frame
                    refine ls_ex (some 36) (.int .i64 qs.length) rfl rfl (exec_len _ 26 53 rfl ((some ⟨b, off, none⟩)) qs.length c rfl Try.underlying26) ?_
                    go_frame
                    refine ls_ex (some 37) (.bool true) rfl rfl (exec_lss _ _ _ _ rfl a qs.length rfl rfl true (decide_eq_true (by omega))) ?_
                    go_frame
                    refine wpList_nil ?_
                    go_upto_region 6 with (fail)
                    refine wp_region_lit ?_
                    refine ls_ex (some 40) (.pointer (some ⟨w.heap.size, 4, none⟩)) rfl rfl (exec_fieldAddr 28 _ 4 rfl _ (by kernel_rfl)) ?_
                    go_frame
                    refine ls_ex (some 41) (.slice (some ⟨b, off, none⟩) qs.length c) rfl rfl (exec_load_one 26 _ rfl w.heap.size 4 rfl (.slice (some ⟨b, off, none⟩) qs.length c) _ Try.underlying26 rfl (h0.at_ 4)) ?_
                    go_frame
                    refine ls_ex (some 42) (.int .i64 a) rfl rfl (exec_move _ rfl (.int .i64 a) rfl) ?_
                    go_frame
                    refine ls_ex (some 43) (.pointer (some ⟨b, off + a * 27, none⟩)) rfl rfl (exec_index_slice _ 53 _ _ rfl b off qs.length c a 27 rfl rfl Try.underlying26 (by kernel_rfl) (by omega)) ?_
                    go_frame
                    refine ls_ex (some 44) (.agg (u8s (qs[a]))) rfl rfl (exec_load_cells 53 _ rfl b (off + a * 27) rfl (qs[a]) _ 27 (Rd.c27m (hR.keep hB) hlt) Try.underlying53 rfl (by kernel_rfl) (hb.len)) ?_
                    go_frame
                    refine ls_op rfl (fun K' hK' => ?_)
                    have lz137 := hB.size
                    have lz138 := h0.lt
                    refine wp_new (some 4) rfl (al_impl_Product rfl) (fun Wz139 nnz140 => ?_)
                    have bz141 := nnz140.below (Below.refl _ _) (Nat.le_refl _)
                    replace hB := below_after hB bz141
                    replace h0 := h0.after bz141
                    have hz142 : At Wz139 wr.heap.size (.cells (u8s (List.replicate 27 0)) 53 (0, 0)) := nnz140.at_
                    refine hK' _ _ ?_
                    clear hK' K' nnz140 bz141
                    go_frame
                    refine ls_op rfl (fun K' hK' => ?_)
                    refine wp_store_bytes 53 _ _ rfl rfl wr.heap.size rfl (qs[a]) rfl _ _ hz142 27 (by kernel_rfl) hb.len (by simp) (fun Wz143 pz144 => ?_)
                    replace hB := pz144.below hB (by omega)
                    replace h0 := pz144.other h0 (by omega)
                    replace hz142 : At Wz143 wr.heap.size (.cells (u8s (qs[a])) 53 (0, 0)) := pz144.at_
                    refine hK' _ _ ?_
                    clear hK' K' pz144
                    refine wpList_nil ?_
                    go_upto_region 7 with (fail)
                    refine wp_region_lit ?_
                    refine ls_ex (some 45) (.pointer (some ⟨w.heap.size, 0, none⟩)) rfl rfl (exec_fieldAddr 28 _ 0 rfl _ (by kernel_rfl)) ?_
                    go_frame
                    refine ls_ex (some 46) (.int .i64 p) rfl rfl (exec_load_one 2 _ rfl w.heap.size 0 rfl (.int .i64 p) _ Try.underlying2 rfl (h0.at_ 0)) ?_
                    go_frame
                    refine ls_ex (some 47) (.pointer (some ⟨wr.heap.size, 0, none⟩)) rfl rfl (exec_fieldAddr 53 _ 0 rfl _ (by kernel_rfl)) ?_
                    go_frame
                    refine ls_ex (some 48) (.agg (u8s (segm qs[a] 0 9))) rfl rfl (exec_load_seg 51 _ rfl wr.heap.size (0) rfl _ (qs[a]) _ 9 hz142 Try.underlying51 rfl (by kernel_rfl) (by rw [hb.len]; omega) (segm qs[a] 0 9) rfl) ?_
                    go_frame
                    refine ls_ex (some 49) (.pointer (some ⟨w.heap.size, 1, none⟩)) rfl rfl (exec_fieldAddr 28 _ 1 rfl _ (by kernel_rfl)) ?_
                    go_frame
                    refine ls_ex (some 50) (.int .i64 i) rfl rfl (exec_load_one 2 _ rfl w.heap.size 1 rfl (.int .i64 i) _ Try.underlying2 rfl (h0.at_ 1)) ?_
                    go_frame
                    refine ls_op rfl (fun K' hK' => ?_)
                    have lz147 := hB.size
                    have lz148 := h0.lt
                    have lz149 := hz142.lt
                    refine wp_call3 (some 51) rfl 51 _ _ _ _ rfl (fun args w => by kernel_rfl) _ _ _ rfl rfl rfl _ (l01Form_c p (segm qs[a] 0 9) i (segm_bytes hb (by omega)) _) (fun e Wz145 h => ?_)
                    obtain ⟨rfl, bz146⟩ := h
                    replace hB := below_after hB bz146
                    replace h0 := h0.after bz146
                    replace hz142 := hz142.after bz146
                    rw [HFa.out]
                    clear bz146
                    refine ⟨_, rfl, ?_⟩
                    refine hK' _ _ ?_
                    clear hK' K'
                    go_frame
                    refine ls_ex (some 52) (.bool false) rfl rfl (exec_not _ _ rfl true rfl) ?_
                    go_frame
                    refine ls_ex (some 53) (.bool false) rfl rfl (exec_move _ rfl (.bool false) rfl) ?_
                    go_frame
                    refine ls_ex_g (some 54) (.pointer (some ⟨w.heap.size, 0, none⟩)) rfl rfl (exec_fieldAddr 28 _ 0 rfl _ (by kernel_rfl)) ?_
                    go_frame
                    refine ls_ex_g (some 55) (.int .i64 p) rfl rfl (exec_load_one 2 _ rfl w.heap.size 0 rfl (.int .i64 p) _ Try.underlying2 rfl (h0.at_ 0)) ?_
                    go_frame
                    refine ls_ex_g (some 56) (.pointer (some ⟨wr.heap.size, 9, none⟩)) rfl rfl (exec_fieldAddr 53 _ 1 rfl _ (by kernel_rfl)) ?_
                    go_frame
                    refine ls_ex_g (some 57) (.agg (u8s (segm qs[a] 9 9))) rfl rfl (exec_load_seg 51 _ rfl wr.heap.size (9) rfl _ (qs[a]) _ 9 hz142 Try.underlying51 rfl (by kernel_rfl) (by rw [hb.len]; omega) (segm qs[a] 9 9) rfl) ?_
                    go_frame
                    refine ls_ex_g (some 58) (.pointer (some ⟨w.heap.size, 2, none⟩)) rfl rfl (exec_fieldAddr 28 _ 2 rfl _ (by kernel_rfl)) ?_
                    go_frame
                    refine ls_ex_g (some 59) (.int .i64 j) rfl rfl (exec_load_one 2 _ rfl w.heap.size 2 rfl (.int .i64 j) _ Try.underlying2 rfl (h0.at_ 2)) ?_
                    go_frame
                    refine ls_op_g rfl (fun K' hK' => ?_)
                    have lz152 := hB.size
                    have lz153 := h0.lt
                    have lz154 := hz142.lt
                    refine wp_call3 (some 60) rfl 51 _ _ _ _ rfl (fun args w => by kernel_rfl) _ _ _ rfl rfl rfl _ (l01Form_c p (segm qs[a] 9 9) j (segm_bytes hb (by omega)) _) (fun e Wz150 h => ?_)
                    obtain ⟨rfl, bz151⟩ := h
                    replace hB := below_after hB bz151
                    replace h0 := h0.after bz151
                    replace hz142 := hz142.after bz151
                    rw [HFb.out]
                    clear bz151
                    refine ⟨_, rfl, ?_⟩
                    refine hK' _ _ ?_
                    clear hK' K'
                    go_frame
                    refine ls_ex_g (some 61) (.bool false) rfl rfl (exec_not _ _ rfl true rfl) ?_
                    go_frame
                    refine ls_ex (some 62) (.bool false) rfl rfl (exec_pick _ _ _ rfl false rfl (.bool false) rfl) ?_
                    go_frame
                    refine ls_ex (some 63) (.bool false) rfl rfl (exec_move _ rfl (.bool false) rfl) ?_
                    go_frame
                    refine ls_ex_g (some 64) (.pointer (some ⟨w.heap.size, 0, none⟩)) rfl rfl (exec_fieldAddr 28 _ 0 rfl _ (by kernel_rfl)) ?_
                    go_frame
                    refine ls_ex_g (some 65) (.int .i64 p) rfl rfl (exec_load_one 2 _ rfl w.heap.size 0 rfl (.int .i64 p) _ Try.underlying2 rfl (h0.at_ 0)) ?_
                    go_frame
                    refine ls_ex_g (some 66) (.pointer (some ⟨wr.heap.size, 18, none⟩)) rfl rfl (exec_fieldAddr 53 _ 2 rfl _ (by kernel_rfl)) ?_
                    go_frame
                    refine ls_ex_g (some 67) (.agg (u8s (segm qs[a] 18 9))) rfl rfl (exec_load_seg 51 _ rfl wr.heap.size (18) rfl _ (qs[a]) _ 9 hz142 Try.underlying51 rfl (by kernel_rfl) (by rw [hb.len]; omega) (segm qs[a] 18 9) rfl) ?_
                    go_frame
                    refine ls_ex_g (some 68) (.pointer (some ⟨w.heap.size, 3, none⟩)) rfl rfl (exec_fieldAddr 28 _ 3 rfl _ (by kernel_rfl)) ?_
                    go_frame
                    refine ls_ex_g (some 69) (.int .i64 k) rfl rfl (exec_load_one 2 _ rfl w.heap.size 3 rfl (.int .i64 k) _ Try.underlying2 rfl (h0.at_ 3)) ?_
                    go_frame
                    refine ls_op_g rfl (fun K' hK' => ?_)
                    have lz157 := hB.size
                    have lz158 := h0.lt
                    have lz159 := hz142.lt
                    refine wp_call3 (some 70) rfl 51 _ _ _ _ rfl (fun args w => by kernel_rfl) _ _ _ rfl rfl rfl _ (l01Form_c p (segm qs[a] 18 9) k (segm_bytes hb (by omega)) _) (fun e Wz155 h => ?_)
                    obtain ⟨rfl, bz156⟩ := h
                    replace hB := below_after hB bz156
                    replace h0 := h0.after bz156
                    replace hz142 := hz142.after bz156
                    rw [HFc.out]
                    clear bz156
                    refine ⟨_, rfl, ?_⟩
                    refine hK' _ _ ?_
                    clear hK' K'
                    go_frame
                    refine ls_ex_g (some 71) (.bool false) rfl rfl (exec_not _ _ rfl true rfl) ?_
                    go_frame
                    refine ls_ex (some 72) (.bool false) rfl rfl (exec_pick _ _ _ rfl false rfl (.bool false) rfl) ?_
                    go_frame
                    refine ls_ex (some 73) (.bool false) rfl rfl (exec_move _ rfl (.bool false) rfl) ?_
                    go_frame
                    refine ls_ex_g (some 74) (.pointer (some ⟨wr.heap.size, 0, none⟩)) rfl rfl (exec_fieldAddr 53 _ 0 rfl _ (by kernel_rfl)) ?_
                    go_frame
                    refine ls_ex_g (some 75) (.agg (u8s (segm qs[a] 0 9))) rfl rfl (exec_load_seg 51 _ rfl wr.heap.size (0) rfl _ (qs[a]) _ 9 hz142 Try.underlying51 rfl (by kernel_rfl) (by rw [hb.len]; omega) (segm qs[a] 0 9) rfl) ?_
                    go_frame
                    refine ls_op_g rfl (fun K' hK' => ?_)
                    have lz162 := hB.size
                    have lz163 := h0.lt
                    have lz164 := hz142.lt
                    refine wp_call1 (some 76) rfl 52 _ _ rfl (fun args w => by kernel_rfl) _ rfl _ (l01Zero_c (segm qs[a] 0 9) (segm_bytes hb (by omega)) _) (fun e Wz160 h => ?_)
                    obtain ⟨rfl, bz161⟩ := h
                    replace hB := below_after hB bz161
                    replace h0 := h0.after bz161
                    replace hz142 := hz142.after bz161
                    rw [HZa.out]
                    clear bz161
                    refine ⟨_, rfl, ?_⟩
                    refine hK' _ _ ?_
                    clear hK' K'
                    go_frame
                    refine ls_ex (some 77) (.bool false) rfl rfl (exec_pick _ _ _ rfl false rfl (.bool false) rfl) ?_
                    go_frame
                    refine ls_ex (some 78) (.bool false) rfl rfl (exec_move _ rfl (.bool false) rfl) ?_
                    go_frame
                    refine ls_ex_g (some 79) (.pointer (some ⟨wr.heap.size, 9, none⟩)) rfl rfl (exec_fieldAddr 53 _ 1 rfl _ (by kernel_rfl)) ?_
                    go_frame
                    refine ls_ex_g (some 80) (.agg (u8s (segm qs[a] 9 9))) rfl rfl (exec_load_seg 51 _ rfl wr.heap.size (9) rfl _ (qs[a]) _ 9 hz142 Try.underlying51 rfl (by kernel_rfl) (by rw [hb.len]; omega) (segm qs[a] 9 9) rfl) ?_
                    go_frame
                    refine ls_op_g rfl (fun K' hK' => ?_)
                    have lz167 := hB.size
                    have lz168 := h0.lt
                    have lz169 := hz142.lt
                    refine wp_call1 (some 81) rfl 52 _ _ rfl (fun args w => by kernel_rfl) _ rfl _ (l01Zero_c (segm qs[a] 9 9) (segm_bytes hb (by omega)) _) (fun e Wz165 h => ?_)
                    obtain ⟨rfl, bz166⟩ := h
                    replace hB := below_after hB bz166
                    replace h0 := h0.after bz166
                    replace hz142 := hz142.after bz166
                    rw [HZb.out]
                    clear bz166
                    refine ⟨_, rfl, ?_⟩
                    refine hK' _ _ ?_
                    clear hK' K'
                    go_frame
                    refine ls_ex (some 82) (.bool false) rfl rfl (exec_pick _ _ _ rfl false rfl (.bool false) rfl) ?_
                    go_frame
                    refine ls_ex (some 83) (.bool false) rfl rfl (exec_move _ rfl (.bool false) rfl) ?_
                    go_frame
                    refine ls_ex_g (some 84) (.pointer (some ⟨wr.heap.size, 18, none⟩)) rfl rfl (exec_fieldAddr 53 _ 2 rfl _ (by kernel_rfl)) ?_
                    go_frame
                    refine ls_ex_g (some 85) (.agg (u8s (segm qs[a] 18 9))) rfl rfl (exec_load_seg 51 _ rfl wr.heap.size (18) rfl _ (qs[a]) _ 9 hz142 Try.underlying51 rfl (by kernel_rfl) (by rw [hb.len]; omega) (segm qs[a] 18 9) rfl) ?_
                    go_frame
                    refine ls_op_g rfl (fun K' hK' => ?_)
                    have lz172 := hB.size
                    have lz173 := h0.lt
                    have lz174 := hz142.lt
                    refine wp_call1 (some 86) rfl 52 _ _ rfl (fun args w => by kernel_rfl) _ rfl _ (l01Zero_c (segm qs[a] 18 9) (segm_bytes hb (by omega)) _) (fun e Wz170 h => ?_)
                    obtain ⟨rfl, bz171⟩ := h
                    replace hB := below_after hB bz171
                    replace h0 := h0.after bz171
                    replace hz142 := hz142.after bz171
                    rw [HZc.out]
                    clear bz171
                    refine ⟨_, rfl, ?_⟩
                    refine hK' _ _ ?_
                    clear hK' K'
                    go_frame
                    refine ls_ex (some 87) (.bool true) rfl rfl (exec_pick _ _ _ rfl false rfl (.bool true) rfl) ?_
                    go_frame
                    refine wpList_nil ?_
                    go_upto_region 8 with (fail)
                    refine wp_region_lit ?_
                    refine ls_ex (some 2) (.bool false) rfl rfl (exec_assign _ rfl (.bool false) rfl) ?_
                    go_frame
                    refine wpList_nil ?_
                    go_wp2_with fail
                    go_ret
                    exact ⟨by rw [HNo.out]; rfl, hB⟩
                  | false =>
                    have HY : Hid (mProds p i j k qs (a + 1) = true) := Lib.hid (mProds_step hlt HG.out (by unfold prodM; rw [hfa, hfb, hfc, hza, hzb, hzc]; rfl))
                    have HFa := Lib.hid hfa
                    have HFb := Lib.hid hfb
                    have HFc := Lib.hid hfc
                    have HZa := Lib.hid hza
                    have HZb := Lib.hid hzb
                    have HZc := Lib.hid hzc
                    clear hfa hfb hfc hza hzb hzc
                    go_upto_region 4 with (fail)
                    refine wp_region_lit ?_
                    refine ls_ex (some 33) (.int .i64 a) rfl rfl (exec_move _ rfl (.int .i64 a) rfl) ?_
                    go_frame
                    refine ls_ex (some 34) (.pointer (some ⟨w.heap.size, 4, none⟩)) rfl rfl (exec_fieldAddr 28 _ 4 rfl _ (by kernel_rfl)) ?_
                    go_frame
                    refine ls_ex (some 35) (.slice (some ⟨b, off, none⟩) qs.length c) rfl rfl (exec_load_one 26 _ rfl w.heap.size 4 rfl (.slice (some ⟨b, off, none⟩) qs.length c) _ Try.underlying26 rfl (h0.at_ 4)) ?_
                    go_frame
                    refine ls_ex (some 36) (.int .i64 qs.length) rfl rfl (exec_len _ 26 53 rfl ((some ⟨b, off, none⟩)) qs.length c rfl Try.underlying26) ?_
                    go_frame
                    refine ls_ex (some 37) (.bool true) rfl rfl (exec_lss _ _ _ _ rfl a qs.length rfl rfl true (decide_eq_true (by omega))) ?_
                    go_frame
                    refine wpList_nil ?_
                    go_upto_region 6 with (fail)
                    refine wp_region_lit ?_
                    refine ls_ex (some 40) (.pointer (some ⟨w.heap.size, 4, none⟩)) rfl rfl (exec_fieldAddr 28 _ 4 rfl _ (by kernel_rfl)) ?_
                    go_frame
                    refine ls_ex (some 41) (.slice (some ⟨b, off, none⟩) qs.length c) rfl rfl (exec_load_one 26 _ rfl w.heap.size 4 rfl (.slice (some ⟨b, off, none⟩) qs.length c) _ Try.underlying26 rfl (h0.at_ 4)) ?_
                    go_frame
                    refine ls_ex (some 42) (.int .i64 a) rfl rfl (exec_move _ rfl (.int .i64 a) rfl) ?_
                    go_frame
                    refine ls_ex (some 43) (.pointer (some ⟨b, off + a * 27, none⟩)) rfl rfl (exec_index_slice _ 53 _ _ rfl b off qs.length c a 27 rfl rfl Try.underlying26 (by kernel_rfl) (by omega)) ?_
                    go_frame
                    refine ls_ex (some 44) (.agg (u8s (qs[a]))) rfl rfl (exec_load_cells 53 _ rfl b (off + a * 27) rfl (qs[a]) _ 27 (Rd.c27m (hR.keep hB) hlt) Try.underlying53 rfl (by kernel_rfl) (hb.len)) ?_
                    go_frame
                    refine ls_op rfl (fun K' hK' => ?_)
                    have lz175 := hB.size
                    have lz176 := h0.lt
                    refine wp_new (some 4) rfl (al_impl_Product rfl) (fun Wz177 nnz178 => ?_)
                    have bz179 := nnz178.below (Below.refl _ _) (Nat.le_refl _)
                    replace hB := below_after hB bz179
                    replace h0 := h0.after bz179
                    have hz180 : At Wz177 wr.heap.size (.cells (u8s (List.replicate 27 0)) 53 (0, 0)) := nnz178.at_
                    refine hK' _ _ ?_
                    clear hK' K' nnz178 bz179
                    go_frame
                    refine ls_op rfl (fun K' hK' => ?_)
                    refine wp_store_bytes 53 _ _ rfl rfl wr.heap.size rfl (qs[a]) rfl _ _ hz180 27 (by kernel_rfl) hb.len (by simp) (fun Wz181 pz182 => ?_)
                    replace hB := pz182.below hB (by omega)
                    replace h0 := pz182.other h0 (by omega)
                    replace hz180 : At Wz181 wr.heap.size (.cells (u8s (qs[a])) 53 (0, 0)) := pz182.at_
                    refine hK' _ _ ?_
                    clear hK' K' pz182
                    refine wpList_nil ?_
                    go_upto_region 7 with (fail)
                    refine wp_region_lit ?_
                    refine ls_ex (some 45) (.pointer (some ⟨w.heap.size, 0, none⟩)) rfl rfl (exec_fieldAddr 28 _ 0 rfl _ (by kernel_rfl)) ?_
                    go_frame
                    refine ls_ex (some 46) (.int .i64 p) rfl rfl (exec_load_one 2 _ rfl w.heap.size 0 rfl (.int .i64 p) _ Try.underlying2 rfl (h0.at_ 0)) ?_
                    go_frame
                    refine ls_ex (some 47) (.pointer (some ⟨wr.heap.size, 0, none⟩)) rfl rfl (exec_fieldAddr 53 _ 0 rfl _ (by kernel_rfl)) ?_
                    go_frame
                    refine ls_ex (some 48) (.agg (u8s (segm qs[a] 0 9))) rfl rfl (exec_load_seg 51 _ rfl wr.heap.size (0) rfl _ (qs[a]) _ 9 hz180 Try.underlying51 rfl (by kernel_rfl) (by rw [hb.len]; omega) (segm qs[a] 0 9) rfl) ?_
                    go_frame
                    refine ls_ex (some 49) (.pointer (some ⟨w.heap.size, 1, none⟩)) rfl rfl (exec_fieldAddr 28 _ 1 rfl _ (by kernel_rfl)) ?_
                    go_frame
                    refine ls_ex (some 50) (.int .i64 i) rfl rfl (exec_load_one 2 _ rfl w.heap.size 1 rfl (.int .i64 i) _ Try.underlying2 rfl (h0.at_ 1)) ?_
                    go_frame
                    refine ls_op rfl (fun K' hK' => ?_)
                    have lz185 := hB.size
                    have lz186 := h0.lt
                    have lz187 := hz180.lt
                    refine wp_call3 (some 51) rfl 51 _ _ _ _ rfl (fun args w => by kernel_rfl) _ _ _ rfl rfl rfl _ (l01Form_c p (segm qs[a] 0 9) i (segm_bytes hb (by omega)) _) (fun e Wz183 h => ?_)
                    obtain ⟨rfl, bz184⟩ := h
                    replace hB := below_after hB bz184
                    replace h0 := h0.after bz184
                    replace hz180 := hz180.after bz184
                    rw [HFa.out]
                    clear bz184
                    refine ⟨_, rfl, ?_⟩
                    refine hK' _ _ ?_
                    clear hK' K'
                    go_frame
                    refine ls_ex (some 52) (.bool false) rfl rfl (exec_not _ _ rfl true rfl) ?_
                    go_frame
                    refine ls_ex (some 53) (.bool false) rfl rfl (exec_move _ rfl (.bool false) rfl) ?_
                    go_frame
                    refine ls_ex_g (some 54) (.pointer (some ⟨w.heap.size, 0, none⟩)) rfl rfl (exec_fieldAddr 28 _ 0 rfl _ (by kernel_rfl)) ?_
                    go_frame
                    refine ls_ex_g (some 55) (.int .i64 p) rfl rfl (exec_load_one 2 _ rfl w.heap.size 0 rfl (.int .i64 p) _ Try.underlying2 rfl (h0.at_ 0)) ?_
                    go_frame
                    refine ls_ex_g (some 56) (.pointer (some ⟨wr.heap.size, 9, none⟩)) rfl rfl (exec_fieldAddr 53 _ 1 rfl _ (by kernel_rfl)) ?_
                    go_frame
                    refine ls_ex_g (some 57) (.agg (u8s (segm qs[a] 9 9))) rfl rfl (exec_load_seg 51 _ rfl wr.heap.size (9) rfl _ (qs[a]) _ 9 hz180 Try.underlying51 rfl (by kernel_rfl) (by rw [hb.len]; omega) (segm qs[a] 9 9) rfl) ?_
                    go_frame
                    refine ls_ex_g (some 58) (.pointer (some ⟨w.heap.size, 2, none⟩)) rfl rfl (exec_fieldAddr 28 _ 2 rfl _ (by kernel_rfl)) ?_
                    go_frame
                    refine ls_ex_g (some 59) (.int .i64 j) rfl rfl (exec_load_one 2 _ rfl w.heap.size 2 rfl (.int .i64 j) _ Try.underlying2 rfl (h0.at_ 2)) ?_
                    go_frame
                    refine ls_op_g rfl (fun K' hK' => ?_)
                    have lz190 := hB.size
                    have lz191 := h0.lt
                    have lz192 := hz180.lt
                    refine wp_call3 (some 60) rfl 51 _ _ _ _ rfl (fun args w => by kernel_rfl) _ _ _ rfl rfl rfl _ (l01Form_c p (segm qs[a] 9 9) j (segm_bytes hb (by omega)) _) (fun e Wz188 h => ?_)
                    obtain ⟨rfl, bz189⟩ := h
                    replace hB := below_after hB bz189
                    replace h0 := h0.after bz189
                    replace hz180 := hz180.after bz189
                    rw [HFb.out]
                    clear bz189
                    refine ⟨_, rfl, ?_⟩
                    refine hK' _ _ ?_
                    clear hK' K'
                    go_frame
                    refine ls_ex_g (some 61) (.bool false) rfl rfl (exec_not _ _ rfl true rfl) ?_
                    go_frame
                    refine ls_ex (some 62) (.bool false) rfl rfl (exec_pick _ _ _ rfl false rfl (.bool false) rfl) ?_
                    go_frame
                    refine ls_ex (some 63) (.bool false) rfl rfl (exec_move _ rfl (.bool false) rfl) ?_
                    go_frame
                    refine ls_ex_g (some 64) (.pointer (some ⟨w.heap.size, 0, none⟩)) rfl rfl (exec_fieldAddr 28 _ 0 rfl _ (by kernel_rfl)) ?_
                    go_frame
                    refine ls_ex_g (some 65) (.int .i64 p) rfl rfl (exec_load_one 2 _ rfl w.heap.size 0 rfl (.int .i64 p) _ Try.underlying2 rfl (h0.at_ 0)) ?_
                    go_frame
                    refine ls_ex_g (some 66) (.pointer (some ⟨wr.heap.size, 18, none⟩)) rfl rfl (exec_fieldAddr 53 _ 2 rfl _ (by kernel_rfl)) ?_
                    go_frame
                    refine ls_ex_g (some 67) (.agg (u8s (segm qs[a] 18 9))) rfl rfl (exec_load_seg 51 _ rfl wr.heap.size (18) rfl _ (qs[a]) _ 9 hz180 Try.underlying51 rfl (by kernel_rfl) (by rw [hb.len]; omega) (segm qs[a] 18 9) rfl) ?_
                    go_frame
                    refine ls_ex_g (some 68) (.pointer (some ⟨w.heap.size, 3, none⟩)) rfl rfl (exec_fieldAddr 28 _ 3 rfl _ (by kernel_rfl)) ?_
                    go_frame
                    refine ls_ex_g (some 69) (.int .i64 k) rfl rfl (exec_load_one 2 _ rfl w.heap.size 3 rfl (.int .i64 k) _ Try.underlying2 rfl (h0.at_ 3)) ?_
                    go_frame
                    refine ls_op_g rfl (fun K' hK' => ?_)
                    have lz195 := hB.size
                    have lz196 := h0.lt
                    have lz197 := hz180.lt
                    refine wp_call3 (some 70) rfl 51 _ _ _ _ rfl (fun args w => by kernel_rfl) _ _ _ rfl rfl rfl _ (l01Form_c p (segm qs[a] 18 9) k (segm_bytes hb (by omega)) _) (fun e Wz193 h => ?_)
                    obtain ⟨rfl, bz194⟩ := h
                    replace hB := below_after hB bz194
                    replace h0 := h0.after bz194
                    replace hz180 := hz180.after bz194
                    rw [HFc.out]
                    clear bz194
                    refine ⟨_, rfl, ?_⟩
                    refine hK' _ _ ?_
                    clear hK' K'
                    go_frame
                    refine ls_ex_g (some 71) (.bool false) rfl rfl (exec_not _ _ rfl true rfl) ?_
                    go_frame
                    refine ls_ex (some 72) (.bool false) rfl rfl (exec_pick _ _ _ rfl false rfl (.bool false) rfl) ?_
                    go_frame
                    refine ls_ex (some 73) (.bool false) rfl rfl (exec_move _ rfl (.bool false) rfl) ?_
                    go_frame
                    refine ls_ex_g (some 74) (.pointer (some ⟨wr.heap.size, 0, none⟩)) rfl rfl (exec_fieldAddr 53 _ 0 rfl _ (by kernel_rfl)) ?_
                    go_frame
                    refine ls_ex_g (some 75) (.agg (u8s (segm qs[a] 0 9))) rfl rfl (exec_load_seg 51 _ rfl wr.heap.size (0) rfl _ (qs[a]) _ 9 hz180 Try.underlying51 rfl (by kernel_rfl) (by rw [hb.len]; omega) (segm qs[a] 0 9) rfl) ?_
                    go_frame
                    refine ls_op_g rfl (fun K' hK' => ?_)
                    have lz200 := hB.size
                    have lz201 := h0.lt
                    have lz202 := hz180.lt
                    refine wp_call1 (some 76) rfl 52 _ _ rfl (fun args w => by kernel_rfl) _ rfl _ (l01Zero_c (segm qs[a] 0 9) (segm_bytes hb (by omega)) _) (fun e Wz198 h => ?_)
                    obtain ⟨rfl, bz199⟩ := h
                    replace hB := below_after hB bz199
                    replace h0 := h0.after bz199
                    replace hz180 := hz180.after bz199
                    rw [HZa.out]
                    clear bz199
                    refine ⟨_, rfl, ?_⟩
                    refine hK' _ _ ?_
                    clear hK' K'
                    go_frame
                    refine ls_ex (some 77) (.bool false) rfl rfl (exec_pick _ _ _ rfl false rfl (.bool false) rfl) ?_
                    go_frame
                    refine ls_ex (some 78) (.bool false) rfl rfl (exec_move _ rfl (.bool false) rfl) ?_
                    go_frame
                    refine ls_ex_g (some 79) (.pointer (some ⟨wr.heap.size, 9, none⟩)) rfl rfl (exec_fieldAddr 53 _ 1 rfl _ (by kernel_rfl)) ?_
                    go_frame
                    refine ls_ex_g (some 80) (.agg (u8s (segm qs[a] 9 9))) rfl rfl (exec_load_seg 51 _ rfl wr.heap.size (9) rfl _ (qs[a]) _ 9 hz180 Try.underlying51 rfl (by kernel_rfl) (by rw [hb.len]; omega) (segm qs[a] 9 9) rfl) ?_
                    go_frame
                    refine ls_op_g rfl (fun K' hK' => ?_)
                    have lz205 := hB.size
                    have lz206 := h0.lt
                    have lz207 := hz180.lt
                    refine wp_call1 (some 81) rfl 52 _ _ rfl (fun args w => by kernel_rfl) _ rfl _ (l01Zero_c (segm qs[a] 9 9) (segm_bytes hb (by omega)) _) (fun e Wz203 h => ?_)
                    obtain ⟨rfl, bz204⟩ := h
                    replace hB := below_after hB bz204
                    replace h0 := h0.after bz204
                    replace hz180 := hz180.after bz204
                    rw [HZb.out]
                    clear bz204
                    refine ⟨_, rfl, ?_⟩
                    refine hK' _ _ ?_
                    clear hK' K'
                    go_frame
                    refine ls_ex (some 82) (.bool false) rfl rfl (exec_pick _ _ _ rfl false rfl (.bool false) rfl) ?_
                    go_frame
                    refine ls_ex (some 83) (.bool false) rfl rfl (exec_move _ rfl (.bool false) rfl) ?_
                    go_frame
                    refine ls_ex_g (some 84) (.pointer (some ⟨wr.heap.size, 18, none⟩)) rfl rfl (exec_fieldAddr 53 _ 2 rfl _ (by kernel_rfl)) ?_
                    go_frame
                    refine ls_ex_g (some 85) (.agg (u8s (segm qs[a] 18 9))) rfl rfl (exec_load_seg 51 _ rfl wr.heap.size (18) rfl _ (qs[a]) _ 9 hz180 Try.underlying51 rfl (by kernel_rfl) (by rw [hb.len]; omega) (segm qs[a] 18 9) rfl) ?_
                    go_frame
                    refine ls_op_g rfl (fun K' hK' => ?_)
                    have lz210 := hB.size
                    have lz211 := h0.lt
                    have lz212 := hz180.lt
                    refine wp_call1 (some 86) rfl 52 _ _ rfl (fun args w => by kernel_rfl) _ rfl _ (l01Zero_c (segm qs[a] 18 9) (segm_bytes hb (by omega)) _) (fun e Wz208 h => ?_)
                    obtain ⟨rfl, bz209⟩ := h
                    replace hB := below_after hB bz209
                    replace h0 := h0.after bz209
                    replace hz180 := hz180.after bz209
                    rw [HZc.out]
                    clear bz209
                    refine ⟨_, rfl, ?_⟩
                    refine hK' _ _ ?_
                    clear hK' K'
                    go_frame
                    refine ls_ex (some 87) (.bool false) rfl rfl (exec_pick _ _ _ rfl false rfl (.bool false) rfl) ?_
                    go_frame
                    refine wpList_nil ?_
                    go_upto_region 5 with (fail)
                    refine wp_region_lit ?_
                    refine ls_ex (some 38) (.int .i64 a) rfl rfl (exec_move _ rfl (.int .i64 a) rfl) ?_
                    go_frame
                    refine ls_ex (some 39) (.int .i64 (a + 1)) rfl rfl (exec_add _ _ _ _ rfl a 1 (a + 1) rfl rfl (IntWalk.i64_in _ (by omega))) ?_
                    go_frame
                    refine ls_ex (some 3) (.int .i64 (a + 1)) rfl rfl (exec_assign _ rfl (.int .i64 (a + 1)) rfl) ?_
                    go_frame
                    refine wpList_nil ?_
                    go_wp2_with fail
                    go_roundw
                    case rel => exact ⟨a + 1, by omega, by go_num, HY, hB, h0⟩
                    case measure => simp [intOf]; omega
    · have HYes : Hid (methB p i j k qs = true) := Lib.hid (methB_yes HP.out HI.out HJ.out HK.out hl (by rw [← show a = qs.length by omega]; exact HG.out))
      clear HG
      go_upto_region 4 with (fail)
      refine wp_region_lit ?_
      refine ls_ex (some 33) (.int .i64 a) rfl rfl (exec_move _ rfl (.int .i64 a) rfl) ?_
      go_frame
      refine ls_ex (some 34) (.pointer (some ⟨w.heap.size, 4, none⟩)) rfl rfl (exec_fieldAddr 28 _ 4 rfl _ (by kernel_rfl)) ?_
      go_frame
      refine ls_ex (some 35) (.slice A qs.length c) rfl rfl (exec_load_one 26 _ rfl w.heap.size 4 rfl (.slice A qs.length c) _ Try.underlying26 rfl (h0.at_ 4)) ?_
      go_frame
      refine ls_ex (some 36) (.int .i64 qs.length) rfl rfl (exec_len _ 26 53 rfl A qs.length c rfl Try.underlying26) ?_
      go_frame
      refine ls_ex (some 37) (.bool false) rfl rfl (exec_lss _ _ _ _ rfl a qs.length rfl rfl false (decide_eq_false (by omega))) ?_
      go_frame
      refine wpList_nil ?_
      go_upto_region 9 with (fail)
      refine wp_region_lit ?_
      refine ls_ex (some 2) (.bool true) rfl rfl (exec_assign _ rfl (.bool true) rfl) ?_
      go_frame
      refine wpList_nil ?_
      go_wp2_with fail
      go_ret
      exact ⟨by rw [HYes.out]; rfl, hB⟩
theorem l09Is_c (p i j k : Int) (A : Option Addr) (c : Nat) (qs : List (List Nat)) (w : World) (hR : Rd w A qs) (hlen : qs.length ≤ 1048576) : Calls Try.prog 23 #[.agg #[.int .i64 p, .int .i64 i, .int .i64 j, .int .i64 k, .slice A qs.length c]] w (fun e w' => e = .returned (.bool (methB p i j k qs)) ∧ Below w.heap.size w w') := by
  cases hp : primeB p with
  | false => exact l09Is_a p i j k A c qs w hR hlen hp
  | true =>
    cases hi : sideB i with
    | false => exact l09Is_bi p i j k A c qs w hR hlen hp hi
    | true =>
      cases hj : sideB j with
      | false => exact l09Is_bj p i j k A c qs w hR hlen hp hi hj
      | true =>
        cases hk : sideB k with
        | false => exact l09Is_bk p i j k A c qs w hR hlen hp hi hj hk
        | true =>
          by_cases hl : 30 < qs.length
          · exact l09Is_c30 p i j k A c qs w hR hlen hp hi hj hk hl
          · exact l09Is_d p i j k A c qs w hR hlen hp hi hj hk (by omega)
set_option maxHeartbeats 4000000 in
theorem implIsMethod_a (p i j k : Int) (A : Option Addr) (c : Nat) (qs : List (List Nat)) (w : World) (hR : Rd w A qs) (hlen : qs.length ≤ 1048576) (hp : primeB p = false) :
    Calls Try.prog 26 #[.agg #[.int .i64 p, .int .i64 i, .int .i64 j, .int .i64 k, .slice A qs.length c]] w (fun e w' => e = .returned (.bool (methB p i j k qs)) ∧ Below w.heap.size w w') := by
  have hB := Below.refl w.heap.size w
  have _u0 := hR
  have _u1 := hlen
  clear _u0 _u1
  have HV : Hid (methB p i j k qs = false) := Lib.hid (by simp [methB, hp])
  have HP := Lib.hid hp
  clear hp
  go_enter Try.func26, Try.ntmps26
  go_upto_region 0 with (fail)
  refine wp_region_lit ?_
  refine ls_op rfl (fun K' hK' => ?_)
  have lz1 := hB.size
  refine wp_new (some 1) rfl (exec_box 28 _ rfl (#[.int .i64 p, .int .i64 i, .int .i64 j, .int .i64 k, .slice A qs.length c]) rfl) (fun Wz2 nnz3 => ?_)
  have bz4 := nnz3.below (Below.refl _ _) (Nat.le_refl _)
  replace hB := below_after hB bz4
  have hz5 : At Wz2 w.heap.size (.cells #[.int .i64 p, .int .i64 i, .int .i64 j, .int .i64 k, .slice A qs.length c] 28 (0, 0)) := nnz3.at_
  refine hK' _ _ ?_
  clear hK' K' nnz3 bz4
  go_frame
  refine ls_ex (some 2) (.bool false) rfl rfl (exec_assign _ rfl (.bool false) rfl) ?_
  go_frame
  refine wpList_nil ?_
  go_upto_region 1 with (fail)
  refine wp_region_lit ?_
  refine ls_ex (some 3) (.pointer (some ⟨w.heap.size, 0, none⟩)) rfl rfl (exec_fieldAddr 28 _ 0 rfl _ (by kernel_rfl)) ?_
  go_frame
  refine ls_ex (some 4) (.int .i64 p) rfl rfl (exec_load_one 2 _ rfl w.heap.size 0 rfl (.int .i64 p) _ Try.underlying2 rfl (hz5.at_ 0)) ?_
  go_frame
  refine ls_op rfl (fun K' hK' => ?_)
  have lz8 := hB.size
  have lz9 := hz5.lt
  refine wp_call1 (some 5) rfl 54 _ _ rfl (fun args w => by kernel_rfl) _ rfl _ (isPrime_c p _) (fun e Wz6 h => ?_)
  obtain ⟨rfl, rfl⟩ := h
  rw [HP.out]
  refine ⟨_, rfl, ?_⟩
  refine hK' _ _ ?_
  clear hK' K'
  go_frame
  refine ls_ex (some 6) (.bool true) rfl rfl (exec_not _ _ rfl false rfl) ?_
  go_frame
  refine ls_ex (some 7) (.bool true) rfl rfl (exec_move _ rfl (.bool true) rfl) ?_
  go_frame
  refine ls_skip_g (some 8) rfl rfl ?_
  go_frame
  refine ls_skip_g (some 9) rfl rfl ?_
  go_frame
  refine ls_skip_g (some 10) rfl rfl ?_
  go_frame
  refine ls_skip_g (some 11) rfl rfl ?_
  go_frame
  refine ls_ex (some 12) (.bool true) rfl rfl (exec_pick _ _ _ rfl true rfl (.bool true) rfl) ?_
  go_frame
  refine wpList_nil ?_
  go_upto_region 2 with (fail)
  refine wp_region_lit ?_
  refine ls_ex (some 2) (.bool false) rfl rfl (exec_assign _ rfl (.bool false) rfl) ?_
  go_frame
  refine wpList_nil ?_
  go_wp2_with fail
  go_ret
  exact ⟨by rw [HV.out]; rfl, hB⟩
set_option maxHeartbeats 4000000 in
theorem implIsMethod_b (p i j k : Int) (A : Option Addr) (c : Nat) (qs : List (List Nat)) (w : World) (hR : Rd w A qs) (hlen : qs.length ≤ 1048576) (hp : primeB p = true) (hs : (sideB i && sideB j && sideB k) = false) :
    Calls Try.prog 26 #[.agg #[.int .i64 p, .int .i64 i, .int .i64 j, .int .i64 k, .slice A qs.length c]] w (fun e w' => e = .returned (.bool (methB p i j k qs)) ∧ Below w.heap.size w w') := by
  have hB := Below.refl w.heap.size w
  have _u0 := hR
  have _u1 := hlen
  clear _u0 _u1
  have HV : Hid (methB p i j k qs = false) := Lib.hid (by unfold methB; rw [hs]; simp)
  have HP := Lib.hid hp
  have HS := Lib.hid hs
  clear hp hs
  go_enter Try.func26, Try.ntmps26
  go_upto_region 0 with (fail)
  refine wp_region_lit ?_
  refine ls_op rfl (fun K' hK' => ?_)
  have lz1 := hB.size
  refine wp_new (some 1) rfl (exec_box 28 _ rfl (#[.int .i64 p, .int .i64 i, .int .i64 j, .int .i64 k, .slice A qs.length c]) rfl) (fun Wz2 nnz3 => ?_)
  have bz4 := nnz3.below (Below.refl _ _) (Nat.le_refl _)
  replace hB := below_after hB bz4
  have hz5 : At Wz2 w.heap.size (.cells #[.int .i64 p, .int .i64 i, .int .i64 j, .int .i64 k, .slice A qs.length c] 28 (0, 0)) := nnz3.at_
  refine hK' _ _ ?_
  clear hK' K' nnz3 bz4
  go_frame
  refine ls_ex (some 2) (.bool false) rfl rfl (exec_assign _ rfl (.bool false) rfl) ?_
  go_frame
  refine wpList_nil ?_
  go_upto_region 1 with (fail)
  refine wp_region_lit ?_
  refine ls_ex (some 3) (.pointer (some ⟨w.heap.size, 0, none⟩)) rfl rfl (exec_fieldAddr 28 _ 0 rfl _ (by kernel_rfl)) ?_
  go_frame
  refine ls_ex (some 4) (.int .i64 p) rfl rfl (exec_load_one 2 _ rfl w.heap.size 0 rfl (.int .i64 p) _ Try.underlying2 rfl (hz5.at_ 0)) ?_
  go_frame
  refine ls_op rfl (fun K' hK' => ?_)
  have lz8 := hB.size
  have lz9 := hz5.lt
  refine wp_call1 (some 5) rfl 54 _ _ rfl (fun args w => by kernel_rfl) _ rfl _ (isPrime_c p _) (fun e Wz6 h => ?_)
  obtain ⟨rfl, rfl⟩ := h
  rw [HP.out]
  refine ⟨_, rfl, ?_⟩
  refine hK' _ _ ?_
  clear hK' K'
  go_frame
  refine ls_ex (some 6) (.bool false) rfl rfl (exec_not _ _ rfl true rfl) ?_
  go_frame
  refine ls_ex (some 7) (.bool false) rfl rfl (exec_move _ rfl (.bool false) rfl) ?_
  go_frame
  refine ls_ex_g (some 8) (.agg #[.int .i64 p, .int .i64 i, .int .i64 j, .int .i64 k, .slice A qs.length c]) rfl rfl (exec_load_all 28 _ rfl w.heap.size rfl _ _ _ hz5 Try.underlying28 rfl 5 (by kernel_rfl) rfl) ?_
  go_frame
  refine ls_op_g rfl (fun K' hK' => ?_)
  have lz12 := hB.size
  have lz13 := hz5.lt
  refine wp_call1 (some 9) rfl 27 _ _ rfl (fun args w => by kernel_rfl) _ rfl _ (mSides_c p i j k (.slice A qs.length c) _) (fun e Wz10 h => ?_)
  obtain ⟨rfl, bz11⟩ := h
  replace hB := below_after hB bz11
  replace hz5 := hz5.after bz11
  clear bz11
  refine ⟨_, rfl, ?_⟩
  refine hK' _ _ ?_
  clear hK' K'
  go_frame
  refine ls_op_g rfl (fun K' hK' => ?_)
  have lz16 := hB.size
  have lz17 := hz5.lt
  refine wp_call1 (some 10) rfl 29 _ _ rfl (fun args w => by kernel_rfl) _ rfl _ (isAllowed_c i j k _) (fun e Wz14 h => ?_)
  obtain ⟨rfl, bz15⟩ := h
  replace hB := below_after hB bz15
  replace hz5 := hz5.after bz15
  rw [HS.out]
  clear bz15
  refine ⟨_, rfl, ?_⟩
  refine hK' _ _ ?_
  clear hK' K'
  go_frame
  refine ls_ex_g (some 11) (.bool true) rfl rfl (exec_not _ _ rfl false rfl) ?_
  go_frame
  refine ls_ex (some 12) (.bool true) rfl rfl (exec_pick _ _ _ rfl false rfl (.bool true) rfl) ?_
  go_frame
  refine wpList_nil ?_
  go_upto_region 2 with (fail)
  refine wp_region_lit ?_
  refine ls_ex (some 2) (.bool false) rfl rfl (exec_assign _ rfl (.bool false) rfl) ?_
  go_frame
  refine wpList_nil ?_
  go_wp2_with fail
  go_ret
  exact ⟨by rw [HV.out]; rfl, hB⟩
set_option maxHeartbeats 4000000 in
theorem implIsMethod_d (p i j k : Int) (A : Option Addr) (c : Nat) (qs : List (List Nat)) (w : World) (hR : Rd w A qs) (hlen : qs.length ≤ 1048576) (hp : primeB p = true) (hs : (sideB i && sideB j && sideB k) = true) :
    Calls Try.prog 26 #[.agg #[.int .i64 p, .int .i64 i, .int .i64 j, .int .i64 k, .slice A qs.length c]] w (fun e w' => e = .returned (.bool (methB p i j k qs)) ∧ Below w.heap.size w w') := by
  have hB := Below.refl w.heap.size w
  have HV : Hid (methB p i j k qs = (decide (qs.length ≤ 30) && qs.all (prodM p i j k))) := Lib.hid (by unfold methB; rw [hs, hp]; simp)
  have HP := Lib.hid hp
  have HS := Lib.hid hs
  have h3 := hs
  simp only [Bool.and_eq_true] at h3
  have HI := Lib.hid h3.1.1
  have HJ := Lib.hid h3.1.2
  have HK := Lib.hid h3.2
  clear hp hs h3
  go_enter Try.func26, Try.ntmps26
  go_upto_region 0 with (fail)
  refine wp_region_lit ?_
  refine ls_op rfl (fun K' hK' => ?_)
  have lz1 := hB.size
  refine wp_new (some 1) rfl (exec_box 28 _ rfl (#[.int .i64 p, .int .i64 i, .int .i64 j, .int .i64 k, .slice A qs.length c]) rfl) (fun Wz2 nnz3 => ?_)
  have bz4 := nnz3.below (Below.refl _ _) (Nat.le_refl _)
  replace hB := below_after hB bz4
  have hz5 : At Wz2 w.heap.size (.cells #[.int .i64 p, .int .i64 i, .int .i64 j, .int .i64 k, .slice A qs.length c] 28 (0, 0)) := nnz3.at_
  refine hK' _ _ ?_
  clear hK' K' nnz3 bz4
  go_frame
  refine ls_ex (some 2) (.bool false) rfl rfl (exec_assign _ rfl (.bool false) rfl) ?_
  go_frame
  refine wpList_nil ?_
  go_upto_region 1 with (fail)
  refine wp_region_lit ?_
  refine ls_ex (some 3) (.pointer (some ⟨w.heap.size, 0, none⟩)) rfl rfl (exec_fieldAddr 28 _ 0 rfl _ (by kernel_rfl)) ?_
  go_frame
  refine ls_ex (some 4) (.int .i64 p) rfl rfl (exec_load_one 2 _ rfl w.heap.size 0 rfl (.int .i64 p) _ Try.underlying2 rfl (hz5.at_ 0)) ?_
  go_frame
  refine ls_op rfl (fun K' hK' => ?_)
  have lz8 := hB.size
  have lz9 := hz5.lt
  refine wp_call1 (some 5) rfl 54 _ _ rfl (fun args w => by kernel_rfl) _ rfl _ (isPrime_c p _) (fun e Wz6 h => ?_)
  obtain ⟨rfl, rfl⟩ := h
  rw [HP.out]
  refine ⟨_, rfl, ?_⟩
  refine hK' _ _ ?_
  clear hK' K'
  go_frame
  refine ls_ex (some 6) (.bool false) rfl rfl (exec_not _ _ rfl true rfl) ?_
  go_frame
  refine ls_ex (some 7) (.bool false) rfl rfl (exec_move _ rfl (.bool false) rfl) ?_
  go_frame
  refine ls_ex_g (some 8) (.agg #[.int .i64 p, .int .i64 i, .int .i64 j, .int .i64 k, .slice A qs.length c]) rfl rfl (exec_load_all 28 _ rfl w.heap.size rfl _ _ _ hz5 Try.underlying28 rfl 5 (by kernel_rfl) rfl) ?_
  go_frame
  refine ls_op_g rfl (fun K' hK' => ?_)
  have lz12 := hB.size
  have lz13 := hz5.lt
  refine wp_call1 (some 9) rfl 27 _ _ rfl (fun args w => by kernel_rfl) _ rfl _ (mSides_c p i j k (.slice A qs.length c) _) (fun e Wz10 h => ?_)
  obtain ⟨rfl, bz11⟩ := h
  replace hB := below_after hB bz11
  replace hz5 := hz5.after bz11
  clear bz11
  refine ⟨_, rfl, ?_⟩
  refine hK' _ _ ?_
  clear hK' K'
  go_frame
  refine ls_op_g rfl (fun K' hK' => ?_)
  have lz16 := hB.size
  have lz17 := hz5.lt
  refine wp_call1 (some 10) rfl 29 _ _ rfl (fun args w => by kernel_rfl) _ rfl _ (isAllowed_c i j k _) (fun e Wz14 h => ?_)
  obtain ⟨rfl, bz15⟩ := h
  replace hB := below_after hB bz15
  replace hz5 := hz5.after bz15
  rw [HS.out]
  clear bz15
  refine ⟨_, rfl, ?_⟩
  refine hK' _ _ ?_
  clear hK' K'
  go_frame
  refine ls_ex_g (some 11) (.bool false) rfl rfl (exec_not _ _ rfl true rfl) ?_
  go_frame
  refine ls_ex (some 12) (.bool false) rfl rfl (exec_pick _ _ _ rfl false rfl (.bool false) rfl) ?_
  go_frame
  refine wpList_nil ?_
  go_upto_region 3 with (fail)
  refine wp_region_y (zs := []) (S := fun w' => Below w.heap.size w w' ∧ At w' w.heap.size (.cells #[.int .i64 p, .int .i64 i, .int .i64 j, .int .i64 k, .slice A qs.length c] 28 (0, 0))) (S2 := fun w' => True) (by kernel_rfl) ?_
  change wpAnyY _ _ _ _ _ _ _ _ _ _ (World.drew _)
  generalize hwdz18 : World.drew _ = wdz18
  replace hB : Below w.heap.size w wdz18 := by rw [← hwdz18]; exact hB.drew
  replace hz5 : At wdz18 w.heap.size (.cells #[.int .i64 p, .int .i64 i, .int .i64 j, .int .i64 k, .slice A qs.length c] 28 (0, 0)) := by rw [← hwdz18]; exact hz5
  clear hwdz18
  refine y_yield 0 (some 13) (.pointer (some ⟨w.heap.size, 0, none⟩)) rfl (by kernel_rfl) (by kernel_rfl) (by kernel_rfl) (fun _ _ _ h => h) rfl rfl ⟨hB, hz5⟩ (fun w' h' => exec_fieldAddr 28 _ 0 rfl _ (by kernel_rfl)) ?_
  go_frame
  refine y_yield 1 (some 14) (.int .i64 p) rfl (by kernel_rfl) (by kernel_rfl) (by kernel_rfl) (fun _ _ _ h => h) rfl rfl ⟨hB, hz5⟩ (fun w' h' => exec_load_one 2 _ rfl w.heap.size 0 rfl (.int .i64 p) _ Try.underlying2 rfl (h'.2.at_ 0)) ?_
  go_frame
  refine y_yield 2 (some 15) (.agg #[.int .i64 p, .int .i64 i, .int .i64 j, .int .i64 k, .slice A qs.length c]) rfl (by kernel_rfl) (by kernel_rfl) (by kernel_rfl) (fun _ _ _ h => h) rfl rfl ⟨hB, hz5⟩ (fun w' h' => exec_load_all 28 _ rfl w.heap.size rfl _ _ _ h'.2 Try.underlying28 rfl 5 (by kernel_rfl) rfl) ?_
  go_frame
  refine y_yield 5 (some 18) (.pointer (some ⟨w.heap.size, 4, none⟩)) rfl (by kernel_rfl) (by kernel_rfl) (by kernel_rfl) (fun _ _ _ h => h) rfl rfl ⟨hB, hz5⟩ (fun w' h' => exec_fieldAddr 28 _ 4 rfl _ (by kernel_rfl)) ?_
  go_frame
  refine y_yield 6 (some 19) (.slice A qs.length c) rfl (by kernel_rfl) (by kernel_rfl) (by kernel_rfl) (fun _ _ _ h => h) rfl rfl ⟨hB, hz5⟩ (fun w' h' => exec_load_one 26 _ rfl w.heap.size 4 rfl (.slice A qs.length c) _ Try.underlying26 rfl (h'.2.at_ 4)) ?_
  go_frame
  refine y_oper 3 (by kernel_rfl) rfl rfl (fun K' hK' => ?_)
  have lz21 := hB.size
  have lz22 := hz5.lt
  refine wp_call1 (some 16) rfl 27 _ _ rfl (fun args w => by kernel_rfl) _ rfl _ (mSides_c p i j k (.slice A qs.length c) _) (fun e Wz19 h => ?_)
  obtain ⟨rfl, bz20⟩ := h
  replace hB := below_after hB bz20
  replace hz5 := hz5.after bz20
  clear bz20
  refine ⟨_, rfl, ?_⟩
  refine hK' _ _ ⟨hB, hz5⟩ (fun _ => trivial) ?_
  clear hK' K'
  go_frame
  refine y_oper 4 (by kernel_rfl) rfl rfl (fun K' hK' => ?_)
  have lz25 := hB.size
  have lz26 := hz5.lt
  refine wp_call1 (some 17) rfl 56 _ _ rfl (fun args w => by kernel_rfl) _ rfl _ (formShapes_c i j k _) (fun e Wz23 h => ?_)
  obtain ⟨rfl, bz24⟩ := h
  replace hB := below_after hB bz24
  replace hz5 := hz5.after bz24
  clear bz24
  refine ⟨_, rfl, ?_⟩
  refine hK' _ _ ⟨hB, hz5⟩ (fun _ => trivial) ?_
  clear hK' K'
  go_frame
  refine y_oper 7 (by kernel_rfl) rfl rfl (fun K' hK' => ?_)
  have lz29 := hB.size
  have lz30 := hz5.lt
  refine wp_call3 (some 20) rfl 55 _ _ _ _ rfl (fun args w => by kernel_rfl) _ _ _ rfl rfl rfl _ (areMethod_c p i j k A c qs _ (hR.keep hB) hlen HP.out HI.out HJ.out HK.out) (fun e Wz27 h => ?_)
  obtain ⟨rfl, bz28⟩ := h
  replace hB := below_after hB bz28
  replace hz5 := hz5.after bz28
  clear bz28
  refine ⟨_, rfl, ?_⟩
  refine hK' _ _ ⟨hB, hz5⟩ (fun _ => trivial) ?_
  clear hK' K'
  go_frame
  refine y_oper 8 (by kernel_rfl) rfl rfl (fun K' hK' => ?_)
  refine wp_exec (some 2) rfl (.bool (decide (qs.length ≤ 30) && qs.all (prodM p i j k))) (exec_assign _ rfl (.bool (decide (qs.length ≤ 30) && qs.all (prodM p i j k))) rfl) ?_
  refine hK' _ _ ⟨hB, hz5⟩ (fun _ => trivial) ?_
  clear hK' K'
  go_frame
  refine y_done (by kernel_rfl) ?_ _
  go_wp2_with fail
  go_ret
  exact ⟨by rw [HV.out]; rfl, hB⟩
theorem implIsMethod_c (p i j k : Int) (A : Option Addr) (c : Nat) (qs : List (List Nat)) (w : World) (hR : Rd w A qs) (hlen : qs.length ≤ 1048576) : Calls Try.prog 26 #[.agg #[.int .i64 p, .int .i64 i, .int .i64 j, .int .i64 k, .slice A qs.length c]] w (fun e w' => e = .returned (.bool (methB p i j k qs)) ∧ Below w.heap.size w w') := by
  cases hp : primeB p with
  | false => exact implIsMethod_a p i j k A c qs w hR hlen hp
  | true =>
    cases hs : (sideB i && sideB j && sideB k) with
    | false => exact implIsMethod_b p i j k A c qs w hR hlen hp hs
    | true => exact implIsMethod_d p i j k A c qs w hR hlen hp hs
end Go.Proofs.Ytopdfblfhdooaaa
