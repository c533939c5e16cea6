/-
  CountExact, ExactScheme of both sides. (Made by mktwf.py.)
-/
import Derived.Test.YtnlidegmllcdhaaTwE
namespace Go.Proofs.Ytnlidegmllcdhaa
open Go.RowKit
set_option maxRecDepth 100000
def outZ (code x : Int) : Int := if code = 0 then x else 0
def outL (code : Int) (l : List (List Nat)) : List (List Nat) := if code = 0 then l else []

theorem exec_field5 {o : Oper} {a : Act} {w : World} (x : Operand) (ho : o.op = .field 28 x 4) (p n m k : Int) (A : Option Addr) (l c : Nat) (hx : a.eval x = .agg #[.int .i64 p, .int .i64 n, .int .i64 m, .int .i64 k, .slice A l c]) :
    (execOp a.eval o).run Try.prog w = .ok (.value (.slice A l c)) w := by
  unfold execOp
  rw [ho]
  simp only [hx]
  kernel_rfl
theorem isPower_c (x : Int) (w : World) : Calls Try.prog 42 #[.int .i64 x] w fun e w' => e = .returned (.bool (decide (0 ≤ x) && decide (x ≤ 9))) ∧ w = w' := by
  go_enter Try.func42, Try.ntmps42
  go_wp2_with fail
  refine (isBetween_c 0 x 9 _).mono ?_
  rintro e w1 ⟨rfl, rfl⟩
  go_wp2_with fail
  go_ret
  exact ⟨rfl, rfl⟩
def ceCode (p n m k : Int) (ts : List (List Nat)) (x : Int) : Int := if borderB p n m k ts = true then (if (decide (0 ≤ x) && decide (x ≤ 9)) = true then 0 else 2) else 1
def esCode (p n m k : Int) (ts : List (List Nat)) (x : Int) : Int := if borderB p n m k ts = true then (if (decide (0 ≤ x) && decide (x ≤ 9)) = true then (if 30 < (exL x.toNat ts).length then 3 else 0) else 2) else 1
theorem outL_len3 {code : Int} {l : List (List Nat)} {N : Nat} (h : code = 0 → l.length ≤ N) : (outL code l).length ≤ N := by
  unfold outL
  split
  · exact h (by assumption)
  · simp
theorem outL_bytes3 {code : Int} {l : List (List Nat)} {N : Nat} (h : code = 0 → ∀ r ∈ l, Bytes N r) : ∀ r ∈ outL code l, Bytes N r := by
  unfold outL
  split
  · exact h (by assumption)
  · simp
theorem es_bytes {p n m k x : Int} {ts : List (List Nat)} (h : ∀ t ∈ ts, Bytes 108 t) : ∀ r ∈ outL (esCode p n m k ts x) (exL x.toNat ts), Bytes 27 r := outL_bytes3 fun _ r hr => exL_bytes h _ r hr
theorem es_len {p n m k x : Int} {ts : List (List Nat)} : (outL (esCode p n m k ts x) (exL x.toNat ts)).length ≤ 1048576 := outL_len3 fun h => by
  unfold esCode at h
  split at h
  · split at h
    · split at h
      · omega
      · omega
    · omega
  · omega
attribute [local irreducible] wpList
set_option maxHeartbeats 4000000 in
theorem specCount_a (p n m k : Int) (A : Option Addr) (c : Nat) (ts : List (List Nat)) (x : Int) (w : World) (hR : RdT w A ts) (hlen : ts.length ≤ 1048576) (hs : borderB p n m k ts = false) :
    Calls Try.prog 16 #[.agg #[.int .i64 p, .int .i64 n, .int .i64 m, .int .i64 k, .slice A ts.length c], .int .i64 x] w (fun e w' => e = .returned (.tuple #[.int .i64 0, .int .i64 1]) ∧ Below w.heap.size w w') := by
  have hB := Below.refl w.heap.size w
  have Hs := Lib.hid hs
  clear hs
  go_enter Try.func16, Try.ntmps16
  go_upto_region 0 with (fail)
  refine wp_region_lit ?_
  refine ls_op rfl (fun K' hK' => ?_)
  have lz1 := hB.size
  refine wp_new (some 2) rfl (exec_box 33 _ rfl (#[.int .i64 p, .int .i64 n, .int .i64 m, .int .i64 k, .slice A ts.length c]) rfl) (fun Wz2 nnz3 => ?_)
  have bz4 := nnz3.below (Below.refl _ _) (Nat.le_refl _)
  replace hB := below_after hB bz4
  have hz5 : At Wz2 w.heap.size (.cells #[.int .i64 p, .int .i64 n, .int .i64 m, .int .i64 k, .slice A ts.length c] 33 (0, 0)) := nnz3.at_
  refine hK' _ _ ?_
  clear hK' K' nnz3 bz4
  go_frame
  refine ls_ex (some 4) (.int .i64 0) rfl rfl (exec_assign _ rfl (.int .i64 0) rfl) ?_
  go_frame
  refine ls_ex (some 5) (.int .i64 0) rfl rfl (exec_assign _ rfl (.int .i64 0) rfl) ?_
  go_frame
  refine wpList_nil ?_
  go_upto_region 1 with (fail)
  refine wp_region_lit ?_
  refine ls_ex (some 7) (.agg #[.int .i64 p, .int .i64 n, .int .i64 m, .int .i64 k, .slice A ts.length c]) rfl rfl (exec_load_all 33 _ rfl w.heap.size rfl _ _ _ hz5 Try.underlying33 rfl 5 (by kernel_rfl) rfl) ?_
  go_frame
  refine ls_op rfl (fun K' hK' => ?_)
  have lz8 := hB.size
  have lz9 := hz5.lt
  refine wp_call1 (some 8) rfl 23 _ _ rfl (fun args w => by kernel_rfl) _ rfl _ (l08Is_c p n m k A c ts _ (hR.keep hB) hlen) (fun e Wz6 h => ?_)
  obtain ⟨rfl, bz7⟩ := h
  replace hB := below_after hB bz7
  replace hz5 := hz5.after bz7
  rw [Hs.out]
  clear bz7
  refine ⟨_, rfl, ?_⟩
  refine hK' _ _ ?_
  clear hK' K'
  go_frame
  refine ls_ex (some 9) (.bool true) rfl rfl (exec_not _ _ rfl false rfl) ?_
  go_frame
  refine ls_ex (some 6) (.bool true) rfl rfl (exec_assign _ rfl (.bool true) rfl) ?_
  go_frame
  refine wpList_nil ?_
  go_upto_region 2 with (fail)
  refine wp_region_lit ?_
  refine ls_ex (some 4) (.int .i64 0) rfl rfl (exec_assign _ rfl (.int .i64 0) rfl) ?_
  go_frame
  refine ls_ex (some 5) (.int .i64 1) rfl rfl (exec_assign _ rfl (.int .i64 1) rfl) ?_
  go_frame
  refine wpList_nil ?_
  go_wp2_with fail
  go_ret2
  exact ⟨rfl, hB⟩
set_option maxHeartbeats 4000000 in
theorem specCount_b (p n m k : Int) (A : Option Addr) (c : Nat) (ts : List (List Nat)) (x : Int) (w : World) (hR : RdT w A ts) (hlen : ts.length ≤ 1048576) (hs : borderB p n m k ts = true) (hin : (decide (0 ≤ x) && decide (x ≤ 9)) = false) :
    Calls Try.prog 16 #[.agg #[.int .i64 p, .int .i64 n, .int .i64 m, .int .i64 k, .slice A ts.length c], .int .i64 x] w (fun e w' => e = .returned (.tuple #[.int .i64 0, .int .i64 2]) ∧ Below w.heap.size w w') := by
  have hB := Below.refl w.heap.size w
  have Hs := Lib.hid hs
  have Hin := Lib.hid hin
  clear hs hin
  go_enter Try.func16, Try.ntmps16
  go_upto_region 0 with (fail)
  refine wp_region_lit ?_
  refine ls_op rfl (fun K' hK' => ?_)
  have lz1 := hB.size
  refine wp_new (some 2) rfl (exec_box 33 _ rfl (#[.int .i64 p, .int .i64 n, .int .i64 m, .int .i64 k, .slice A ts.length c]) rfl) (fun Wz2 nnz3 => ?_)
  have bz4 := nnz3.below (Below.refl _ _) (Nat.le_refl _)
  replace hB := below_after hB bz4
  have hz5 : At Wz2 w.heap.size (.cells #[.int .i64 p, .int .i64 n, .int .i64 m, .int .i64 k, .slice A ts.length c] 33 (0, 0)) := nnz3.at_
  refine hK' _ _ ?_
  clear hK' K' nnz3 bz4
  go_frame
  refine ls_ex (some 4) (.int .i64 0) rfl rfl (exec_assign _ rfl (.int .i64 0) rfl) ?_
  go_frame
  refine ls_ex (some 5) (.int .i64 0) rfl rfl (exec_assign _ rfl (.int .i64 0) rfl) ?_
  go_frame
  refine wpList_nil ?_
  go_upto_region 1 with (fail)
  refine wp_region_lit ?_
  refine ls_ex (some 7) (.agg #[.int .i64 p, .int .i64 n, .int .i64 m, .int .i64 k, .slice A ts.length c]) rfl rfl (exec_load_all 33 _ rfl w.heap.size rfl _ _ _ hz5 Try.underlying33 rfl 5 (by kernel_rfl) rfl) ?_
  go_frame
  refine ls_op rfl (fun K' hK' => ?_)
  have lz8 := hB.size
  have lz9 := hz5.lt
  refine wp_call1 (some 8) rfl 23 _ _ rfl (fun args w => by kernel_rfl) _ rfl _ (l08Is_c p n m k A c ts _ (hR.keep hB) hlen) (fun e Wz6 h => ?_)
  obtain ⟨rfl, bz7⟩ := h
  replace hB := below_after hB bz7
  replace hz5 := hz5.after bz7
  rw [Hs.out]
  clear bz7
  refine ⟨_, rfl, ?_⟩
  refine hK' _ _ ?_
  clear hK' K'
  go_frame
  refine ls_ex (some 9) (.bool false) rfl rfl (exec_not _ _ rfl true rfl) ?_
  go_frame
  refine ls_ex (some 6) (.bool false) rfl rfl (exec_assign _ rfl (.bool false) rfl) ?_
  go_frame
  refine wpList_nil ?_
  go_upto_region 3 with (fail)
  refine wp_region_lit ?_
  refine ls_ex (some 11) (.int .i64 x) rfl rfl (exec_move _ rfl (.int .i64 x) rfl) ?_
  go_frame
  refine ls_op rfl (fun K' hK' => ?_)
  have lz12 := hB.size
  have lz13 := hz5.lt
  refine wp_call3 (some 12) rfl 24 _ _ _ _ rfl (fun args w => by kernel_rfl) _ _ _ rfl rfl rfl _ (l01In_c x 0 9 _) (fun e Wz10 h => ?_)
  obtain ⟨rfl, rfl⟩ := h
  rw [Hin.out]
  refine ⟨_, rfl, ?_⟩
  refine hK' _ _ ?_
  clear hK' K'
  go_frame
  refine ls_ex (some 13) (.bool true) rfl rfl (exec_not _ _ rfl false rfl) ?_
  go_frame
  refine ls_ex (some 10) (.bool true) rfl rfl (exec_assign _ rfl (.bool true) rfl) ?_
  go_frame
  refine wpList_nil ?_
  go_upto_region 4 with (fail)
  refine wp_region_lit ?_
  refine ls_ex (some 4) (.int .i64 0) rfl rfl (exec_assign _ rfl (.int .i64 0) rfl) ?_
  go_frame
  refine ls_ex (some 5) (.int .i64 2) rfl rfl (exec_assign _ rfl (.int .i64 2) rfl) ?_
  go_frame
  refine wpList_nil ?_
  go_wp2_with fail
  go_ret2
  exact ⟨rfl, hB⟩
set_option maxHeartbeats 4000000 in
theorem specCount_v (p n m k : Int) (A : Option Addr) (c : Nat) (ts : List (List Nat)) (h : Nat) (w : World) (hR : RdT w A ts) (hlen : ts.length ≤ 1048576) (hs : borderB p n m k ts = true) (h9 : h ≤ 9) :
    Calls Try.prog 16 #[.agg #[.int .i64 p, .int .i64 n, .int .i64 m, .int .i64 k, .slice A ts.length c], .int .i64 (h : Int)] w (fun e w' => e = .returned (.tuple #[.int .i64 ((exL h ts).length : Nat), .int .i64 0]) ∧ Below w.heap.size w w') := by
  have hB := Below.refl w.heap.size w
  have Hs := Lib.hid hs
  have Hin : Hid ((decide (0 ≤ (h : Int)) && decide ((h : Int) ≤ 9)) = true) := Lib.hid (by rw [decide_eq_true (show (0 : Int) ≤ h by omega), decide_eq_true (show (h : Int) ≤ 9 by omega)]; rfl)
  replace hlen : ts.length ≤ 30 := (fun _ => (borderB_all hs).2.1) hlen
  obtain ⟨N9, hN9⟩ : ∃ N, (exL h ts).length = N := ⟨_, rfl⟩
  have HN9 := Lib.hid hN9
  clear hs hN9
  go_enter Try.func16, Try.ntmps16
  go_upto_region 0 with (fail)
  refine wp_region_lit ?_
  refine ls_op rfl (fun K' hK' => ?_)
  have lz1 := hB.size
  refine wp_new (some 2) rfl (exec_box 33 _ rfl (#[.int .i64 p, .int .i64 n, .int .i64 m, .int .i64 k, .slice A ts.length c]) rfl) (fun Wz2 nnz3 => ?_)
  have bz4 := nnz3.below (Below.refl _ _) (Nat.le_refl _)
  replace hB := below_after hB bz4
  have hz5 : At Wz2 w.heap.size (.cells #[.int .i64 p, .int .i64 n, .int .i64 m, .int .i64 k, .slice A ts.length c] 33 (0, 0)) := nnz3.at_
  refine hK' _ _ ?_
  clear hK' K' nnz3 bz4
  go_frame
  refine ls_ex (some 4) (.int .i64 0) rfl rfl (exec_assign _ rfl (.int .i64 0) rfl) ?_
  go_frame
  refine ls_ex (some 5) (.int .i64 0) rfl rfl (exec_assign _ rfl (.int .i64 0) rfl) ?_
  go_frame
  refine wpList_nil ?_
  go_upto_region 1 with (fail)
  refine wp_region_lit ?_
  refine ls_ex (some 7) (.agg #[.int .i64 p, .int .i64 n, .int .i64 m, .int .i64 k, .slice A ts.length c]) rfl rfl (exec_load_all 33 _ rfl w.heap.size rfl _ _ _ hz5 Try.underlying33 rfl 5 (by kernel_rfl) rfl) ?_
  go_frame
  refine ls_op rfl (fun K' hK' => ?_)
  have lz8 := hB.size
  have lz9 := hz5.lt
  refine wp_call1 (some 8) rfl 23 _ _ rfl (fun args w => by kernel_rfl) _ rfl _ (l08Is_c p n m k A c ts _ (hR.keep hB) (by omega)) (fun e Wz6 h => ?_)
  obtain ⟨rfl, bz7⟩ := h
  replace hB := below_after hB bz7
  replace hz5 := hz5.after bz7
  rw [Hs.out]
  clear bz7
  refine ⟨_, rfl, ?_⟩
  refine hK' _ _ ?_
  clear hK' K'
  go_frame
  refine ls_ex (some 9) (.bool false) rfl rfl (exec_not _ _ rfl true rfl) ?_
  go_frame
  refine ls_ex (some 6) (.bool false) rfl rfl (exec_assign _ rfl (.bool false) rfl) ?_
  go_frame
  refine wpList_nil ?_
  go_upto_region 3 with (fail)
  refine wp_region_lit ?_
  refine ls_ex (some 11) (.int .i64 h) rfl rfl (exec_move _ rfl (.int .i64 h) rfl) ?_
  go_frame
  refine ls_op rfl (fun K' hK' => ?_)
  have lz12 := hB.size
  have lz13 := hz5.lt
  refine wp_call3 (some 12) rfl 24 _ _ _ _ rfl (fun args w => by kernel_rfl) _ _ _ rfl rfl rfl _ (l01In_c (h : Int) 0 9 _) (fun e Wz10 h => ?_)
  obtain ⟨rfl, rfl⟩ := h
  rw [Hin.out]
  refine ⟨_, rfl, ?_⟩
  refine hK' _ _ ?_
  clear hK' K'
  go_frame
  refine ls_ex (some 13) (.bool false) rfl rfl (exec_not _ _ rfl true rfl) ?_
  go_frame
  refine ls_ex (some 10) (.bool false) rfl rfl (exec_assign _ rfl (.bool false) rfl) ?_
  go_frame
  refine wpList_nil ?_
  go_upto_region 5 with (fail)
  refine wp_region_lit ?_
  refine ls_ex (some 14) (.agg #[.int .i64 p, .int .i64 n, .int .i64 m, .int .i64 k, .slice A ts.length c]) rfl rfl (exec_load_all 33 _ rfl w.heap.size rfl _ _ _ hz5 Try.underlying33 rfl 5 (by kernel_rfl) rfl) ?_
  go_frame
  refine ls_ex (some 15) (.int .i64 h) rfl rfl (exec_move _ rfl (.int .i64 h) rfl) ?_
  go_frame
  refine ls_op rfl (fun K' hK' => ?_)
  have lz16 := hB.size
  have lz17 := hz5.lt
  have lo9 := hB.size
  refine wp_call2 (some 16) rfl 41 _ _ _ rfl (fun args w => by kernel_rfl) _ _ rfl rfl _ (l08Exact_c p n m k A c ts h h9 _ (hR.keep hB) hlen) (fun e Wz14 h => ?_)
  obtain ⟨v9, rfl, ho, bz15⟩ := h
  replace hB := below_after hB bz15
  replace hz5 := hz5.after bz15
  obtain ⟨A9, c9, rfl⟩ := Own.rdN2 ho (n := N9) HN9.out
  clear bz15
  refine ⟨_, rfl, ?_⟩
  refine hK' _ _ ?_
  clear hK' K'
  go_frame
  refine ls_ex (some 17) (.slice A9 N9 c9) rfl rfl (exec_field5 _ rfl p n m k A9 N9 c9 rfl) ?_
  go_frame
  refine ls_ex (some 18) (.int .i64 N9) rfl rfl (exec_len _ 26 58 rfl A9 N9 c9 rfl Try.underlying26) ?_
  go_frame
  refine ls_ex (some 4) (.int .i64 N9) rfl rfl (exec_assign _ rfl (.int .i64 N9) rfl) ?_
  go_frame
  refine ls_ex (some 5) (.int .i64 0) rfl rfl (exec_assign _ rfl (.int .i64 0) rfl) ?_
  go_frame
  refine wpList_nil ?_
  go_wp2_with fail
  go_ret2
  exact ⟨by rw [HN9.out]; rfl, hB⟩
theorem specCountExact_c (p n m k : Int) (A : Option Addr) (c : Nat) (ts : List (List Nat)) (x : Int) (w : World) (hR : RdT w A ts) (hlen : ts.length ≤ 1048576) : Calls Try.prog 16 #[.agg #[.int .i64 p, .int .i64 n, .int .i64 m, .int .i64 k, .slice A ts.length c], .int .i64 x] w (fun e w' => e = .returned (.tuple #[.int .i64 (outZ (ceCode p n m k ts x) ((exL x.toNat ts).length : Nat)), .int .i64 (ceCode p n m k ts x)]) ∧ Below w.heap.size w w') := by
  unfold ceCode outZ
  cases hs : borderB p n m k ts with
  | false => exact specCount_a p n m k A c ts x w hR hlen hs
  | true =>
    cases hin : (decide (0 ≤ x) && decide (x ≤ 9)) with
    | false => exact specCount_b p n m k A c ts x w hR hlen hs hin
    | true =>
      simp only [Bool.and_eq_true, decide_eq_true_eq] at hin
      obtain ⟨h, rfl⟩ : ∃ h : Nat, x = (h : Int) := ⟨x.toNat, by omega⟩
      exact specCount_v p n m k A c ts h w hR hlen hs (by omega)
set_option maxHeartbeats 4000000 in
theorem implCount_a (p n m k : Int) (A : Option Addr) (c : Nat) (ts : List (List Nat)) (x : Int) (w : World) (hR : RdT w A ts) (hlen : ts.length ≤ 1048576) (hs : borderB p n m k ts = false) :
    Calls Try.prog 17 #[.agg #[.int .i64 p, .int .i64 n, .int .i64 m, .int .i64 k, .slice A ts.length c], .int .i64 x] w (fun e w' => e = .returned (.tuple #[.int .i64 0, .int .i64 1]) ∧ Below w.heap.size w w') := by
  have hB := Below.refl w.heap.size w
  have Hs := Lib.hid hs
  clear hs
  go_enter Try.func17, Try.ntmps17
  go_upto_region 0 with (fail)
  refine wp_region_lit ?_
  refine ls_op rfl (fun K' hK' => ?_)
  have lz1 := hB.size
  refine wp_new (some 2) rfl (exec_box 33 _ rfl (#[.int .i64 p, .int .i64 n, .int .i64 m, .int .i64 k, .slice A ts.length c]) rfl) (fun Wz2 nnz3 => ?_)
  have bz4 := nnz3.below (Below.refl _ _) (Nat.le_refl _)
  replace hB := below_after hB bz4
  have hz5 : At Wz2 w.heap.size (.cells #[.int .i64 p, .int .i64 n, .int .i64 m, .int .i64 k, .slice A ts.length c] 33 (0, 0)) := nnz3.at_
  refine hK' _ _ ?_
  clear hK' K' nnz3 bz4
  go_frame
  refine ls_ex (some 4) (.int .i64 0) rfl rfl (exec_assign _ rfl (.int .i64 0) rfl) ?_
  go_frame
  refine ls_ex (some 5) (.int .i64 0) rfl rfl (exec_assign _ rfl (.int .i64 0) rfl) ?_
  go_frame
  refine wpList_nil ?_
  go_upto_region 1 with (fail)
  refine wp_region_lit ?_
  refine ls_ex (some 6) (.agg #[.int .i64 p, .int .i64 n, .int .i64 m, .int .i64 k, .slice A ts.length c]) rfl rfl (exec_load_all 33 _ rfl w.heap.size rfl _ _ _ hz5 Try.underlying33 rfl 5 (by kernel_rfl) rfl) ?_
  go_frame
  refine ls_op rfl (fun K' hK' => ?_)
  have lz8 := hB.size
  have lz9 := hz5.lt
  refine wp_call1 (some 7) rfl 29 _ _ rfl (fun args w => by kernel_rfl) _ rfl _ (implIsBorder_c p n m k A c ts _ (hR.keep hB) hlen) (fun e Wz6 h => ?_)
  obtain ⟨rfl, bz7⟩ := h
  replace hB := below_after hB bz7
  replace hz5 := hz5.after bz7
  rw [Hs.out]
  clear bz7
  refine ⟨_, rfl, ?_⟩
  refine hK' _ _ ?_
  clear hK' K'
  go_frame
  refine ls_ex (some 8) (.bool true) rfl rfl (exec_not _ _ rfl false rfl) ?_
  go_frame
  refine wpList_nil ?_
  go_upto_region 2 with (fail)
  refine wp_region_lit ?_
  refine ls_ex (some 4) (.int .i64 0) rfl rfl (exec_assign _ rfl (.int .i64 0) rfl) ?_
  go_frame
  refine ls_ex (some 5) (.int .i64 1) rfl rfl (exec_assign _ rfl (.int .i64 1) rfl) ?_
  go_frame
  refine wpList_nil ?_
  go_wp2_with fail
  go_ret2
  exact ⟨rfl, hB⟩
set_option maxHeartbeats 4000000 in
theorem implCount_b (p n m k : Int) (A : Option Addr) (c : Nat) (ts : List (List Nat)) (x : Int) (w : World) (hR : RdT w A ts) (hlen : ts.length ≤ 1048576) (hs : borderB p n m k ts = true) (hin : (decide (0 ≤ x) && decide (x ≤ 9)) = false) :
    Calls Try.prog 17 #[.agg #[.int .i64 p, .int .i64 n, .int .i64 m, .int .i64 k, .slice A ts.length c], .int .i64 x] w (fun e w' => e = .returned (.tuple #[.int .i64 0, .int .i64 2]) ∧ Below w.heap.size w w') := by
  have hB := Below.refl w.heap.size w
  have Hs := Lib.hid hs
  have Hin := Lib.hid hin
  clear hs hin
  go_enter Try.func17, Try.ntmps17
  go_upto_region 0 with (fail)
  refine wp_region_lit ?_
  refine ls_op rfl (fun K' hK' => ?_)
  have lz1 := hB.size
  refine wp_new (some 2) rfl (exec_box 33 _ rfl (#[.int .i64 p, .int .i64 n, .int .i64 m, .int .i64 k, .slice A ts.length c]) rfl) (fun Wz2 nnz3 => ?_)
  have bz4 := nnz3.below (Below.refl _ _) (Nat.le_refl _)
  replace hB := below_after hB bz4
  have hz5 : At Wz2 w.heap.size (.cells #[.int .i64 p, .int .i64 n, .int .i64 m, .int .i64 k, .slice A ts.length c] 33 (0, 0)) := nnz3.at_
  refine hK' _ _ ?_
  clear hK' K' nnz3 bz4
  go_frame
  refine ls_ex (some 4) (.int .i64 0) rfl rfl (exec_assign _ rfl (.int .i64 0) rfl) ?_
  go_frame
  refine ls_ex (some 5) (.int .i64 0) rfl rfl (exec_assign _ rfl (.int .i64 0) rfl) ?_
  go_frame
  refine wpList_nil ?_
  go_upto_region 1 with (fail)
  refine wp_region_lit ?_
  refine ls_ex (some 6) (.agg #[.int .i64 p, .int .i64 n, .int .i64 m, .int .i64 k, .slice A ts.length c]) rfl rfl (exec_load_all 33 _ rfl w.heap.size rfl _ _ _ hz5 Try.underlying33 rfl 5 (by kernel_rfl) rfl) ?_
  go_frame
  refine ls_op rfl (fun K' hK' => ?_)
  have lz8 := hB.size
  have lz9 := hz5.lt
  refine wp_call1 (some 7) rfl 29 _ _ rfl (fun args w => by kernel_rfl) _ rfl _ (implIsBorder_c p n m k A c ts _ (hR.keep hB) hlen) (fun e Wz6 h => ?_)
  obtain ⟨rfl, bz7⟩ := h
  replace hB := below_after hB bz7
  replace hz5 := hz5.after bz7
  rw [Hs.out]
  clear bz7
  refine ⟨_, rfl, ?_⟩
  refine hK' _ _ ?_
  clear hK' K'
  go_frame
  refine ls_ex (some 8) (.bool false) rfl rfl (exec_not _ _ rfl true rfl) ?_
  go_frame
  refine wpList_nil ?_
  go_upto_region 3 with (fail)
  refine wp_region_lit ?_
  refine ls_ex (some 9) (.int .i64 x) rfl rfl (exec_move _ rfl (.int .i64 x) rfl) ?_
  go_frame
  refine ls_op rfl (fun K' hK' => ?_)
  have lz12 := hB.size
  have lz13 := hz5.lt
  refine wp_call1 (some 10) rfl 42 _ _ rfl (fun args w => by kernel_rfl) _ rfl _ (isPower_c x _) (fun e Wz10 h => ?_)
  obtain ⟨rfl, rfl⟩ := h
  rw [Hin.out]
  refine ⟨_, rfl, ?_⟩
  refine hK' _ _ ?_
  clear hK' K'
  go_frame
  refine ls_ex (some 11) (.bool true) rfl rfl (exec_not _ _ rfl false rfl) ?_
  go_frame
  refine wpList_nil ?_
  go_upto_region 4 with (fail)
  refine wp_region_lit ?_
  refine ls_ex (some 4) (.int .i64 0) rfl rfl (exec_assign _ rfl (.int .i64 0) rfl) ?_
  go_frame
  refine ls_ex (some 5) (.int .i64 2) rfl rfl (exec_assign _ rfl (.int .i64 2) rfl) ?_
  go_frame
  refine wpList_nil ?_
  go_wp2_with fail
  go_ret2
  exact ⟨rfl, hB⟩
set_option maxHeartbeats 4000000 in
theorem implCount_v (p n m k : Int) (A : Option Addr) (c : Nat) (ts : List (List Nat)) (h : Nat) (w : World) (hR : RdT w A ts) (hlen : ts.length ≤ 1048576) (hs : borderB p n m k ts = true) (h9 : h ≤ 9) :
    Calls Try.prog 17 #[.agg #[.int .i64 p, .int .i64 n, .int .i64 m, .int .i64 k, .slice A ts.length c], .int .i64 (h : Int)] w (fun e w' => e = .returned (.tuple #[.int .i64 ((exL h ts).length : Nat), .int .i64 0]) ∧ Below w.heap.size w w') := by
  have hB := Below.refl w.heap.size w
  have Hs := Lib.hid hs
  have Hin : Hid ((decide (0 ≤ (h : Int)) && decide ((h : Int) ≤ 9)) = true) := Lib.hid (by rw [decide_eq_true (show (0 : Int) ≤ h by omega), decide_eq_true (show (h : Int) ≤ 9 by omega)]; rfl)
  replace hlen : ts.length ≤ 30 := (fun _ => (borderB_all hs).2.1) hlen
  obtain ⟨N9, hN9⟩ : ∃ N, (exL h ts).length = N := ⟨_, rfl⟩
  have HN9 := Lib.hid hN9
  clear hs hN9
  go_enter Try.func17, Try.ntmps17
  go_upto_region 0 with (fail)
  refine wp_region_lit ?_
  refine ls_op rfl (fun K' hK' => ?_)
  have lz1 := hB.size
  refine wp_new (some 2) rfl (exec_box 33 _ rfl (#[.int .i64 p, .int .i64 n, .int .i64 m, .int .i64 k, .slice A ts.length c]) rfl) (fun Wz2 nnz3 => ?_)
  have bz4 := nnz3.below (Below.refl _ _) (Nat.le_refl _)
  replace hB := below_after hB bz4
  have hz5 : At Wz2 w.heap.size (.cells #[.int .i64 p, .int .i64 n, .int .i64 m, .int .i64 k, .slice A ts.length c] 33 (0, 0)) := nnz3.at_
  refine hK' _ _ ?_
  clear hK' K' nnz3 bz4
  go_frame
  refine ls_ex (some 4) (.int .i64 0) rfl rfl (exec_assign _ rfl (.int .i64 0) rfl) ?_
  go_frame
  refine ls_ex (some 5) (.int .i64 0) rfl rfl (exec_assign _ rfl (.int .i64 0) rfl) ?_
  go_frame
  refine wpList_nil ?_
  go_upto_region 1 with (fail)
  refine wp_region_lit ?_
  refine ls_ex (some 6) (.agg #[.int .i64 p, .int .i64 n, .int .i64 m, .int .i64 k, .slice A ts.length c]) rfl rfl (exec_load_all 33 _ rfl w.heap.size rfl _ _ _ hz5 Try.underlying33 rfl 5 (by kernel_rfl) rfl) ?_
  go_frame
  refine ls_op rfl (fun K' hK' => ?_)
  have lz8 := hB.size
  have lz9 := hz5.lt
  refine wp_call1 (some 7) rfl 29 _ _ rfl (fun args w => by kernel_rfl) _ rfl _ (implIsBorder_c p n m k A c ts _ (hR.keep hB) (by omega)) (fun e Wz6 h => ?_)
  obtain ⟨rfl, bz7⟩ := h
  replace hB := below_after hB bz7
  replace hz5 := hz5.after bz7
  rw [Hs.out]
  clear bz7
  refine ⟨_, rfl, ?_⟩
  refine hK' _ _ ?_
  clear hK' K'
  go_frame
  refine ls_ex (some 8) (.bool false) rfl rfl (exec_not _ _ rfl true rfl) ?_
  go_frame
  refine wpList_nil ?_
  go_upto_region 3 with (fail)
  refine wp_region_lit ?_
  refine ls_ex (some 9) (.int .i64 h) rfl rfl (exec_move _ rfl (.int .i64 h) rfl) ?_
  go_frame
  refine ls_op rfl (fun K' hK' => ?_)
  have lz12 := hB.size
  have lz13 := hz5.lt
  refine wp_call1 (some 10) rfl 42 _ _ rfl (fun args w => by kernel_rfl) _ rfl _ (isPower_c (h : Int) _) (fun e Wz10 h => ?_)
  obtain ⟨rfl, rfl⟩ := h
  rw [Hin.out]
  refine ⟨_, rfl, ?_⟩
  refine hK' _ _ ?_
  clear hK' K'
  go_frame
  refine ls_ex (some 11) (.bool false) rfl rfl (exec_not _ _ rfl true rfl) ?_
  go_frame
  refine wpList_nil ?_
  go_upto_region 5 with (fail)
  refine wp_region_lit ?_
  refine ls_ex (some 12) (.agg #[.int .i64 p, .int .i64 n, .int .i64 m, .int .i64 k, .slice A ts.length c]) rfl rfl (exec_load_all 33 _ rfl w.heap.size rfl _ _ _ hz5 Try.underlying33 rfl 5 (by kernel_rfl) rfl) ?_
  go_frame
  refine ls_ex (some 13) (.int .i64 h) rfl rfl (exec_move _ rfl (.int .i64 h) rfl) ?_
  go_frame
  refine ls_op rfl (fun K' hK' => ?_)
  have lz16 := hB.size
  have lz17 := hz5.lt
  have lo9 := hB.size
  refine wp_call2 (some 14) rfl 43 _ _ _ rfl (fun args w => by kernel_rfl) _ _ rfl rfl _ (exactOf_c p n m k A c ts h h9 _ (hR.keep hB) hlen) (fun e Wz14 h => ?_)
  obtain ⟨v9, rfl, ho, bz15⟩ := h
  replace hB := below_after hB bz15
  replace hz5 := hz5.after bz15
  obtain ⟨A9, c9, rfl⟩ := Own.rdN2 ho (n := N9) HN9.out
  clear bz15
  refine ⟨_, rfl, ?_⟩
  refine hK' _ _ ?_
  clear hK' K'
  go_frame
  refine ls_ex (some 15) (.slice A9 N9 c9) rfl rfl (exec_field5 _ rfl p n m k A9 N9 c9 rfl) ?_
  go_frame
  refine ls_ex (some 16) (.int .i64 N9) rfl rfl (exec_len _ 26 58 rfl A9 N9 c9 rfl Try.underlying26) ?_
  go_frame
  refine ls_ex (some 4) (.int .i64 N9) rfl rfl (exec_assign _ rfl (.int .i64 N9) rfl) ?_
  go_frame
  refine ls_ex (some 5) (.int .i64 0) rfl rfl (exec_assign _ rfl (.int .i64 0) rfl) ?_
  go_frame
  refine wpList_nil ?_
  go_wp2_with fail
  go_ret2
  exact ⟨by rw [HN9.out]; rfl, hB⟩
theorem implCountExact_c (p n m k : Int) (A : Option Addr) (c : Nat) (ts : List (List Nat)) (x : Int) (w : World) (hR : RdT w A ts) (hlen : ts.length ≤ 1048576) : Calls Try.prog 17 #[.agg #[.int .i64 p, .int .i64 n, .int .i64 m, .int .i64 k, .slice A ts.length c], .int .i64 x] w (fun e w' => e = .returned (.tuple #[.int .i64 (outZ (ceCode p n m k ts x) ((exL x.toNat ts).length : Nat)), .int .i64 (ceCode p n m k ts x)]) ∧ Below w.heap.size w w') := by
  unfold ceCode outZ
  cases hs : borderB p n m k ts with
  | false => exact implCount_a p n m k A c ts x w hR hlen hs
  | true =>
    cases hin : (decide (0 ≤ x) && decide (x ≤ 9)) with
    | false => exact implCount_b p n m k A c ts x w hR hlen hs hin
    | true =>
      simp only [Bool.and_eq_true, decide_eq_true_eq] at hin
      obtain ⟨h, rfl⟩ : ∃ h : Nat, x = (h : Int) := ⟨x.toNat, by omega⟩
      exact implCount_v p n m k A c ts h w hR hlen hs (by omega)
set_option maxHeartbeats 4000000 in
theorem specExact_a (p n m k : Int) (A : Option Addr) (c : Nat) (ts : List (List Nat)) (x : Int) (w : World) (hR : RdT w A ts) (hlen : ts.length ≤ 1048576) (hs : borderB p n m k ts = false) :
    Calls Try.prog 18 #[.agg #[.int .i64 p, .int .i64 n, .int .i64 m, .int .i64 k, .slice A ts.length c], .int .i64 x] w (ResS w (outZ (esCode p n m k ts x) p) (outZ (esCode p n m k ts x) n) (outZ (esCode p n m k ts x) m) (outZ (esCode p n m k ts x) k) (outL (esCode p n m k ts x) (exL x.toNat ts)) (esCode p n m k ts x)) := by
  have hB := Below.refl w.heap.size w
  have HC : Hid (esCode p n m k ts x = 1) := Lib.hid (by unfold esCode; rw [hs]; rfl)
  have Hs := Lib.hid hs
  clear hs
  go_enter Try.func18, Try.ntmps18
  go_upto_region 0 with (fail)
  refine wp_region_lit ?_
  refine ls_op rfl (fun K' hK' => ?_)
  have lz1 := hB.size
  refine wp_new (some 2) rfl (exec_box 33 _ rfl (#[.int .i64 p, .int .i64 n, .int .i64 m, .int .i64 k, .slice A ts.length c]) rfl) (fun Wz2 nnz3 => ?_)
  have bz4 := nnz3.below (Below.refl _ _) (Nat.le_refl _)
  replace hB := below_after hB bz4
  have hz5 : At Wz2 w.heap.size (.cells #[.int .i64 p, .int .i64 n, .int .i64 m, .int .i64 k, .slice A ts.length c] 33 (0, 0)) := nnz3.at_
  refine hK' _ _ ?_
  clear hK' K' nnz3 bz4
  go_frame
  refine ls_op rfl (fun K' hK' => ?_)
  have lz6 := hB.size
  have lz7 := hz5.lt
  refine wp_new (some 4) rfl (al_impl_Scheme rfl) (fun Wz8 nnz9 => ?_)
  have bz10 := nnz9.below (Below.refl _ _) (Nat.le_refl _)
  replace hB := below_after hB bz10
  replace hz5 := hz5.after bz10
  have hz11 : At Wz8 Wz2.heap.size (.cells #[.int .i64 0, .int .i64 0, .int .i64 0, .int .i64 0, .slice none 0 0] 28 (0, 0)) := nnz9.at_
  refine hK' _ _ ?_
  clear hK' K' nnz9 bz10
  go_frame
  refine ls_ex (some 5) (.int .i64 0) rfl rfl (exec_assign _ rfl (.int .i64 0) rfl) ?_
  go_frame
  refine wpList_nil ?_
  go_upto_region 1 with (fail)
  refine wp_region_lit ?_
  refine ls_ex (some 8) (.agg #[.int .i64 p, .int .i64 n, .int .i64 m, .int .i64 k, .slice A ts.length c]) rfl rfl (exec_load_all 33 _ rfl w.heap.size rfl _ _ _ hz5 Try.underlying33 rfl 5 (by kernel_rfl) rfl) ?_
  go_frame
  refine ls_op rfl (fun K' hK' => ?_)
  have lz14 := hB.size
  have lz15 := hz5.lt
  have lz16 := hz11.lt
  refine wp_call1 (some 9) rfl 23 _ _ rfl (fun args w => by kernel_rfl) _ rfl _ (l08Is_c p n m k A c ts _ (hR.keep hB) hlen) (fun e Wz12 h => ?_)
  obtain ⟨rfl, bz13⟩ := h
  replace hB := below_after hB bz13
  replace hz5 := hz5.after bz13
  replace hz11 := hz11.after bz13
  rw [Hs.out]
  clear bz13
  refine ⟨_, rfl, ?_⟩
  refine hK' _ _ ?_
  clear hK' K'
  go_frame
  refine ls_ex (some 10) (.bool true) rfl rfl (exec_not _ _ rfl false rfl) ?_
  go_frame
  refine ls_ex (some 7) (.bool true) rfl rfl (exec_assign _ rfl (.bool true) rfl) ?_
  go_frame
  refine wpList_nil ?_
  go_upto_region 2 with (fail)
  refine wp_region_lit ?_
  refine ls_ex (some 11) (.agg #[.int .i64 0, .int .i64 0, .int .i64 0, .int .i64 0, .slice none 0 0]) rfl rfl (exec_build_nil 28 rfl _ (by kernel_rfl)) ?_
  go_frame
  refine ls_op rfl (fun K' hK' => ?_)
  refine wp_store_all 28 _ _ rfl rfl Wz2.heap.size rfl #[.int .i64 0, .int .i64 0, .int .i64 0, .int .i64 0, .slice none 0 0] rfl _ _ hz11 5 (by kernel_rfl) rfl rfl (one5 _ _ _ _ _ _ _) (fun Wz17 pz18 => ?_)
  replace hB := pz18.below hB (by omega)
  replace hz5 := pz18.other hz5 (by omega)
  replace hz11 : At Wz17 Wz2.heap.size (.cells #[.int .i64 0, .int .i64 0, .int .i64 0, .int .i64 0, .slice none 0 0] 28 (0, 0)) := pz18.at_
  refine hK' _ _ ?_
  clear hK' K' pz18
  refine ls_ex (some 5) (.int .i64 1) rfl rfl (exec_assign _ rfl (.int .i64 1) rfl) ?_
  go_frame
  refine wpList_nil ?_
  go_wp2_with fail
  refine bodyPost_ret (results_at2 rfl _ _ Wz2.heap.size _ _ _ rfl _ rfl hz11 Try.underlying28 rfl 5 (by kernel_rfl) rfl) rfl ?_
  unfold ResS outZ outL
  rw [HC.out]
  exact ⟨_, rfl, Own.nil _ _, hB⟩
set_option maxHeartbeats 4000000 in
theorem implExact_a (p n m k : Int) (A : Option Addr) (c : Nat) (ts : List (List Nat)) (x : Int) (w : World) (hR : RdT w A ts) (hlen : ts.length ≤ 1048576) (hs : borderB p n m k ts = false) :
    Calls Try.prog 19 #[.agg #[.int .i64 p, .int .i64 n, .int .i64 m, .int .i64 k, .slice A ts.length c], .int .i64 x] w (ResS w (outZ (esCode p n m k ts x) p) (outZ (esCode p n m k ts x) n) (outZ (esCode p n m k ts x) m) (outZ (esCode p n m k ts x) k) (outL (esCode p n m k ts x) (exL x.toNat ts)) (esCode p n m k ts x)) := by
  have hB := Below.refl w.heap.size w
  have HC : Hid (esCode p n m k ts x = 1) := Lib.hid (by unfold esCode; rw [hs]; rfl)
  have Hs := Lib.hid hs
  clear hs
  go_enter Try.func19, Try.ntmps19
  go_upto_region 0 with (fail)
  refine wp_region_lit ?_
  refine ls_op rfl (fun K' hK' => ?_)
  have lz1 := hB.size
  refine wp_new (some 2) rfl (exec_box 33 _ rfl (#[.int .i64 p, .int .i64 n, .int .i64 m, .int .i64 k, .slice A ts.length c]) rfl) (fun Wz2 nnz3 => ?_)
  have bz4 := nnz3.below (Below.refl _ _) (Nat.le_refl _)
  replace hB := below_after hB bz4
  have hz5 : At Wz2 w.heap.size (.cells #[.int .i64 p, .int .i64 n, .int .i64 m, .int .i64 k, .slice A ts.length c] 33 (0, 0)) := nnz3.at_
  refine hK' _ _ ?_
  clear hK' K' nnz3 bz4
  go_frame
  refine ls_op rfl (fun K' hK' => ?_)
  have lz6 := hB.size
  have lz7 := hz5.lt
  refine wp_new (some 4) rfl (al_impl_Scheme rfl) (fun Wz8 nnz9 => ?_)
  have bz10 := nnz9.below (Below.refl _ _) (Nat.le_refl _)
  replace hB := below_after hB bz10
  replace hz5 := hz5.after bz10
  have hz11 : At Wz8 Wz2.heap.size (.cells #[.int .i64 0, .int .i64 0, .int .i64 0, .int .i64 0, .slice none 0 0] 28 (0, 0)) := nnz9.at_
  refine hK' _ _ ?_
  clear hK' K' nnz9 bz10
  go_frame
  refine ls_ex (some 5) (.int .i64 0) rfl rfl (exec_assign _ rfl (.int .i64 0) rfl) ?_
  go_frame
  refine wpList_nil ?_
  go_upto_region 1 with (fail)
  refine wp_region_lit ?_
  refine ls_ex (some 9) (.agg #[.int .i64 p, .int .i64 n, .int .i64 m, .int .i64 k, .slice A ts.length c]) rfl rfl (exec_load_all 33 _ rfl w.heap.size rfl _ _ _ hz5 Try.underlying33 rfl 5 (by kernel_rfl) rfl) ?_
  go_frame
  refine ls_ex (some 10) (.int .i64 x) rfl rfl (exec_move _ rfl (.int .i64 x) rfl) ?_
  go_frame
  refine ls_op rfl (fun K' hK' => ?_)
  have lz14 := hB.size
  have lz15 := hz5.lt
  have lz16 := hz11.lt
  refine wp_call2 (some 11) rfl 17 _ _ _ rfl (fun args w => by kernel_rfl) _ _ rfl rfl _ (implCount_a p n m k A c ts x _ (hR.keep hB) hlen Hs.out) (fun e Wz12 h => ?_)
  obtain ⟨rfl, bz13⟩ := h
  replace hB := below_after hB bz13
  replace hz5 := hz5.after bz13
  replace hz11 := hz11.after bz13
  clear bz13
  refine ⟨_, rfl, ?_⟩
  refine hK' _ _ ?_
  clear hK' K'
  go_frame
  refine ls_ex (some 8) (.tuple #[.int .i64 0, .int .i64 1]) rfl rfl (exec_move _ rfl (.tuple #[.int .i64 0, .int .i64 1]) rfl) ?_
  go_frame
  refine ls_ex (some 12) (.int .i64 0) rfl rfl (exec_extract _ 0 rfl #[.int .i64 0, .int .i64 1] (by rfl) _ rfl) ?_
  go_frame
  refine ls_ex (some 13) (.int .i64 1) rfl rfl (exec_extract _ 1 rfl #[.int .i64 0, .int .i64 1] (by rfl) _ rfl) ?_
  go_frame
  refine ls_ex (some 6) (.int .i64 0) rfl rfl (exec_assign _ rfl (.int .i64 0) rfl) ?_
  go_frame
  refine ls_ex (some 7) (.int .i64 1) rfl rfl (exec_assign _ rfl (.int .i64 1) rfl) ?_
  go_frame
  refine wpList_nil ?_
  go_upto_region 2 with (fail)
  refine wp_region_lit ?_
  refine ls_ex (some 14) (.int .i64 1) rfl rfl (exec_move _ rfl (.int .i64 1) rfl) ?_
  go_frame
  refine ls_ex (some 15) (.bool true) rfl rfl (exec_neq _ _ _ _ rfl 1 0 rfl rfl true rfl) ?_
  go_frame
  refine wpList_nil ?_
  go_upto_region 3 with (fail)
  refine wp_region_lit ?_
  refine ls_ex (some 16) (.agg #[.int .i64 0, .int .i64 0, .int .i64 0, .int .i64 0, .slice none 0 0]) rfl rfl (exec_build_nil 28 rfl _ (by kernel_rfl)) ?_
  go_frame
  refine ls_ex (some 17) (.int .i64 1) rfl rfl (exec_move _ rfl (.int .i64 1) rfl) ?_
  go_frame
  refine ls_op rfl (fun K' hK' => ?_)
  refine wp_store_all 28 _ _ rfl rfl Wz2.heap.size rfl #[.int .i64 0, .int .i64 0, .int .i64 0, .int .i64 0, .slice none 0 0] rfl _ _ hz11 5 (by kernel_rfl) rfl rfl (one5 _ _ _ _ _ _ _) (fun Wz17 pz18 => ?_)
  replace hB := pz18.below hB (by omega)
  replace hz5 := pz18.other hz5 (by omega)
  replace hz11 : At Wz17 Wz2.heap.size (.cells #[.int .i64 0, .int .i64 0, .int .i64 0, .int .i64 0, .slice none 0 0] 28 (0, 0)) := pz18.at_
  refine hK' _ _ ?_
  clear hK' K' pz18
  refine ls_ex (some 5) (.int .i64 1) rfl rfl (exec_assign _ rfl (.int .i64 1) rfl) ?_
  go_frame
  refine wpList_nil ?_
  go_wp2_with fail
  refine bodyPost_ret (results_at2 rfl _ _ Wz2.heap.size _ _ _ rfl _ rfl hz11 Try.underlying28 rfl 5 (by kernel_rfl) rfl) rfl ?_
  unfold ResS outZ outL
  rw [HC.out]
  exact ⟨_, rfl, Own.nil _ _, hB⟩
set_option maxHeartbeats 4000000 in
theorem specExact_b (p n m k : Int) (A : Option Addr) (c : Nat) (ts : List (List Nat)) (x : Int) (w : World) (hR : RdT w A ts) (hlen : ts.length ≤ 1048576) (hs : borderB p n m k ts = true) (hin : (decide (0 ≤ x) && decide (x ≤ 9)) = false) :
    Calls Try.prog 18 #[.agg #[.int .i64 p, .int .i64 n, .int .i64 m, .int .i64 k, .slice A ts.length c], .int .i64 x] w (ResS w (outZ (esCode p n m k ts x) p) (outZ (esCode p n m k ts x) n) (outZ (esCode p n m k ts x) m) (outZ (esCode p n m k ts x) k) (outL (esCode p n m k ts x) (exL x.toNat ts)) (esCode p n m k ts x)) := by
  have hB := Below.refl w.heap.size w
  have HC : Hid (esCode p n m k ts x = 2) := Lib.hid (by unfold esCode; rw [hs, hin]; rfl)
  have Hs := Lib.hid hs
  have Hin := Lib.hid hin
  clear hs hin
  go_enter Try.func18, Try.ntmps18
  go_upto_region 0 with (fail)
  refine wp_region_lit ?_
  refine ls_op rfl (fun K' hK' => ?_)
  have lz1 := hB.size
  refine wp_new (some 2) rfl (exec_box 33 _ rfl (#[.int .i64 p, .int .i64 n, .int .i64 m, .int .i64 k, .slice A ts.length c]) rfl) (fun Wz2 nnz3 => ?_)
  have bz4 := nnz3.below (Below.refl _ _) (Nat.le_refl _)
  replace hB := below_after hB bz4
  have hz5 : At Wz2 w.heap.size (.cells #[.int .i64 p, .int .i64 n, .int .i64 m, .int .i64 k, .slice A ts.length c] 33 (0, 0)) := nnz3.at_
  refine hK' _ _ ?_
  clear hK' K' nnz3 bz4
  go_frame
  refine ls_op rfl (fun K' hK' => ?_)
  have lz6 := hB.size
  have lz7 := hz5.lt
  refine wp_new (some 4) rfl (al_impl_Scheme rfl) (fun Wz8 nnz9 => ?_)
  have bz10 := nnz9.below (Below.refl _ _) (Nat.le_refl _)
  replace hB := below_after hB bz10
  replace hz5 := hz5.after bz10
  have hz11 : At Wz8 Wz2.heap.size (.cells #[.int .i64 0, .int .i64 0, .int .i64 0, .int .i64 0, .slice none 0 0] 28 (0, 0)) := nnz9.at_
  refine hK' _ _ ?_
  clear hK' K' nnz9 bz10
  go_frame
  refine ls_ex (some 5) (.int .i64 0) rfl rfl (exec_assign _ rfl (.int .i64 0) rfl) ?_
  go_frame
  refine wpList_nil ?_
  go_upto_region 1 with (fail)
  refine wp_region_lit ?_
  refine ls_ex (some 8) (.agg #[.int .i64 p, .int .i64 n, .int .i64 m, .int .i64 k, .slice A ts.length c]) rfl rfl (exec_load_all 33 _ rfl w.heap.size rfl _ _ _ hz5 Try.underlying33 rfl 5 (by kernel_rfl) rfl) ?_
  go_frame
  refine ls_op rfl (fun K' hK' => ?_)
  have lz14 := hB.size
  have lz15 := hz5.lt
  have lz16 := hz11.lt
  refine wp_call1 (some 9) rfl 23 _ _ rfl (fun args w => by kernel_rfl) _ rfl _ (l08Is_c p n m k A c ts _ (hR.keep hB) hlen) (fun e Wz12 h => ?_)
  obtain ⟨rfl, bz13⟩ := h
  replace hB := below_after hB bz13
  replace hz5 := hz5.after bz13
  replace hz11 := hz11.after bz13
  rw [Hs.out]
  clear bz13
  refine ⟨_, rfl, ?_⟩
  refine hK' _ _ ?_
  clear hK' K'
  go_frame
  refine ls_ex (some 10) (.bool false) rfl rfl (exec_not _ _ rfl true rfl) ?_
  go_frame
  refine ls_ex (some 7) (.bool false) rfl rfl (exec_assign _ rfl (.bool false) rfl) ?_
  go_frame
  refine wpList_nil ?_
  go_upto_region 3 with (fail)
  refine wp_region_lit ?_
  refine ls_ex (some 13) (.int .i64 x) rfl rfl (exec_move _ rfl (.int .i64 x) rfl) ?_
  go_frame
  refine ls_op rfl (fun K' hK' => ?_)
  have lz19 := hB.size
  have lz20 := hz5.lt
  have lz21 := hz11.lt
  refine wp_call3 (some 14) rfl 24 _ _ _ _ rfl (fun args w => by kernel_rfl) _ _ _ rfl rfl rfl _ (l01In_c x 0 9 _) (fun e Wz17 h => ?_)
  obtain ⟨rfl, rfl⟩ := h
  rw [Hin.out]
  refine ⟨_, rfl, ?_⟩
  refine hK' _ _ ?_
  clear hK' K'
  go_frame
  refine ls_ex (some 15) (.bool true) rfl rfl (exec_not _ _ rfl false rfl) ?_
  go_frame
  refine ls_ex (some 12) (.bool true) rfl rfl (exec_assign _ rfl (.bool true) rfl) ?_
  go_frame
  refine wpList_nil ?_
  go_upto_region 4 with (fail)
  refine wp_region_lit ?_
  refine ls_ex (some 16) (.agg #[.int .i64 0, .int .i64 0, .int .i64 0, .int .i64 0, .slice none 0 0]) rfl rfl (exec_build_nil 28 rfl _ (by kernel_rfl)) ?_
  go_frame
  refine ls_op rfl (fun K' hK' => ?_)
  refine wp_store_all 28 _ _ rfl rfl Wz2.heap.size rfl #[.int .i64 0, .int .i64 0, .int .i64 0, .int .i64 0, .slice none 0 0] rfl _ _ hz11 5 (by kernel_rfl) rfl rfl (one5 _ _ _ _ _ _ _) (fun Wz22 pz23 => ?_)
  replace hB := pz23.below hB (by omega)
  replace hz5 := pz23.other hz5 (by omega)
  replace hz11 : At Wz22 Wz2.heap.size (.cells #[.int .i64 0, .int .i64 0, .int .i64 0, .int .i64 0, .slice none 0 0] 28 (0, 0)) := pz23.at_
  refine hK' _ _ ?_
  clear hK' K' pz23
  refine ls_ex (some 5) (.int .i64 2) rfl rfl (exec_assign _ rfl (.int .i64 2) rfl) ?_
  go_frame
  refine wpList_nil ?_
  go_wp2_with fail
  refine bodyPost_ret (results_at2 rfl _ _ Wz2.heap.size _ _ _ rfl _ rfl hz11 Try.underlying28 rfl 5 (by kernel_rfl) rfl) rfl ?_
  unfold ResS outZ outL
  rw [HC.out]
  exact ⟨_, rfl, Own.nil _ _, hB⟩
set_option maxHeartbeats 4000000 in
theorem implExact_b (p n m k : Int) (A : Option Addr) (c : Nat) (ts : List (List Nat)) (x : Int) (w : World) (hR : RdT w A ts) (hlen : ts.length ≤ 1048576) (hs : borderB p n m k ts = true) (hin : (decide (0 ≤ x) && decide (x ≤ 9)) = false) :
    Calls Try.prog 19 #[.agg #[.int .i64 p, .int .i64 n, .int .i64 m, .int .i64 k, .slice A ts.length c], .int .i64 x] w (ResS w (outZ (esCode p n m k ts x) p) (outZ (esCode p n m k ts x) n) (outZ (esCode p n m k ts x) m) (outZ (esCode p n m k ts x) k) (outL (esCode p n m k ts x) (exL x.toNat ts)) (esCode p n m k ts x)) := by
  have hB := Below.refl w.heap.size w
  have HC : Hid (esCode p n m k ts x = 2) := Lib.hid (by unfold esCode; rw [hs, hin]; rfl)
  have Hs := Lib.hid hs
  have Hin := Lib.hid hin
  clear hs hin
  go_enter Try.func19, Try.ntmps19
  go_upto_region 0 with (fail)
  refine wp_region_lit ?_
  refine ls_op rfl (fun K' hK' => ?_)
  have lz1 := hB.size
  refine wp_new (some 2) rfl (exec_box 33 _ rfl (#[.int .i64 p, .int .i64 n, .int .i64 m, .int .i64 k, .slice A ts.length c]) rfl) (fun Wz2 nnz3 => ?_)
  have bz4 := nnz3.below (Below.refl _ _) (Nat.le_refl _)
  replace hB := below_after hB bz4
  have hz5 : At Wz2 w.heap.size (.cells #[.int .i64 p, .int .i64 n, .int .i64 m, .int .i64 k, .slice A ts.length c] 33 (0, 0)) := nnz3.at_
  refine hK' _ _ ?_
  clear hK' K' nnz3 bz4
  go_frame
  refine ls_op rfl (fun K' hK' => ?_)
  have lz6 := hB.size
  have lz7 := hz5.lt
  refine wp_new (some 4) rfl (al_impl_Scheme rfl) (fun Wz8 nnz9 => ?_)
  have bz10 := nnz9.below (Below.refl _ _) (Nat.le_refl _)
  replace hB := below_after hB bz10
  replace hz5 := hz5.after bz10
  have hz11 : At Wz8 Wz2.heap.size (.cells #[.int .i64 0, .int .i64 0, .int .i64 0, .int .i64 0, .slice none 0 0] 28 (0, 0)) := nnz9.at_
  refine hK' _ _ ?_
  clear hK' K' nnz9 bz10
  go_frame
  refine ls_ex (some 5) (.int .i64 0) rfl rfl (exec_assign _ rfl (.int .i64 0) rfl) ?_
  go_frame
  refine wpList_nil ?_
  go_upto_region 1 with (fail)
  refine wp_region_lit ?_
  refine ls_ex (some 9) (.agg #[.int .i64 p, .int .i64 n, .int .i64 m, .int .i64 k, .slice A ts.length c]) rfl rfl (exec_load_all 33 _ rfl w.heap.size rfl _ _ _ hz5 Try.underlying33 rfl 5 (by kernel_rfl) rfl) ?_
  go_frame
  refine ls_ex (some 10) (.int .i64 x) rfl rfl (exec_move _ rfl (.int .i64 x) rfl) ?_
  go_frame
  refine ls_op rfl (fun K' hK' => ?_)
  have lz14 := hB.size
  have lz15 := hz5.lt
  have lz16 := hz11.lt
  refine wp_call2 (some 11) rfl 17 _ _ _ rfl (fun args w => by kernel_rfl) _ _ rfl rfl _ (implCount_b p n m k A c ts x _ (hR.keep hB) hlen Hs.out Hin.out) (fun e Wz12 h => ?_)
  obtain ⟨rfl, bz13⟩ := h
  replace hB := below_after hB bz13
  replace hz5 := hz5.after bz13
  replace hz11 := hz11.after bz13
  clear bz13
  refine ⟨_, rfl, ?_⟩
  refine hK' _ _ ?_
  clear hK' K'
  go_frame
  refine ls_ex (some 8) (.tuple #[.int .i64 0, .int .i64 2]) rfl rfl (exec_move _ rfl (.tuple #[.int .i64 0, .int .i64 2]) rfl) ?_
  go_frame
  refine ls_ex (some 12) (.int .i64 0) rfl rfl (exec_extract _ 0 rfl #[.int .i64 0, .int .i64 2] (by rfl) _ rfl) ?_
  go_frame
  refine ls_ex (some 13) (.int .i64 2) rfl rfl (exec_extract _ 1 rfl #[.int .i64 0, .int .i64 2] (by rfl) _ rfl) ?_
  go_frame
  refine ls_ex (some 6) (.int .i64 0) rfl rfl (exec_assign _ rfl (.int .i64 0) rfl) ?_
  go_frame
  refine ls_ex (some 7) (.int .i64 2) rfl rfl (exec_assign _ rfl (.int .i64 2) rfl) ?_
  go_frame
  refine wpList_nil ?_
  go_upto_region 2 with (fail)
  refine wp_region_lit ?_
  refine ls_ex (some 14) (.int .i64 2) rfl rfl (exec_move _ rfl (.int .i64 2) rfl) ?_
  go_frame
  refine ls_ex (some 15) (.bool true) rfl rfl (exec_neq _ _ _ _ rfl 2 0 rfl rfl true rfl) ?_
  go_frame
  refine wpList_nil ?_
  go_upto_region 3 with (fail)
  refine wp_region_lit ?_
  refine ls_ex (some 16) (.agg #[.int .i64 0, .int .i64 0, .int .i64 0, .int .i64 0, .slice none 0 0]) rfl rfl (exec_build_nil 28 rfl _ (by kernel_rfl)) ?_
  go_frame
  refine ls_ex (some 17) (.int .i64 2) rfl rfl (exec_move _ rfl (.int .i64 2) rfl) ?_
  go_frame
  refine ls_op rfl (fun K' hK' => ?_)
  refine wp_store_all 28 _ _ rfl rfl Wz2.heap.size rfl #[.int .i64 0, .int .i64 0, .int .i64 0, .int .i64 0, .slice none 0 0] rfl _ _ hz11 5 (by kernel_rfl) rfl rfl (one5 _ _ _ _ _ _ _) (fun Wz17 pz18 => ?_)
  replace hB := pz18.below hB (by omega)
  replace hz5 := pz18.other hz5 (by omega)
  replace hz11 : At Wz17 Wz2.heap.size (.cells #[.int .i64 0, .int .i64 0, .int .i64 0, .int .i64 0, .slice none 0 0] 28 (0, 0)) := pz18.at_
  refine hK' _ _ ?_
  clear hK' K' pz18
  refine ls_ex (some 5) (.int .i64 2) rfl rfl (exec_assign _ rfl (.int .i64 2) rfl) ?_
  go_frame
  refine wpList_nil ?_
  go_wp2_with fail
  refine bodyPost_ret (results_at2 rfl _ _ Wz2.heap.size _ _ _ rfl _ rfl hz11 Try.underlying28 rfl 5 (by kernel_rfl) rfl) rfl ?_
  unfold ResS outZ outL
  rw [HC.out]
  exact ⟨_, rfl, Own.nil _ _, hB⟩
set_option maxHeartbeats 12800000 in
theorem specExact_c (p n m k : Int) (A : Option Addr) (c : Nat) (ts : List (List Nat)) (h : Nat) (w : World) (hR : RdT w A ts) (hlen : ts.length ≤ 1048576) (hs : borderB p n m k ts = true) (h9 : h ≤ 9) (hN : 30 < (exL h ts).length) :
    Calls Try.prog 18 #[.agg #[.int .i64 p, .int .i64 n, .int .i64 m, .int .i64 k, .slice A ts.length c], .int .i64 (h : Int)] w (ResS w (outZ (esCode p n m k ts (h : Int)) p) (outZ (esCode p n m k ts (h : Int)) n) (outZ (esCode p n m k ts (h : Int)) m) (outZ (esCode p n m k ts (h : Int)) k) (outL (esCode p n m k ts (h : Int)) (exL (h : Int).toNat ts)) (esCode p n m k ts (h : Int))) := by
  have hB := Below.refl w.heap.size w
  have Hs := Lib.hid hs
  have Hin : Hid ((decide (0 ≤ (h : Int)) && decide ((h : Int) ≤ 9)) = true) := Lib.hid (by rw [decide_eq_true (show (0 : Int) ≤ h by omega), decide_eq_true (show (h : Int) ≤ 9 by omega)]; rfl)
  replace hlen : ts.length ≤ 30 := (fun _ => (borderB_all hs).2.1) hlen
  have HC3 : Hid (esCode p n m k ts (h : Int) = 3) := Lib.hid (by unfold esCode; rw [hs, Hin.out, Int.toNat_natCast, if_pos hN]; rfl)
  obtain ⟨N9, hN9⟩ : ∃ N, (exL h ts).length = N := ⟨_, rfl⟩
  have HN9 := Lib.hid hN9
  have hN2 := hN
  rw [hN9] at hN2
  clear hs hN9 hN
  go_enter Try.func18, Try.ntmps18
  go_upto_region 0 with (fail)
  refine wp_region_lit ?_
  refine ls_op rfl (fun K' hK' => ?_)
  have lz1 := hB.size
  refine wp_new (some 2) rfl (exec_box 33 _ rfl (#[.int .i64 p, .int .i64 n, .int .i64 m, .int .i64 k, .slice A ts.length c]) rfl) (fun Wz2 nnz3 => ?_)
  have bz4 := nnz3.below (Below.refl _ _) (Nat.le_refl _)
  replace hB := below_after hB bz4
  have hz5 : At Wz2 w.heap.size (.cells #[.int .i64 p, .int .i64 n, .int .i64 m, .int .i64 k, .slice A ts.length c] 33 (0, 0)) := nnz3.at_
  refine hK' _ _ ?_
  clear hK' K' nnz3 bz4
  go_frame
  refine ls_op rfl (fun K' hK' => ?_)
  have lz6 := hB.size
  have lz7 := hz5.lt
  refine wp_new (some 4) rfl (al_impl_Scheme rfl) (fun Wz8 nnz9 => ?_)
  have bz10 := nnz9.below (Below.refl _ _) (Nat.le_refl _)
  replace hB := below_after hB bz10
  replace hz5 := hz5.after bz10
  have hz11 : At Wz8 Wz2.heap.size (.cells #[.int .i64 0, .int .i64 0, .int .i64 0, .int .i64 0, .slice none 0 0] 28 (0, 0)) := nnz9.at_
  refine hK' _ _ ?_
  clear hK' K' nnz9 bz10
  go_frame
  refine ls_ex (some 5) (.int .i64 0) rfl rfl (exec_assign _ rfl (.int .i64 0) rfl) ?_
  go_frame
  refine wpList_nil ?_
  go_upto_region 1 with (fail)
  refine wp_region_lit ?_
  refine ls_ex (some 8) (.agg #[.int .i64 p, .int .i64 n, .int .i64 m, .int .i64 k, .slice A ts.length c]) rfl rfl (exec_load_all 33 _ rfl w.heap.size rfl _ _ _ hz5 Try.underlying33 rfl 5 (by kernel_rfl) rfl) ?_
  go_frame
  refine ls_op rfl (fun K' hK' => ?_)
  have lz14 := hB.size
  have lz15 := hz5.lt
  have lz16 := hz11.lt
  refine wp_call1 (some 9) rfl 23 _ _ rfl (fun args w => by kernel_rfl) _ rfl _ (l08Is_c p n m k A c ts _ (hR.keep hB) (by omega)) (fun e Wz12 h => ?_)
  obtain ⟨rfl, bz13⟩ := h
  replace hB := below_after hB bz13
  replace hz5 := hz5.after bz13
  replace hz11 := hz11.after bz13
  rw [Hs.out]
  clear bz13
  refine ⟨_, rfl, ?_⟩
  refine hK' _ _ ?_
  clear hK' K'
  go_frame
  refine ls_ex (some 10) (.bool false) rfl rfl (exec_not _ _ rfl true rfl) ?_
  go_frame
  refine ls_ex (some 7) (.bool false) rfl rfl (exec_assign _ rfl (.bool false) rfl) ?_
  go_frame
  refine wpList_nil ?_
  go_upto_region 3 with (fail)
  refine wp_region_lit ?_
  refine ls_ex (some 13) (.int .i64 h) rfl rfl (exec_move _ rfl (.int .i64 h) rfl) ?_
  go_frame
  refine ls_op rfl (fun K' hK' => ?_)
  have lz19 := hB.size
  have lz20 := hz5.lt
  have lz21 := hz11.lt
  refine wp_call3 (some 14) rfl 24 _ _ _ _ rfl (fun args w => by kernel_rfl) _ _ _ rfl rfl rfl _ (l01In_c (h : Int) 0 9 _) (fun e Wz17 h => ?_)
  obtain ⟨rfl, rfl⟩ := h
  rw [Hin.out]
  refine ⟨_, rfl, ?_⟩
  refine hK' _ _ ?_
  clear hK' K'
  go_frame
  refine ls_ex (some 15) (.bool false) rfl rfl (exec_not _ _ rfl true rfl) ?_
  go_frame
  refine ls_ex (some 12) (.bool false) rfl rfl (exec_assign _ rfl (.bool false) rfl) ?_
  go_frame
  refine wpList_nil ?_
  go_upto_region 5 with (fail)
  refine wp_region_lit ?_
  refine ls_ex (some 17) (.agg #[.int .i64 p, .int .i64 n, .int .i64 m, .int .i64 k, .slice A ts.length c]) rfl rfl (exec_load_all 33 _ rfl w.heap.size rfl _ _ _ hz5 Try.underlying33 rfl 5 (by kernel_rfl) rfl) ?_
  go_frame
  refine ls_ex (some 18) (.int .i64 h) rfl rfl (exec_move _ rfl (.int .i64 h) rfl) ?_
  go_frame
  refine ls_op rfl (fun K' hK' => ?_)
  have lz24 := hB.size
  have lz25 := hz5.lt
  have lz26 := hz11.lt
  have lo9 := hB.size
  refine wp_call2 (some 19) rfl 41 _ _ _ rfl (fun args w => by kernel_rfl) _ _ rfl rfl _ (l08Exact_c p n m k A c ts h h9 _ (hR.keep hB) hlen) (fun e Wz22 h => ?_)
  obtain ⟨v9, rfl, ho, bz23⟩ := h
  replace hB := below_after hB bz23
  replace hz5 := hz5.after bz23
  replace hz11 := hz11.after bz23
  obtain ⟨A9, c9, rfl⟩ := Own.rdN2 ho (n := N9) HN9.out
  clear bz23
  refine ⟨_, rfl, ?_⟩
  refine hK' _ _ ?_
  clear hK' K'
  go_frame
  refine ls_op rfl (fun K' hK' => ?_)
  have lz27 := hB.size
  have lz28 := hz5.lt
  have lz29 := hz11.lt
  have naz34 := ho.away_new
  refine wp_new (some 6) rfl (al_impl_Scheme rfl) (fun Wz30 nnz31 => ?_)
  have bz32 := nnz31.below (Below.refl _ _) (Nat.le_refl _)
  replace hB := below_after hB bz32
  replace hz5 := hz5.after bz32
  replace hz11 := hz11.after bz32
  replace ho := ho.below bz32
  have hz33 : At Wz30 Wz22.heap.size (.cells #[.int .i64 0, .int .i64 0, .int .i64 0, .int .i64 0, .slice none 0 0] 28 (0, 0)) := nnz31.at_
  refine hK' _ _ ?_
  clear hK' K' nnz31 bz32
  go_frame
  refine ls_op rfl (fun K' hK' => ?_)
  refine wp_store_all 28 _ _ rfl rfl Wz22.heap.size rfl #[.int .i64 p, .int .i64 n, .int .i64 m, .int .i64 k, .slice A9 N9 c9] rfl _ _ hz33 5 (by kernel_rfl) rfl rfl (one5 _ _ _ _ _ _ _) (fun Wz35 pz36 => ?_)
  replace hB := pz36.below hB (by omega)
  replace hz5 := pz36.other hz5 (by omega)
  replace hz11 := pz36.other hz11 (by omega)
  replace ho := ho.put pz36 naz34
  replace hz33 : At Wz35 Wz22.heap.size (.cells #[.int .i64 p, .int .i64 n, .int .i64 m, .int .i64 k, .slice A9 N9 c9] 28 (0, 0)) := pz36.at_
  refine hK' _ _ ?_
  clear hK' K' pz36
  refine wpList_nil ?_
  go_upto_region 6 with (fail)
  refine wp_region_lit ?_
  refine ls_ex (some 20) (.pointer (some ⟨Wz22.heap.size, 4, none⟩)) rfl rfl (exec_fieldAddr 28 _ 4 rfl _ (by kernel_rfl)) ?_
  go_frame
  refine ls_ex (some 21) (.slice A9 N9 c9) rfl rfl (exec_load_one 26 _ rfl Wz22.heap.size 4 rfl (.slice A9 N9 c9) _ Try.underlying26 rfl (hz33.at_ 4)) ?_
  go_frame
  refine ls_ex (some 22) (.int .i64 N9) rfl rfl (exec_len _ 26 58 rfl A9 N9 c9 rfl Try.underlying26) ?_
  go_frame
  refine ls_ex (some 23) (.bool true) rfl rfl (exec_gtr _ _ _ _ rfl N9 30 rfl rfl true (decide_eq_true (by omega))) ?_
  go_frame
  refine wpList_nil ?_
  go_upto_region 7 with (fail)
  refine wp_region_lit ?_
  refine ls_ex (some 24) (.agg #[.int .i64 0, .int .i64 0, .int .i64 0, .int .i64 0, .slice none 0 0]) rfl rfl (exec_build_nil 28 rfl _ (by kernel_rfl)) ?_
  go_frame
  refine ls_op rfl (fun K' hK' => ?_)
  refine wp_store_all 28 _ _ rfl rfl Wz2.heap.size rfl #[.int .i64 0, .int .i64 0, .int .i64 0, .int .i64 0, .slice none 0 0] rfl _ _ hz11 5 (by kernel_rfl) rfl rfl (one5 _ _ _ _ _ _ _) (fun Wz37 pz38 => ?_)
  replace hB := pz38.below hB (by omega)
  replace hz5 := pz38.other hz5 (by omega)
  replace ho := ho.put pz38 (ho.off hz11 (by decide))
  replace hz33 := pz38.other hz33 (by omega)
  replace hz11 : At Wz37 Wz2.heap.size (.cells #[.int .i64 0, .int .i64 0, .int .i64 0, .int .i64 0, .slice none 0 0] 28 (0, 0)) := pz38.at_
  refine hK' _ _ ?_
  clear hK' K' pz38
  refine ls_ex (some 5) (.int .i64 3) rfl rfl (exec_assign _ rfl (.int .i64 3) rfl) ?_
  go_frame
  refine wpList_nil ?_
  go_wp2_with fail
  refine bodyPost_ret (results_at2 rfl _ _ Wz2.heap.size _ _ _ rfl _ rfl hz11 Try.underlying28 rfl 5 (by kernel_rfl) rfl) rfl ?_
  unfold ResS outZ outL
  rw [HC3.out]
  exact ⟨_, rfl, Own.nil _ _, hB⟩
set_option maxHeartbeats 12800000 in
theorem implExact_c (p n m k : Int) (A : Option Addr) (c : Nat) (ts : List (List Nat)) (h : Nat) (w : World) (hR : RdT w A ts) (hlen : ts.length ≤ 1048576) (hs : borderB p n m k ts = true) (h9 : h ≤ 9) (hN : 30 < (exL h ts).length) :
    Calls Try.prog 19 #[.agg #[.int .i64 p, .int .i64 n, .int .i64 m, .int .i64 k, .slice A ts.length c], .int .i64 (h : Int)] w (ResS w (outZ (esCode p n m k ts (h : Int)) p) (outZ (esCode p n m k ts (h : Int)) n) (outZ (esCode p n m k ts (h : Int)) m) (outZ (esCode p n m k ts (h : Int)) k) (outL (esCode p n m k ts (h : Int)) (exL (h : Int).toNat ts)) (esCode p n m k ts (h : Int))) := by
  have hB := Below.refl w.heap.size w
  have Hs := Lib.hid hs
  have Hin : Hid ((decide (0 ≤ (h : Int)) && decide ((h : Int) ≤ 9)) = true) := Lib.hid (by rw [decide_eq_true (show (0 : Int) ≤ h by omega), decide_eq_true (show (h : Int) ≤ 9 by omega)]; rfl)
  replace hlen : ts.length ≤ 30 := (fun _ => (borderB_all hs).2.1) hlen
  have HC3 : Hid (esCode p n m k ts (h : Int) = 3) := Lib.hid (by unfold esCode; rw [hs, Hin.out, Int.toNat_natCast, if_pos hN]; rfl)
  obtain ⟨N9, hN9⟩ : ∃ N, (exL h ts).length = N := ⟨_, rfl⟩
  have HN9 := Lib.hid hN9
  have hN2 := hN
  rw [hN9] at hN2
  clear hs hN9 hN
  go_enter Try.func19, Try.ntmps19
  go_upto_region 0 with (fail)
  refine wp_region_lit ?_
  refine ls_op rfl (fun K' hK' => ?_)
  have lz1 := hB.size
  refine wp_new (some 2) rfl (exec_box 33 _ rfl (#[.int .i64 p, .int .i64 n, .int .i64 m, .int .i64 k, .slice A ts.length c]) rfl) (fun Wz2 nnz3 => ?_)
  have bz4 := nnz3.below (Below.refl _ _) (Nat.le_refl _)
  replace hB := below_after hB bz4
  have hz5 : At Wz2 w.heap.size (.cells #[.int .i64 p, .int .i64 n, .int .i64 m, .int .i64 k, .slice A ts.length c] 33 (0, 0)) := nnz3.at_
  refine hK' _ _ ?_
  clear hK' K' nnz3 bz4
  go_frame
  refine ls_op rfl (fun K' hK' => ?_)
  have lz6 := hB.size
  have lz7 := hz5.lt
  refine wp_new (some 4) rfl (al_impl_Scheme rfl) (fun Wz8 nnz9 => ?_)
  have bz10 := nnz9.below (Below.refl _ _) (Nat.le_refl _)
  replace hB := below_after hB bz10
  replace hz5 := hz5.after bz10
  have hz11 : At Wz8 Wz2.heap.size (.cells #[.int .i64 0, .int .i64 0, .int .i64 0, .int .i64 0, .slice none 0 0] 28 (0, 0)) := nnz9.at_
  refine hK' _ _ ?_
  clear hK' K' nnz9 bz10
  go_frame
  refine ls_ex (some 5) (.int .i64 0) rfl rfl (exec_assign _ rfl (.int .i64 0) rfl) ?_
  go_frame
  refine wpList_nil ?_
  go_upto_region 1 with (fail)
  refine wp_region_lit ?_
  refine ls_ex (some 9) (.agg #[.int .i64 p, .int .i64 n, .int .i64 m, .int .i64 k, .slice A ts.length c]) rfl rfl (exec_load_all 33 _ rfl w.heap.size rfl _ _ _ hz5 Try.underlying33 rfl 5 (by kernel_rfl) rfl) ?_
  go_frame
  refine ls_ex (some 10) (.int .i64 h) rfl rfl (exec_move _ rfl (.int .i64 h) rfl) ?_
  go_frame
  refine ls_op rfl (fun K' hK' => ?_)
  have lz14 := hB.size
  have lz15 := hz5.lt
  have lz16 := hz11.lt
  refine wp_call2 (some 11) rfl 17 _ _ _ rfl (fun args w => by kernel_rfl) _ _ rfl rfl _ (implCount_v p n m k A c ts h _ (hR.keep hB) (by omega) Hs.out h9) (fun e Wz12 h => ?_)
  obtain ⟨rfl, bz13⟩ := h
  replace hB := below_after hB bz13
  replace hz5 := hz5.after bz13
  replace hz11 := hz11.after bz13
  rw [HN9.out]
  clear bz13
  refine ⟨_, rfl, ?_⟩
  refine hK' _ _ ?_
  clear hK' K'
  go_frame
  refine ls_ex (some 8) (.tuple #[.int .i64 (N9 : Nat), .int .i64 0]) rfl rfl (exec_move _ rfl (.tuple #[.int .i64 (N9 : Nat), .int .i64 0]) rfl) ?_
  go_frame
  refine ls_ex (some 12) (.int .i64 (N9 : Nat)) rfl rfl (exec_extract _ 0 rfl #[.int .i64 (N9 : Nat), .int .i64 0] (by rfl) _ rfl) ?_
  go_frame
  refine ls_ex (some 13) (.int .i64 0) rfl rfl (exec_extract _ 1 rfl #[.int .i64 (N9 : Nat), .int .i64 0] (by rfl) _ rfl) ?_
  go_frame
  refine ls_ex (some 6) (.int .i64 (N9 : Nat)) rfl rfl (exec_assign _ rfl (.int .i64 (N9 : Nat)) rfl) ?_
  go_frame
  refine ls_ex (some 7) (.int .i64 0) rfl rfl (exec_assign _ rfl (.int .i64 0) rfl) ?_
  go_frame
  refine wpList_nil ?_
  go_upto_region 2 with (fail)
  refine wp_region_lit ?_
  refine ls_ex (some 14) (.int .i64 0) rfl rfl (exec_move _ rfl (.int .i64 0) rfl) ?_
  go_frame
  refine ls_ex (some 15) (.bool false) rfl rfl (exec_neq _ _ _ _ rfl 0 0 rfl rfl false rfl) ?_
  go_frame
  refine wpList_nil ?_
  go_upto_region 4 with (fail)
  refine wp_region_lit ?_
  refine ls_ex (some 18) (.int .i64 (N9 : Nat)) rfl rfl (exec_move _ rfl (.int .i64 (N9 : Nat)) rfl) ?_
  go_frame
  refine ls_ex (some 19) (.bool true) rfl rfl (exec_gtr _ _ _ _ rfl ((N9 : Nat)) 30 rfl rfl true (decide_eq_true (by omega))) ?_
  go_frame
  refine wpList_nil ?_
  go_upto_region 5 with (fail)
  refine wp_region_lit ?_
  refine ls_ex (some 20) (.agg #[.int .i64 0, .int .i64 0, .int .i64 0, .int .i64 0, .slice none 0 0]) rfl rfl (exec_build_nil 28 rfl _ (by kernel_rfl)) ?_
  go_frame
  refine ls_op rfl (fun K' hK' => ?_)
  refine wp_store_all 28 _ _ rfl rfl Wz2.heap.size rfl #[.int .i64 0, .int .i64 0, .int .i64 0, .int .i64 0, .slice none 0 0] rfl _ _ hz11 5 (by kernel_rfl) rfl rfl (one5 _ _ _ _ _ _ _) (fun Wz17 pz18 => ?_)
  replace hB := pz18.below hB (by omega)
  replace hz5 := pz18.other hz5 (by omega)
  replace hz11 : At Wz17 Wz2.heap.size (.cells #[.int .i64 0, .int .i64 0, .int .i64 0, .int .i64 0, .slice none 0 0] 28 (0, 0)) := pz18.at_
  refine hK' _ _ ?_
  clear hK' K' pz18
  refine ls_ex (some 5) (.int .i64 3) rfl rfl (exec_assign _ rfl (.int .i64 3) rfl) ?_
  go_frame
  refine wpList_nil ?_
  go_wp2_with fail
  refine bodyPost_ret (results_at2 rfl _ _ Wz2.heap.size _ _ _ rfl _ rfl hz11 Try.underlying28 rfl 5 (by kernel_rfl) rfl) rfl ?_
  unfold ResS outZ outL
  rw [HC3.out]
  exact ⟨_, rfl, Own.nil _ _, hB⟩
set_option maxHeartbeats 12800000 in
theorem specExact_d (p n m k : Int) (A : Option Addr) (c : Nat) (ts : List (List Nat)) (h : Nat) (w : World) (hR : RdT w A ts) (hlen : ts.length ≤ 1048576) (hs : borderB p n m k ts = true) (h9 : h ≤ 9) (hN : (exL h ts).length ≤ 30) :
    Calls Try.prog 18 #[.agg #[.int .i64 p, .int .i64 n, .int .i64 m, .int .i64 k, .slice A ts.length c], .int .i64 (h : Int)] w (ResS w (outZ (esCode p n m k ts (h : Int)) p) (outZ (esCode p n m k ts (h : Int)) n) (outZ (esCode p n m k ts (h : Int)) m) (outZ (esCode p n m k ts (h : Int)) k) (outL (esCode p n m k ts (h : Int)) (exL (h : Int).toNat ts)) (esCode p n m k ts (h : Int))) := by
  have hB := Below.refl w.heap.size w
  have Hs := Lib.hid hs
  have Hin : Hid ((decide (0 ≤ (h : Int)) && decide ((h : Int) ≤ 9)) = true) := Lib.hid (by rw [decide_eq_true (show (0 : Int) ≤ h by omega), decide_eq_true (show (h : Int) ≤ 9 by omega)]; rfl)
  replace hlen : ts.length ≤ 30 := (fun _ => (borderB_all hs).2.1) hlen
  have HC : Hid (esCode p n m k ts (h : Int) = 0) := Lib.hid (by unfold esCode; rw [hs, Hin.out, Int.toNat_natCast, if_neg (show ¬ 30 < (exL h ts).length by omega)]; rfl)
  obtain ⟨N9, hN9⟩ : ∃ N, (exL h ts).length = N := ⟨_, rfl⟩
  have HN9 := Lib.hid hN9
  have hN2 := hN
  rw [hN9] at hN2
  clear hs hN9 hN
  go_enter Try.func18, Try.ntmps18
  go_upto_region 0 with (fail)
  refine wp_region_lit ?_
  refine ls_op rfl (fun K' hK' => ?_)
  have lz1 := hB.size
  refine wp_new (some 2) rfl (exec_box 33 _ rfl (#[.int .i64 p, .int .i64 n, .int .i64 m, .int .i64 k, .slice A ts.length c]) rfl) (fun Wz2 nnz3 => ?_)
  have bz4 := nnz3.below (Below.refl _ _) (Nat.le_refl _)
  replace hB := below_after hB bz4
  have hz5 : At Wz2 w.heap.size (.cells #[.int .i64 p, .int .i64 n, .int .i64 m, .int .i64 k, .slice A ts.length c] 33 (0, 0)) := nnz3.at_
  refine hK' _ _ ?_
  clear hK' K' nnz3 bz4
  go_frame
  refine ls_op rfl (fun K' hK' => ?_)
  have lz6 := hB.size
  have lz7 := hz5.lt
  refine wp_new (some 4) rfl (al_impl_Scheme rfl) (fun Wz8 nnz9 => ?_)
  have bz10 := nnz9.below (Below.refl _ _) (Nat.le_refl _)
  replace hB := below_after hB bz10
  replace hz5 := hz5.after bz10
  have hz11 : At Wz8 Wz2.heap.size (.cells #[.int .i64 0, .int .i64 0, .int .i64 0, .int .i64 0, .slice none 0 0] 28 (0, 0)) := nnz9.at_
  refine hK' _ _ ?_
  clear hK' K' nnz9 bz10
  go_frame
  refine ls_ex (some 5) (.int .i64 0) rfl rfl (exec_assign _ rfl (.int .i64 0) rfl) ?_
  go_frame
  refine wpList_nil ?_
  go_upto_region 1 with (fail)
  refine wp_region_lit ?_
  refine ls_ex (some 8) (.agg #[.int .i64 p, .int .i64 n, .int .i64 m, .int .i64 k, .slice A ts.length c]) rfl rfl (exec_load_all 33 _ rfl w.heap.size rfl _ _ _ hz5 Try.underlying33 rfl 5 (by kernel_rfl) rfl) ?_
  go_frame
  refine ls_op rfl (fun K' hK' => ?_)
  have lz14 := hB.size
  have lz15 := hz5.lt
  have lz16 := hz11.lt
  refine wp_call1 (some 9) rfl 23 _ _ rfl (fun args w => by kernel_rfl) _ rfl _ (l08Is_c p n m k A c ts _ (hR.keep hB) (by omega)) (fun e Wz12 h => ?_)
  obtain ⟨rfl, bz13⟩ := h
  replace hB := below_after hB bz13
  replace hz5 := hz5.after bz13
  replace hz11 := hz11.after bz13
  rw [Hs.out]
  clear bz13
  refine ⟨_, rfl, ?_⟩
  refine hK' _ _ ?_
  clear hK' K'
  go_frame
  refine ls_ex (some 10) (.bool false) rfl rfl (exec_not _ _ rfl true rfl) ?_
  go_frame
  refine ls_ex (some 7) (.bool false) rfl rfl (exec_assign _ rfl (.bool false) rfl) ?_
  go_frame
  refine wpList_nil ?_
  go_upto_region 3 with (fail)
  refine wp_region_lit ?_
  refine ls_ex (some 13) (.int .i64 h) rfl rfl (exec_move _ rfl (.int .i64 h) rfl) ?_
  go_frame
  refine ls_op rfl (fun K' hK' => ?_)
  have lz19 := hB.size
  have lz20 := hz5.lt
  have lz21 := hz11.lt
  refine wp_call3 (some 14) rfl 24 _ _ _ _ rfl (fun args w => by kernel_rfl) _ _ _ rfl rfl rfl _ (l01In_c (h : Int) 0 9 _) (fun e Wz17 h => ?_)
  obtain ⟨rfl, rfl⟩ := h
  rw [Hin.out]
  refine ⟨_, rfl, ?_⟩
  refine hK' _ _ ?_
  clear hK' K'
  go_frame
  refine ls_ex (some 15) (.bool false) rfl rfl (exec_not _ _ rfl true rfl) ?_
  go_frame
  refine ls_ex (some 12) (.bool false) rfl rfl (exec_assign _ rfl (.bool false) rfl) ?_
  go_frame
  refine wpList_nil ?_
  go_upto_region 5 with (fail)
  refine wp_region_lit ?_
  refine ls_ex (some 17) (.agg #[.int .i64 p, .int .i64 n, .int .i64 m, .int .i64 k, .slice A ts.length c]) rfl rfl (exec_load_all 33 _ rfl w.heap.size rfl _ _ _ hz5 Try.underlying33 rfl 5 (by kernel_rfl) rfl) ?_
  go_frame
  refine ls_ex (some 18) (.int .i64 h) rfl rfl (exec_move _ rfl (.int .i64 h) rfl) ?_
  go_frame
  refine ls_op rfl (fun K' hK' => ?_)
  have lz24 := hB.size
  have lz25 := hz5.lt
  have lz26 := hz11.lt
  have lo9 := hB.size
  refine wp_call2 (some 19) rfl 41 _ _ _ rfl (fun args w => by kernel_rfl) _ _ rfl rfl _ (l08Exact_c p n m k A c ts h h9 _ (hR.keep hB) hlen) (fun e Wz22 h => ?_)
  obtain ⟨v9, rfl, ho, bz23⟩ := h
  replace hB := below_after hB bz23
  replace hz5 := hz5.after bz23
  replace hz11 := hz11.after bz23
  obtain ⟨A9, c9, rfl⟩ := Own.rdN2 ho (n := N9) HN9.out
  clear bz23
  refine ⟨_, rfl, ?_⟩
  refine hK' _ _ ?_
  clear hK' K'
  go_frame
  refine ls_op rfl (fun K' hK' => ?_)
  have lz27 := hB.size
  have lz28 := hz5.lt
  have lz29 := hz11.lt
  have naz34 := ho.away_new
  refine wp_new (some 6) rfl (al_impl_Scheme rfl) (fun Wz30 nnz31 => ?_)
  have bz32 := nnz31.below (Below.refl _ _) (Nat.le_refl _)
  replace hB := below_after hB bz32
  replace hz5 := hz5.after bz32
  replace hz11 := hz11.after bz32
  replace ho := ho.below bz32
  have hz33 : At Wz30 Wz22.heap.size (.cells #[.int .i64 0, .int .i64 0, .int .i64 0, .int .i64 0, .slice none 0 0] 28 (0, 0)) := nnz31.at_
  refine hK' _ _ ?_
  clear hK' K' nnz31 bz32
  go_frame
  refine ls_op rfl (fun K' hK' => ?_)
  refine wp_store_all 28 _ _ rfl rfl Wz22.heap.size rfl #[.int .i64 p, .int .i64 n, .int .i64 m, .int .i64 k, .slice A9 N9 c9] rfl _ _ hz33 5 (by kernel_rfl) rfl rfl (one5 _ _ _ _ _ _ _) (fun Wz35 pz36 => ?_)
  replace hB := pz36.below hB (by omega)
  replace hz5 := pz36.other hz5 (by omega)
  replace hz11 := pz36.other hz11 (by omega)
  replace ho := ho.put pz36 naz34
  replace hz33 : At Wz35 Wz22.heap.size (.cells #[.int .i64 p, .int .i64 n, .int .i64 m, .int .i64 k, .slice A9 N9 c9] 28 (0, 0)) := pz36.at_
  refine hK' _ _ ?_
  clear hK' K' pz36
  refine wpList_nil ?_
  go_upto_region 6 with (fail)
  refine wp_region_lit ?_
  refine ls_ex (some 20) (.pointer (some ⟨Wz22.heap.size, 4, none⟩)) rfl rfl (exec_fieldAddr 28 _ 4 rfl _ (by kernel_rfl)) ?_
  go_frame
  refine ls_ex (some 21) (.slice A9 N9 c9) rfl rfl (exec_load_one 26 _ rfl Wz22.heap.size 4 rfl (.slice A9 N9 c9) _ Try.underlying26 rfl (hz33.at_ 4)) ?_
  go_frame
  refine ls_ex (some 22) (.int .i64 N9) rfl rfl (exec_len _ 26 58 rfl A9 N9 c9 rfl Try.underlying26) ?_
  go_frame
  refine ls_ex (some 23) (.bool false) rfl rfl (exec_gtr _ _ _ _ rfl N9 30 rfl rfl false (decide_eq_false (by omega))) ?_
  go_frame
  refine wpList_nil ?_
  go_upto_region 8 with (fail)
  refine wp_region_lit ?_
  refine ls_ex (some 25) (.agg #[.int .i64 p, .int .i64 n, .int .i64 m, .int .i64 k, .slice A9 N9 c9]) rfl rfl (exec_load_all 28 _ rfl Wz22.heap.size rfl _ _ _ hz33 Try.underlying28 rfl 5 (by kernel_rfl) rfl) ?_
  go_frame
  refine ls_op rfl (fun K' hK' => ?_)
  refine wp_store_all 28 _ _ rfl rfl Wz2.heap.size rfl #[.int .i64 p, .int .i64 n, .int .i64 m, .int .i64 k, .slice A9 N9 c9] rfl _ _ hz11 5 (by kernel_rfl) rfl rfl (one5 _ _ _ _ _ _ _) (fun Wz37 pz38 => ?_)
  replace hB := pz38.below hB (by omega)
  replace hz5 := pz38.other hz5 (by omega)
  replace ho := ho.put pz38 (ho.off hz11 (by decide))
  replace hz33 := pz38.other hz33 (by omega)
  replace hz11 : At Wz37 Wz2.heap.size (.cells #[.int .i64 p, .int .i64 n, .int .i64 m, .int .i64 k, .slice A9 N9 c9] 28 (0, 0)) := pz38.at_
  refine hK' _ _ ?_
  clear hK' K' pz38
  refine ls_ex (some 5) (.int .i64 0) rfl rfl (exec_assign _ rfl (.int .i64 0) rfl) ?_
  go_frame
  refine wpList_nil ?_
  go_wp2_with fail
  refine bodyPost_ret (results_at2 rfl _ _ Wz2.heap.size _ _ _ rfl _ rfl hz11 Try.underlying28 rfl 5 (by kernel_rfl) rfl) rfl ?_
  unfold ResS outZ outL
  rw [HC.out]
  exact ⟨_, rfl, ho.mono (by omega), hB⟩
set_option maxHeartbeats 12800000 in
theorem implExact_d (p n m k : Int) (A : Option Addr) (c : Nat) (ts : List (List Nat)) (h : Nat) (w : World) (hR : RdT w A ts) (hlen : ts.length ≤ 1048576) (hs : borderB p n m k ts = true) (h9 : h ≤ 9) (hN : (exL h ts).length ≤ 30) :
    Calls Try.prog 19 #[.agg #[.int .i64 p, .int .i64 n, .int .i64 m, .int .i64 k, .slice A ts.length c], .int .i64 (h : Int)] w (ResS w (outZ (esCode p n m k ts (h : Int)) p) (outZ (esCode p n m k ts (h : Int)) n) (outZ (esCode p n m k ts (h : Int)) m) (outZ (esCode p n m k ts (h : Int)) k) (outL (esCode p n m k ts (h : Int)) (exL (h : Int).toNat ts)) (esCode p n m k ts (h : Int))) := by
  have hB := Below.refl w.heap.size w
  have Hs := Lib.hid hs
  have Hin : Hid ((decide (0 ≤ (h : Int)) && decide ((h : Int) ≤ 9)) = true) := Lib.hid (by rw [decide_eq_true (show (0 : Int) ≤ h by omega), decide_eq_true (show (h : Int) ≤ 9 by omega)]; rfl)
  replace hlen : ts.length ≤ 30 := (fun _ => (borderB_all hs).2.1) hlen
  have HC : Hid (esCode p n m k ts (h : Int) = 0) := Lib.hid (by unfold esCode; rw [hs, Hin.out, Int.toNat_natCast, if_neg (show ¬ 30 < (exL h ts).length by omega)]; rfl)
  obtain ⟨N9, hN9⟩ : ∃ N, (exL h ts).length = N := ⟨_, rfl⟩
  have HN9 := Lib.hid hN9
  have hN2 := hN
  rw [hN9] at hN2
  clear hs hN9 hN
  go_enter Try.func19, Try.ntmps19
  go_upto_region 0 with (fail)
  refine wp_region_lit ?_
  refine ls_op rfl (fun K' hK' => ?_)
  have lz1 := hB.size
  refine wp_new (some 2) rfl (exec_box 33 _ rfl (#[.int .i64 p, .int .i64 n, .int .i64 m, .int .i64 k, .slice A ts.length c]) rfl) (fun Wz2 nnz3 => ?_)
  have bz4 := nnz3.below (Below.refl _ _) (Nat.le_refl _)
  replace hB := below_after hB bz4
  have hz5 : At Wz2 w.heap.size (.cells #[.int .i64 p, .int .i64 n, .int .i64 m, .int .i64 k, .slice A ts.length c] 33 (0, 0)) := nnz3.at_
  refine hK' _ _ ?_
  clear hK' K' nnz3 bz4
  go_frame
  refine ls_op rfl (fun K' hK' => ?_)
  have lz6 := hB.size
  have lz7 := hz5.lt
  refine wp_new (some 4) rfl (al_impl_Scheme rfl) (fun Wz8 nnz9 => ?_)
  have bz10 := nnz9.below (Below.refl _ _) (Nat.le_refl _)
  replace hB := below_after hB bz10
  replace hz5 := hz5.after bz10
  have hz11 : At Wz8 Wz2.heap.size (.cells #[.int .i64 0, .int .i64 0, .int .i64 0, .int .i64 0, .slice none 0 0] 28 (0, 0)) := nnz9.at_
  refine hK' _ _ ?_
  clear hK' K' nnz9 bz10
  go_frame
  refine ls_ex (some 5) (.int .i64 0) rfl rfl (exec_assign _ rfl (.int .i64 0) rfl) ?_
  go_frame
  refine wpList_nil ?_
  go_upto_region 1 with (fail)
  refine wp_region_lit ?_
  refine ls_ex (some 9) (.agg #[.int .i64 p, .int .i64 n, .int .i64 m, .int .i64 k, .slice A ts.length c]) rfl rfl (exec_load_all 33 _ rfl w.heap.size rfl _ _ _ hz5 Try.underlying33 rfl 5 (by kernel_rfl) rfl) ?_
  go_frame
  refine ls_ex (some 10) (.int .i64 h) rfl rfl (exec_move _ rfl (.int .i64 h) rfl) ?_
  go_frame
  refine ls_op rfl (fun K' hK' => ?_)
  have lz14 := hB.size
  have lz15 := hz5.lt
  have lz16 := hz11.lt
  refine wp_call2 (some 11) rfl 17 _ _ _ rfl (fun args w => by kernel_rfl) _ _ rfl rfl _ (implCount_v p n m k A c ts h _ (hR.keep hB) (by omega) Hs.out h9) (fun e Wz12 h => ?_)
  obtain ⟨rfl, bz13⟩ := h
  replace hB := below_after hB bz13
  replace hz5 := hz5.after bz13
  replace hz11 := hz11.after bz13
  rw [HN9.out]
  clear bz13
  refine ⟨_, rfl, ?_⟩
  refine hK' _ _ ?_
  clear hK' K'
  go_frame
  refine ls_ex (some 8) (.tuple #[.int .i64 (N9 : Nat), .int .i64 0]) rfl rfl (exec_move _ rfl (.tuple #[.int .i64 (N9 : Nat), .int .i64 0]) rfl) ?_
  go_frame
  refine ls_ex (some 12) (.int .i64 (N9 : Nat)) rfl rfl (exec_extract _ 0 rfl #[.int .i64 (N9 : Nat), .int .i64 0] (by rfl) _ rfl) ?_
  go_frame
  refine ls_ex (some 13) (.int .i64 0) rfl rfl (exec_extract _ 1 rfl #[.int .i64 (N9 : Nat), .int .i64 0] (by rfl) _ rfl) ?_
  go_frame
  refine ls_ex (some 6) (.int .i64 (N9 : Nat)) rfl rfl (exec_assign _ rfl (.int .i64 (N9 : Nat)) rfl) ?_
  go_frame
  refine ls_ex (some 7) (.int .i64 0) rfl rfl (exec_assign _ rfl (.int .i64 0) rfl) ?_
  go_frame
  refine wpList_nil ?_
  go_upto_region 2 with (fail)
  refine wp_region_lit ?_
  refine ls_ex (some 14) (.int .i64 0) rfl rfl (exec_move _ rfl (.int .i64 0) rfl) ?_
  go_frame
  refine ls_ex (some 15) (.bool false) rfl rfl (exec_neq _ _ _ _ rfl 0 0 rfl rfl false rfl) ?_
  go_frame
  refine wpList_nil ?_
  go_upto_region 4 with (fail)
  refine wp_region_lit ?_
  refine ls_ex (some 18) (.int .i64 (N9 : Nat)) rfl rfl (exec_move _ rfl (.int .i64 (N9 : Nat)) rfl) ?_
  go_frame
  refine ls_ex (some 19) (.bool false) rfl rfl (exec_gtr _ _ _ _ rfl ((N9 : Nat)) 30 rfl rfl false (decide_eq_false (by omega))) ?_
  go_frame
  refine wpList_nil ?_
  go_upto_region 6 with (fail)
  refine wp_region_lit ?_
  refine ls_ex (some 21) (.agg #[.int .i64 p, .int .i64 n, .int .i64 m, .int .i64 k, .slice A ts.length c]) rfl rfl (exec_load_all 33 _ rfl w.heap.size rfl _ _ _ hz5 Try.underlying33 rfl 5 (by kernel_rfl) rfl) ?_
  go_frame
  refine ls_ex (some 22) (.int .i64 h) rfl rfl (exec_move _ rfl (.int .i64 h) rfl) ?_
  go_frame
  refine ls_op rfl (fun K' hK' => ?_)
  have lz19 := hB.size
  have lz20 := hz5.lt
  have lz21 := hz11.lt
  have lo9 := hB.size
  refine wp_call2 (some 23) rfl 43 _ _ _ rfl (fun args w => by kernel_rfl) _ _ rfl rfl _ (exactOf_c p n m k A c ts h h9 _ (hR.keep hB) hlen) (fun e Wz17 h => ?_)
  obtain ⟨v9, rfl, ho, bz18⟩ := h
  replace hB := below_after hB bz18
  replace hz5 := hz5.after bz18
  replace hz11 := hz11.after bz18
  obtain ⟨A9, c9, rfl⟩ := Own.rdN2 ho (n := N9) HN9.out
  clear bz18
  refine ⟨_, rfl, ?_⟩
  refine hK' _ _ ?_
  clear hK' K'
  go_frame
  refine ls_op rfl (fun K' hK' => ?_)
  refine wp_store_all 28 _ _ rfl rfl Wz2.heap.size rfl #[.int .i64 p, .int .i64 n, .int .i64 m, .int .i64 k, .slice A9 N9 c9] rfl _ _ hz11 5 (by kernel_rfl) rfl rfl (one5 _ _ _ _ _ _ _) (fun Wz22 pz23 => ?_)
  replace hB := pz23.below hB (by omega)
  replace hz5 := pz23.other hz5 (by omega)
  replace ho := ho.put pz23 (ho.off hz11 (by decide))
  replace hz11 : At Wz22 Wz2.heap.size (.cells #[.int .i64 p, .int .i64 n, .int .i64 m, .int .i64 k, .slice A9 N9 c9] 28 (0, 0)) := pz23.at_
  refine hK' _ _ ?_
  clear hK' K' pz23
  refine ls_ex (some 5) (.int .i64 0) rfl rfl (exec_assign _ rfl (.int .i64 0) rfl) ?_
  go_frame
  refine wpList_nil ?_
  go_wp2_with fail
  refine bodyPost_ret (results_at2 rfl _ _ Wz2.heap.size _ _ _ rfl _ rfl hz11 Try.underlying28 rfl 5 (by kernel_rfl) rfl) rfl ?_
  unfold ResS outZ outL
  rw [HC.out]
  exact ⟨_, rfl, ho.mono (by omega), hB⟩
theorem specExactScheme_c (p n m k : Int) (A : Option Addr) (c : Nat) (ts : List (List Nat)) (x : Int) (w : World) (hR : RdT w A ts) (hlen : ts.length ≤ 1048576) : Calls Try.prog 18 #[.agg #[.int .i64 p, .int .i64 n, .int .i64 m, .int .i64 k, .slice A ts.length c], .int .i64 x] w (ResS w (outZ (esCode p n m k ts x) p) (outZ (esCode p n m k ts x) n) (outZ (esCode p n m k ts x) m) (outZ (esCode p n m k ts x) k) (outL (esCode p n m k ts x) (exL x.toNat ts)) (esCode p n m k ts x)) := by
  cases hs : borderB p n m k ts with
  | false => exact specExact_a p n m k A c ts x w hR hlen hs
  | true =>
    cases hin : (decide (0 ≤ x) && decide (x ≤ 9)) with
    | false => exact specExact_b p n m k A c ts x w hR hlen hs hin
    | true =>
      simp only [Bool.and_eq_true, decide_eq_true_eq] at hin
      obtain ⟨h, rfl⟩ : ∃ h : Nat, x = (h : Int) := ⟨x.toNat, by omega⟩
      by_cases hN : 30 < (exL h ts).length
      · exact specExact_c p n m k A c ts h w hR hlen hs (by omega) hN
      · exact specExact_d p n m k A c ts h w hR hlen hs (by omega) (by omega)
theorem implExactScheme_c (p n m k : Int) (A : Option Addr) (c : Nat) (ts : List (List Nat)) (x : Int) (w : World) (hR : RdT w A ts) (hlen : ts.length ≤ 1048576) : Calls Try.prog 19 #[.agg #[.int .i64 p, .int .i64 n, .int .i64 m, .int .i64 k, .slice A ts.length c], .int .i64 x] w (ResS w (outZ (esCode p n m k ts x) p) (outZ (esCode p n m k ts x) n) (outZ (esCode p n m k ts x) m) (outZ (esCode p n m k ts x) k) (outL (esCode p n m k ts x) (exL x.toNat ts)) (esCode p n m k ts x)) := by
  cases hs : borderB p n m k ts with
  | false => exact implExact_a p n m k A c ts x w hR hlen hs
  | true =>
    cases hin : (decide (0 ≤ x) && decide (x ≤ 9)) with
    | false => exact implExact_b p n m k A c ts x w hR hlen hs hin
    | true =>
      simp only [Bool.and_eq_true, decide_eq_true_eq] at hin
      obtain ⟨h, rfl⟩ : ∃ h : Nat, x = (h : Int) := ⟨x.toNat, by omega⟩
      by_cases hN : 30 < (exL h ts).length
      · exact implExact_c p n m k A c ts h w hR hlen hs (by omega) hN
      · exact implExact_d p n m k A c ts h w hR hlen hs (by omega) (by omega)
end Go.Proofs.Ytnlidegmllcdhaa
