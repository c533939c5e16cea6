/-
  mixedCost, l06Mixed, l06Code. (Made by mkcs9.py.)
-/
import Derived.Test.YtphccbilldfdpaaCs8
import Derived.Test.YtphccbilldfdpaaPan
namespace Go.Proofs.Ytphccbilldfdpaa
open Go.RowKit
set_option maxRecDepth 100000
attribute [local irreducible] wpList
theorem cnO_b {r add n : Int} (hr : 0 ≤ r) (ha : 0 ≤ add) : ∀ (k : Nat) (t s d : Int) {t' s' : Int}, 0 ≤ t ∧ t ≤ 1000000000000000 ∧ 0 ≤ s ∧ s ≤ 1000000000000000 → cnO r add n k t s d = some (t', s') → 0 ≤ t' ∧ t' ≤ 1000000000000000 ∧ 0 ≤ s' ∧ s' ≤ 1000000000000000 := by
  intro k
  induction k with
  | zero =>
    intro t s d t' s' h e
    simp only [cnO, Option.some.injEq, Prod.mk.injEq] at e
    omega
  | succ k ih =>
    intro t s d t' s' h e
    simp only [cnO] at e
    split at e
    · rename_i hc
      have hdd : 0 ≤ d * d := by
        rcases Int.le_total 0 d with h0 | h0
        · exact Int.mul_nonneg h0 h0
        · exact Int.mul_nonneg_of_nonpos_of_nonpos h0 h0
      have h1 : 0 ≤ t * r := Int.mul_nonneg h.1 hr
      have h2 : 0 ≤ s * r := Int.mul_nonneg h.2.2.1 hr
      have h3 : 0 ≤ add * (d * d) := Int.mul_nonneg ha hdd
      exact ih _ _ _ ⟨h1, hc.2.2.2.2, by omega, hc.2.2.2.1⟩ e
    · cases e
theorem countsO_b {r add n b : Int} {L : Nat} {t s : Int} (hr : 0 ≤ r) (ha : 0 ≤ add) (hb : 1 ≤ b) (h : countsO r add n L b = some (t, s)) : 0 ≤ t ∧ t ≤ 1000000000000000 ∧ 0 ≤ s ∧ s ≤ 1000000000000000 := by
  unfold countsO at h
  split at h
  · rename_i hc
    have h1 : 0 ≤ b * b := Int.mul_nonneg (by omega) (by omega)
    have h2 : 0 ≤ b * (b * b) := Int.mul_nonneg (by omega) h1
    have h3 : 1 * (b * b) ≤ b * (b * b) := Int.mul_le_mul_of_nonneg_right hb h1
    exact cnO_b hr ha L _ _ _ ⟨h2, hc.2, by omega, by omega⟩ h
  · cases h
theorem counts_some (n r l1 l2 l3 : Int) (L : Nat) (b : Int) (hn : 2 ≤ n ∧ n ≤ 3) (hr : 0 ≤ r ∧ r ≤ 30) (h1 : 0 ≤ l1 ∧ l1 ≤ 1000) (h2 : 0 ≤ l2 ∧ l2 ≤ 1000) (h3 : 0 ≤ l3 ∧ l3 ≤ 1000) (hL : L ≤ 8) (hb : 1 ≤ b) {t s : Int} (ho : countsO r (l1 + l2 + l3) n L b = some (t, s)) (w : World) : Calls Try.prog 54 #[.agg #[.int .i64 n, .int .i64 r, .int .i64 l1, .int .i64 l2, .int .i64 l3], .int .i64 (L : Int), .int .i64 b] w fun e w' => e = .returned (.tuple #[.int .i64 t, .int .i64 s]) ∧ Below w.heap.size w w' :=
  (counts_c n r l1 l2 l3 L b hn hr h1 h2 h3 hL hb w).mono fun e w' h => by rw [ho] at h; exact h
theorem counts_none (n r l1 l2 l3 : Int) (L : Nat) (b : Int) (hn : 2 ≤ n ∧ n ≤ 3) (hr : 0 ≤ r ∧ r ≤ 30) (h1 : 0 ≤ l1 ∧ l1 ≤ 1000) (h2 : 0 ≤ l2 ∧ l2 ≤ 1000) (h3 : 0 ≤ l3 ∧ l3 ≤ 1000) (hL : L ≤ 8) (hb : 1 ≤ b) (ho : countsO r (l1 + l2 + l3) n L b = none) (w : World) : Calls Try.prog 54 #[.agg #[.int .i64 n, .int .i64 r, .int .i64 l1, .int .i64 l2, .int .i64 l3], .int .i64 (L : Int), .int .i64 b] w fun e w' => Fails e ∧ Below w.heap.size w w' :=
  (counts_c n r l1 l2 l3 L b hn hr h1 h2 h3 hL hb w).mono fun e w' h => by rw [ho] at h; exact h
theorem repeated_some (p n m k : Int) (g c : Nat) (qs : List (List Nat)) (L : Nat) (b : Int) (w : World) (hR : Rd w (some ⟨g, 0, none⟩) qs) (hs : schemeB p n m k qs = true) (hn : 2 ≤ n ∧ n ≤ 3) (hL : L ≤ 8) (hb : 1 ≤ b ∧ b ≤ 100000) {t s : Int} (ho : countsO qs.length (coAdd qs) n L b = some (t, s)) : Calls Try.prog 38 #[.agg #[.int .i64 p, .int .i64 n, .int .i64 m, .int .i64 k, .slice (some ⟨g, 0, none⟩) qs.length c], .int .i64 (L : Int), .int .i64 b] w fun e w' => e = .returned (.tuple #[.int .i64 t, .int .i64 s, .bool true]) ∧ Below w.heap.size w w' :=
  (l06Repeated_c p n m k g c qs L b w hR hs hn hL hb).mono fun e w' h => by rw [ho] at h; exact h
theorem repeated_none (p n m k : Int) (g c : Nat) (qs : List (List Nat)) (L : Nat) (b : Int) (w : World) (hR : Rd w (some ⟨g, 0, none⟩) qs) (hs : schemeB p n m k qs = true) (hn : 2 ≤ n ∧ n ≤ 3) (hL : L ≤ 8) (hb : 1 ≤ b ∧ b ≤ 100000) (ho : countsO qs.length (coAdd qs) n L b = none) : Calls Try.prog 38 #[.agg #[.int .i64 p, .int .i64 n, .int .i64 m, .int .i64 k, .slice (some ⟨g, 0, none⟩) qs.length c], .int .i64 (L : Int), .int .i64 b] w fun e w' => e = .returned (.tuple #[.int .i64 0, .int .i64 0, .bool false]) ∧ Below w.heap.size w w' :=
  (l06Repeated_c p n m k g c qs L b w hR hs hn hL hb).mono fun e w' h => by rw [ho] at h; exact h
set_option maxHeartbeats 6400000 in
theorem mixed_some (n r l1 l2 l3 : Int) (L : Nat) (b : Int) (hn : 2 ≤ n ∧ n ≤ 3) (hr : 0 ≤ r ∧ r ≤ 30) (h1 : 0 ≤ l1 ∧ l1 ≤ 1000) (h2 : 0 ≤ l2 ∧ l2 ≤ 1000) (h3 : 0 ≤ l3 ∧ l3 ≤ 1000) (hL : L ≤ 8) (hb : 1 ≤ b) (w : World) (t s : Int) (ho : countsO r (l1 + l2 + l3) n L b = some (t, s)) (hm : t + s ≤ 1000000000000000) :
    Calls Try.prog 43 #[.agg #[.int .i64 n, .int .i64 r, .int .i64 l1, .int .i64 l2, .int .i64 l3], .int .i64 (L : Int), .int .i64 b] w (fun e w' => e = .returned (.int .i64 (t + s)) ∧ Below w.heap.size w w') := by
  have hB := Below.refl w.heap.size w
  have Ho := Lib.hid ho
  have hv := countsO_b (by omega) (by omega) (by omega) ho
  clear ho
  go_enter Try.func43, Try.ntmps43
  go_upto_region 0 with (fail)
  refine wp_region_lit ?_
  refine ls_op rfl (fun K' hK' => ?_)
  have lz1 := hB.size
  refine wp_new (some 3) rfl (exec_box 50 _ rfl (#[.int .i64 n, .int .i64 r, .int .i64 l1, .int .i64 l2, .int .i64 l3]) rfl) (fun Wz2 nnz3 => ?_)
  have bz4 := nnz3.below (Below.refl _ _) (Nat.le_refl _)
  replace hB := below_after hB bz4
  have hz5 : At Wz2 w.heap.size (.cells #[.int .i64 n, .int .i64 r, .int .i64 l1, .int .i64 l2, .int .i64 l3] 50 (0, 0)) := nnz3.at_
  refine hK' _ _ ?_
  clear hK' K' nnz3 bz4
  go_frame
  refine ls_ex (some 6) (.int .i64 0) rfl rfl (exec_assign _ rfl (.int .i64 0) rfl) ?_
  go_frame
  refine wpList_nil ?_
  go_upto_region 1 with (fail)
  refine wp_region_lit ?_
  refine ls_ex (some 10) (.agg #[.int .i64 n, .int .i64 r, .int .i64 l1, .int .i64 l2, .int .i64 l3]) rfl rfl (exec_load_all 50 _ rfl w.heap.size rfl _ _ _ hz5 Try.underlying50 rfl 5 (by kernel_rfl) rfl) ?_
  go_frame
  refine ls_ex (some 11) (.int .i64 L) rfl rfl (exec_move _ rfl (.int .i64 L) rfl) ?_
  go_frame
  refine ls_ex (some 12) (.int .i64 b) rfl rfl (exec_move _ rfl (.int .i64 b) rfl) ?_
  go_frame
  refine ls_op rfl (fun K' hK' => ?_)
  have lz8 := hB.size
  have lz9 := hz5.lt
  refine wp_call3 (some 13) rfl 54 _ _ _ _ rfl (fun args w => by kernel_rfl) _ _ _ rfl rfl rfl _ (counts_some n r l1 l2 l3 L b hn hr h1 h2 h3 hL hb Ho.out _) (fun e Wz6 h => ?_)
  obtain ⟨rfl, bz7⟩ := h
  replace hB := below_after hB bz7
  replace hz5 := hz5.after bz7
  clear bz7
  refine ⟨_, rfl, ?_⟩
  refine hK' _ _ ?_
  clear hK' K'
  go_frame
  refine ls_ex (some 9) (.tuple #[.int .i64 t, .int .i64 s]) rfl rfl (exec_move _ rfl (.tuple #[.int .i64 t, .int .i64 s]) rfl) ?_
  go_frame
  refine ls_ex (some 14) (.int .i64 t) rfl rfl (exec_extract _ 0 rfl #[.int .i64 t, .int .i64 s] (by rfl) _ rfl) ?_
  go_frame
  refine ls_ex (some 15) (.int .i64 s) rfl rfl (exec_extract _ 1 rfl #[.int .i64 t, .int .i64 s] (by rfl) _ rfl) ?_
  go_frame
  refine ls_ex (some 7) (.int .i64 t) rfl rfl (exec_assign _ rfl (.int .i64 t) rfl) ?_
  go_frame
  refine ls_ex (some 8) (.int .i64 s) rfl rfl (exec_assign _ rfl (.int .i64 s) rfl) ?_
  go_frame
  refine wpList_nil ?_
  go_upto_region 2 with (fail)
  refine wp_region_lit ?_
  refine ls_ex (some 16) (.int .i64 t) rfl rfl (exec_move _ rfl (.int .i64 t) rfl) ?_
  go_frame
  refine ls_ex (some 17) (.int .i64 s) rfl rfl (exec_move _ rfl (.int .i64 s) rfl) ?_
  go_frame
  refine ls_op rfl (fun K' hK' => ?_)
  have lz12 := hB.size
  have lz13 := hz5.lt
  refine wp_call2 (some 18) rfl 55 _ _ _ rfl (fun args w => by kernel_rfl) _ _ rfl rfl _ (limS_ok t s hv.1 hv.2.2.1 hm _) (fun e Wz10 h => ?_)
  obtain ⟨rfl, rfl⟩ := h
  refine ⟨_, rfl, ?_⟩
  refine hK' _ _ ?_
  clear hK' K'
  go_frame
  refine ls_ex (some 6) (.int .i64 (t + s)) rfl rfl (exec_assign _ rfl (.int .i64 (t + s)) rfl) ?_
  go_frame
  refine wpList_nil ?_
  go_wp2_with fail
  go_ret
  exact ⟨rfl, hB⟩
set_option maxHeartbeats 6400000 in
theorem mixed_big (n r l1 l2 l3 : Int) (L : Nat) (b : Int) (hn : 2 ≤ n ∧ n ≤ 3) (hr : 0 ≤ r ∧ r ≤ 30) (h1 : 0 ≤ l1 ∧ l1 ≤ 1000) (h2 : 0 ≤ l2 ∧ l2 ≤ 1000) (h3 : 0 ≤ l3 ∧ l3 ≤ 1000) (hL : L ≤ 8) (hb : 1 ≤ b) (w : World) (t s : Int) (ho : countsO r (l1 + l2 + l3) n L b = some (t, s)) (hm : 1000000000000000 < t + s) :
    Calls Try.prog 43 #[.agg #[.int .i64 n, .int .i64 r, .int .i64 l1, .int .i64 l2, .int .i64 l3], .int .i64 (L : Int), .int .i64 b] w (fun e w' => Fails e ∧ Below w.heap.size w w') := by
  have hB := Below.refl w.heap.size w
  have Ho := Lib.hid ho
  have hv := countsO_b (by omega) (by omega) (by omega) ho
  clear ho
  go_enter Try.func43, Try.ntmps43
  go_upto_region 0 with (fail)
  refine wp_region_lit ?_
  refine ls_op rfl (fun K' hK' => ?_)
  have lz1 := hB.size
  refine wp_new (some 3) rfl (exec_box 50 _ rfl (#[.int .i64 n, .int .i64 r, .int .i64 l1, .int .i64 l2, .int .i64 l3]) rfl) (fun Wz2 nnz3 => ?_)
  have bz4 := nnz3.below (Below.refl _ _) (Nat.le_refl _)
  replace hB := below_after hB bz4
  have hz5 : At Wz2 w.heap.size (.cells #[.int .i64 n, .int .i64 r, .int .i64 l1, .int .i64 l2, .int .i64 l3] 50 (0, 0)) := nnz3.at_
  refine hK' _ _ ?_
  clear hK' K' nnz3 bz4
  go_frame
  refine ls_ex (some 6) (.int .i64 0) rfl rfl (exec_assign _ rfl (.int .i64 0) rfl) ?_
  go_frame
  refine wpList_nil ?_
  go_upto_region 1 with (fail)
  refine wp_region_lit ?_
  refine ls_ex (some 10) (.agg #[.int .i64 n, .int .i64 r, .int .i64 l1, .int .i64 l2, .int .i64 l3]) rfl rfl (exec_load_all 50 _ rfl w.heap.size rfl _ _ _ hz5 Try.underlying50 rfl 5 (by kernel_rfl) rfl) ?_
  go_frame
  refine ls_ex (some 11) (.int .i64 L) rfl rfl (exec_move _ rfl (.int .i64 L) rfl) ?_
  go_frame
  refine ls_ex (some 12) (.int .i64 b) rfl rfl (exec_move _ rfl (.int .i64 b) rfl) ?_
  go_frame
  refine ls_op rfl (fun K' hK' => ?_)
  have lz8 := hB.size
  have lz9 := hz5.lt
  refine wp_call3 (some 13) rfl 54 _ _ _ _ rfl (fun args w => by kernel_rfl) _ _ _ rfl rfl rfl _ (counts_some n r l1 l2 l3 L b hn hr h1 h2 h3 hL hb Ho.out _) (fun e Wz6 h => ?_)
  obtain ⟨rfl, bz7⟩ := h
  replace hB := below_after hB bz7
  replace hz5 := hz5.after bz7
  clear bz7
  refine ⟨_, rfl, ?_⟩
  refine hK' _ _ ?_
  clear hK' K'
  go_frame
  refine ls_ex (some 9) (.tuple #[.int .i64 t, .int .i64 s]) rfl rfl (exec_move _ rfl (.tuple #[.int .i64 t, .int .i64 s]) rfl) ?_
  go_frame
  refine ls_ex (some 14) (.int .i64 t) rfl rfl (exec_extract _ 0 rfl #[.int .i64 t, .int .i64 s] (by rfl) _ rfl) ?_
  go_frame
  refine ls_ex (some 15) (.int .i64 s) rfl rfl (exec_extract _ 1 rfl #[.int .i64 t, .int .i64 s] (by rfl) _ rfl) ?_
  go_frame
  refine ls_ex (some 7) (.int .i64 t) rfl rfl (exec_assign _ rfl (.int .i64 t) rfl) ?_
  go_frame
  refine ls_ex (some 8) (.int .i64 s) rfl rfl (exec_assign _ rfl (.int .i64 s) rfl) ?_
  go_frame
  refine wpList_nil ?_
  go_upto_region 2 with (fail)
  refine wp_region_lit ?_
  refine ls_ex (some 16) (.int .i64 t) rfl rfl (exec_move _ rfl (.int .i64 t) rfl) ?_
  go_frame
  refine ls_ex (some 17) (.int .i64 s) rfl rfl (exec_move _ rfl (.int .i64 s) rfl) ?_
  go_frame
  refine ls_op rfl (fun K' hK' => ?_)
  have lz12 := hB.size
  have lz13 := hz5.lt
  refine wp_call2_p 55 _ _ _ rfl (fun args w => by kernel_rfl) _ _ rfl rfl _ (limS_no t s hv.2.2.1 hv.2.2.2 hm _) (fun e Wz10 h => ?_)
  obtain ⟨hf, bz11⟩ := h
  subst bz11
  refine ⟨_, hf, ?_⟩
  exact ⟨rfl, rfl, hB⟩
set_option maxHeartbeats 6400000 in
theorem mixed_none (n r l1 l2 l3 : Int) (L : Nat) (b : Int) (hn : 2 ≤ n ∧ n ≤ 3) (hr : 0 ≤ r ∧ r ≤ 30) (h1 : 0 ≤ l1 ∧ l1 ≤ 1000) (h2 : 0 ≤ l2 ∧ l2 ≤ 1000) (h3 : 0 ≤ l3 ∧ l3 ≤ 1000) (hL : L ≤ 8) (hb : 1 ≤ b) (w : World) (ho : countsO r (l1 + l2 + l3) n L b = none) :
    Calls Try.prog 43 #[.agg #[.int .i64 n, .int .i64 r, .int .i64 l1, .int .i64 l2, .int .i64 l3], .int .i64 (L : Int), .int .i64 b] w (fun e w' => Fails e ∧ Below w.heap.size w w') := by
  have hB := Below.refl w.heap.size w
  have Ho := Lib.hid ho
  clear ho
  go_enter Try.func43, Try.ntmps43
  go_upto_region 0 with (fail)
  refine wp_region_lit ?_
  refine ls_op rfl (fun K' hK' => ?_)
  have lz1 := hB.size
  refine wp_new (some 3) rfl (exec_box 50 _ rfl (#[.int .i64 n, .int .i64 r, .int .i64 l1, .int .i64 l2, .int .i64 l3]) rfl) (fun Wz2 nnz3 => ?_)
  have bz4 := nnz3.below (Below.refl _ _) (Nat.le_refl _)
  replace hB := below_after hB bz4
  have hz5 : At Wz2 w.heap.size (.cells #[.int .i64 n, .int .i64 r, .int .i64 l1, .int .i64 l2, .int .i64 l3] 50 (0, 0)) := nnz3.at_
  refine hK' _ _ ?_
  clear hK' K' nnz3 bz4
  go_frame
  refine ls_ex (some 6) (.int .i64 0) rfl rfl (exec_assign _ rfl (.int .i64 0) rfl) ?_
  go_frame
  refine wpList_nil ?_
  go_upto_region 1 with (fail)
  refine wp_region_lit ?_
  refine ls_ex (some 10) (.agg #[.int .i64 n, .int .i64 r, .int .i64 l1, .int .i64 l2, .int .i64 l3]) rfl rfl (exec_load_all 50 _ rfl w.heap.size rfl _ _ _ hz5 Try.underlying50 rfl 5 (by kernel_rfl) rfl) ?_
  go_frame
  refine ls_ex (some 11) (.int .i64 L) rfl rfl (exec_move _ rfl (.int .i64 L) rfl) ?_
  go_frame
  refine ls_ex (some 12) (.int .i64 b) rfl rfl (exec_move _ rfl (.int .i64 b) rfl) ?_
  go_frame
  refine ls_op rfl (fun K' hK' => ?_)
  have lz8 := hB.size
  have lz9 := hz5.lt
  refine wp_call3_p 54 _ _ _ _ rfl (fun args w => by kernel_rfl) _ _ _ rfl rfl rfl _ (counts_none n r l1 l2 l3 L b hn hr h1 h2 h3 hL hb Ho.out _) (fun e Wz6 h => ?_)
  obtain ⟨hf, bz7⟩ := h
  replace hB := below_after hB bz7
  replace hz5 := hz5.after bz7
  refine ⟨_, hf, ?_⟩
  exact ⟨rfl, rfl, hB⟩
set_option maxHeartbeats 6400000 in
theorem lmixed_some (p n m k : Int) (g c : Nat) (qs : List (List Nat)) (L : Nat) (b : Int) (w : World) (hR : Rd w (some ⟨g, 0, none⟩) qs) (hs : schemeB p n m k qs = true) (hn : 2 ≤ n ∧ n ≤ 3) (hL : L ≤ 8) (hb : 1 ≤ b ∧ b ≤ 100000) (t s : Int) (ho : countsO qs.length (coAdd qs) n L b = some (t, s)) (hm : t + s ≤ 1000000000000000) :
    Calls Try.prog 20 #[.agg #[.int .i64 p, .int .i64 n, .int .i64 m, .int .i64 k, .slice (some ⟨g, 0, none⟩) qs.length c], .int .i64 (L : Int), .int .i64 b] w (fun e w' => e = .returned (.tuple #[.int .i64 (t + s), .bool true]) ∧ Below w.heap.size w w') := by
  have hB := Below.refl w.heap.size w
  have Hs := Lib.hid hs
  have Ho := Lib.hid ho
  have h30 := schemeB_len hs
  have hcb := co_bounds hs hR.good
  have hv := countsO_b (show (0 : Int) ≤ qs.length by omega) (show 0 ≤ coAdd qs by unfold coAdd; omega) hb.1 ho
  clear ho hs hcb
  go_enter Try.func20, Try.ntmps20
  go_upto_region 0 with (fail)
  refine wp_region_lit ?_
  refine ls_op rfl (fun K' hK' => ?_)
  have lz1 := hB.size
  refine wp_new (some 3) rfl (exec_box 30 _ rfl (#[.int .i64 p, .int .i64 n, .int .i64 m, .int .i64 k, .slice (some ⟨g, 0, none⟩) qs.length c]) rfl) (fun Wz2 nnz3 => ?_)
  have bz4 := nnz3.below (Below.refl _ _) (Nat.le_refl _)
  replace hB := below_after hB bz4
  have hz5 : At Wz2 w.heap.size (.cells #[.int .i64 p, .int .i64 n, .int .i64 m, .int .i64 k, .slice (some ⟨g, 0, none⟩) qs.length c] 30 (0, 0)) := nnz3.at_
  refine hK' _ _ ?_
  clear hK' K' nnz3 bz4
  go_frame
  refine ls_ex (some 6) (.int .i64 0) rfl rfl (exec_assign _ rfl (.int .i64 0) rfl) ?_
  go_frame
  refine ls_ex (some 7) (.bool false) rfl rfl (exec_assign _ rfl (.bool false) rfl) ?_
  go_frame
  refine wpList_nil ?_
  go_upto_region 1 with (fail)
  refine wp_region_lit ?_
  refine ls_ex (some 12) (.agg #[.int .i64 p, .int .i64 n, .int .i64 m, .int .i64 k, .slice (some ⟨g, 0, none⟩) qs.length c]) rfl rfl (exec_load_all 30 _ rfl w.heap.size rfl _ _ _ hz5 Try.underlying30 rfl 5 (by kernel_rfl) rfl) ?_
  go_frame
  refine ls_ex (some 13) (.int .i64 L) rfl rfl (exec_move _ rfl (.int .i64 L) rfl) ?_
  go_frame
  refine ls_ex (some 14) (.int .i64 b) rfl rfl (exec_move _ rfl (.int .i64 b) rfl) ?_
  go_frame
  refine ls_op rfl (fun K' hK' => ?_)
  have lz8 := hB.size
  have lz9 := hz5.lt
  refine wp_call3 (some 15) rfl 38 _ _ _ _ rfl (fun args w => by kernel_rfl) _ _ _ rfl rfl rfl _ (repeated_some p n m k g c qs L b _ (hR.keep hB) Hs.out hn hL hb Ho.out) (fun e Wz6 h => ?_)
  obtain ⟨rfl, bz7⟩ := h
  replace hB := below_after hB bz7
  replace hz5 := hz5.after bz7
  clear bz7
  refine ⟨_, rfl, ?_⟩
  refine hK' _ _ ?_
  clear hK' K'
  go_frame
  refine ls_ex (some 11) (.tuple #[.int .i64 t, .int .i64 s, .bool true]) rfl rfl (exec_move _ rfl (.tuple #[.int .i64 t, .int .i64 s, .bool true]) rfl) ?_
  go_frame
  refine ls_ex (some 16) (.int .i64 t) rfl rfl (exec_extract _ 0 rfl #[.int .i64 t, .int .i64 s, .bool true] (by rfl) _ rfl) ?_
  go_frame
  refine ls_ex (some 17) (.int .i64 s) rfl rfl (exec_extract _ 1 rfl #[.int .i64 t, .int .i64 s, .bool true] (by rfl) _ rfl) ?_
  go_frame
  refine ls_ex (some 18) (.bool true) rfl rfl (exec_extract _ 2 rfl #[.int .i64 t, .int .i64 s, .bool true] (by rfl) _ rfl) ?_
  go_frame
  refine ls_ex (some 8) (.int .i64 t) rfl rfl (exec_assign _ rfl (.int .i64 t) rfl) ?_
  go_frame
  refine ls_ex (some 9) (.int .i64 s) rfl rfl (exec_assign _ rfl (.int .i64 s) rfl) ?_
  go_frame
  refine ls_ex (some 10) (.bool true) rfl rfl (exec_assign _ rfl (.bool true) rfl) ?_
  go_frame
  refine wpList_nil ?_
  go_upto_region 2 with (fail)
  refine wp_region_lit ?_
  refine ls_ex (some 19) (.bool true) rfl rfl (exec_move _ rfl (.bool true) rfl) ?_
  go_frame
  refine ls_ex (some 20) (.bool false) rfl rfl (exec_not _ _ rfl true rfl) ?_
  go_frame
  refine ls_ex (some 21) (.bool false) rfl rfl (exec_move _ rfl (.bool false) rfl) ?_
  go_frame
  refine ls_ex_g (some 22) (.int .i64 t) rfl rfl (exec_move _ rfl (.int .i64 t) rfl) ?_
  go_frame
  refine ls_ex_g (some 23) (.int .i64 s) rfl rfl (exec_move _ rfl (.int .i64 s) rfl) ?_
  go_frame
  refine ls_ex_g (some 24) (.int .i64 (t + s)) rfl rfl (exec_add _ _ _ _ rfl t s (t + s) rfl rfl (IntWalk.i64_in _ (by omega))) ?_
  go_frame
  refine ls_ex_g (some 25) (.bool false) rfl rfl (exec_gtr _ _ _ _ rfl ((t + s)) 1000000000000000 rfl rfl false (decide_eq_false (by omega))) ?_
  go_frame
  refine ls_ex (some 26) (.bool false) rfl rfl (exec_pick _ _ _ rfl false rfl (.bool false) rfl) ?_
  go_frame
  refine wpList_nil ?_
  go_upto_region 4 with (fail)
  refine wp_region_lit ?_
  refine ls_ex (some 27) (.int .i64 t) rfl rfl (exec_move _ rfl (.int .i64 t) rfl) ?_
  go_frame
  refine ls_ex (some 28) (.int .i64 s) rfl rfl (exec_move _ rfl (.int .i64 s) rfl) ?_
  go_frame
  refine ls_ex (some 29) (.int .i64 (t + s)) rfl rfl (exec_add _ _ _ _ rfl t s (t + s) rfl rfl (IntWalk.i64_in _ (by omega))) ?_
  go_frame
  refine ls_ex (some 6) (.int .i64 (t + s)) rfl rfl (exec_assign _ rfl (.int .i64 (t + s)) rfl) ?_
  go_frame
  refine ls_ex (some 7) (.bool true) rfl rfl (exec_assign _ rfl (.bool true) rfl) ?_
  go_frame
  refine wpList_nil ?_
  go_wp2_with fail
  go_ret2
  exact ⟨rfl, hB⟩
set_option maxHeartbeats 6400000 in
theorem lmixed_big (p n m k : Int) (g c : Nat) (qs : List (List Nat)) (L : Nat) (b : Int) (w : World) (hR : Rd w (some ⟨g, 0, none⟩) qs) (hs : schemeB p n m k qs = true) (hn : 2 ≤ n ∧ n ≤ 3) (hL : L ≤ 8) (hb : 1 ≤ b ∧ b ≤ 100000) (t s : Int) (ho : countsO qs.length (coAdd qs) n L b = some (t, s)) (hm : 1000000000000000 < t + s) :
    Calls Try.prog 20 #[.agg #[.int .i64 p, .int .i64 n, .int .i64 m, .int .i64 k, .slice (some ⟨g, 0, none⟩) qs.length c], .int .i64 (L : Int), .int .i64 b] w (fun e w' => e = .returned (.tuple #[.int .i64 0, .bool false]) ∧ Below w.heap.size w w') := by
  have hB := Below.refl w.heap.size w
  have Hs := Lib.hid hs
  have Ho := Lib.hid ho
  have h30 := schemeB_len hs
  have hcb := co_bounds hs hR.good
  have hv := countsO_b (show (0 : Int) ≤ qs.length by omega) (show 0 ≤ coAdd qs by unfold coAdd; omega) hb.1 ho
  clear ho hs hcb
  go_enter Try.func20, Try.ntmps20
  go_upto_region 0 with (fail)
  refine wp_region_lit ?_
  refine ls_op rfl (fun K' hK' => ?_)
  have lz1 := hB.size
  refine wp_new (some 3) rfl (exec_box 30 _ rfl (#[.int .i64 p, .int .i64 n, .int .i64 m, .int .i64 k, .slice (some ⟨g, 0, none⟩) qs.length c]) rfl) (fun Wz2 nnz3 => ?_)
  have bz4 := nnz3.below (Below.refl _ _) (Nat.le_refl _)
  replace hB := below_after hB bz4
  have hz5 : At Wz2 w.heap.size (.cells #[.int .i64 p, .int .i64 n, .int .i64 m, .int .i64 k, .slice (some ⟨g, 0, none⟩) qs.length c] 30 (0, 0)) := nnz3.at_
  refine hK' _ _ ?_
  clear hK' K' nnz3 bz4
  go_frame
  refine ls_ex (some 6) (.int .i64 0) rfl rfl (exec_assign _ rfl (.int .i64 0) rfl) ?_
  go_frame
  refine ls_ex (some 7) (.bool false) rfl rfl (exec_assign _ rfl (.bool false) rfl) ?_
  go_frame
  refine wpList_nil ?_
  go_upto_region 1 with (fail)
  refine wp_region_lit ?_
  refine ls_ex (some 12) (.agg #[.int .i64 p, .int .i64 n, .int .i64 m, .int .i64 k, .slice (some ⟨g, 0, none⟩) qs.length c]) rfl rfl (exec_load_all 30 _ rfl w.heap.size rfl _ _ _ hz5 Try.underlying30 rfl 5 (by kernel_rfl) rfl) ?_
  go_frame
  refine ls_ex (some 13) (.int .i64 L) rfl rfl (exec_move _ rfl (.int .i64 L) rfl) ?_
  go_frame
  refine ls_ex (some 14) (.int .i64 b) rfl rfl (exec_move _ rfl (.int .i64 b) rfl) ?_
  go_frame
  refine ls_op rfl (fun K' hK' => ?_)
  have lz8 := hB.size
  have lz9 := hz5.lt
  refine wp_call3 (some 15) rfl 38 _ _ _ _ rfl (fun args w => by kernel_rfl) _ _ _ rfl rfl rfl _ (repeated_some p n m k g c qs L b _ (hR.keep hB) Hs.out hn hL hb Ho.out) (fun e Wz6 h => ?_)
  obtain ⟨rfl, bz7⟩ := h
  replace hB := below_after hB bz7
  replace hz5 := hz5.after bz7
  clear bz7
  refine ⟨_, rfl, ?_⟩
  refine hK' _ _ ?_
  clear hK' K'
  go_frame
  refine ls_ex (some 11) (.tuple #[.int .i64 t, .int .i64 s, .bool true]) rfl rfl (exec_move _ rfl (.tuple #[.int .i64 t, .int .i64 s, .bool true]) rfl) ?_
  go_frame
  refine ls_ex (some 16) (.int .i64 t) rfl rfl (exec_extract _ 0 rfl #[.int .i64 t, .int .i64 s, .bool true] (by rfl) _ rfl) ?_
  go_frame
  refine ls_ex (some 17) (.int .i64 s) rfl rfl (exec_extract _ 1 rfl #[.int .i64 t, .int .i64 s, .bool true] (by rfl) _ rfl) ?_
  go_frame
  refine ls_ex (some 18) (.bool true) rfl rfl (exec_extract _ 2 rfl #[.int .i64 t, .int .i64 s, .bool true] (by rfl) _ rfl) ?_
  go_frame
  refine ls_ex (some 8) (.int .i64 t) rfl rfl (exec_assign _ rfl (.int .i64 t) rfl) ?_
  go_frame
  refine ls_ex (some 9) (.int .i64 s) rfl rfl (exec_assign _ rfl (.int .i64 s) rfl) ?_
  go_frame
  refine ls_ex (some 10) (.bool true) rfl rfl (exec_assign _ rfl (.bool true) rfl) ?_
  go_frame
  refine wpList_nil ?_
  go_upto_region 2 with (fail)
  refine wp_region_lit ?_
  refine ls_ex (some 19) (.bool true) rfl rfl (exec_move _ rfl (.bool true) rfl) ?_
  go_frame
  refine ls_ex (some 20) (.bool false) rfl rfl (exec_not _ _ rfl true rfl) ?_
  go_frame
  refine ls_ex (some 21) (.bool false) rfl rfl (exec_move _ rfl (.bool false) rfl) ?_
  go_frame
  refine ls_ex_g (some 22) (.int .i64 t) rfl rfl (exec_move _ rfl (.int .i64 t) rfl) ?_
  go_frame
  refine ls_ex_g (some 23) (.int .i64 s) rfl rfl (exec_move _ rfl (.int .i64 s) rfl) ?_
  go_frame
  refine ls_ex_g (some 24) (.int .i64 (t + s)) rfl rfl (exec_add _ _ _ _ rfl t s (t + s) rfl rfl (IntWalk.i64_in _ (by omega))) ?_
  go_frame
  refine ls_ex_g (some 25) (.bool true) rfl rfl (exec_gtr _ _ _ _ rfl ((t + s)) 1000000000000000 rfl rfl true (decide_eq_true (by omega))) ?_
  go_frame
  refine ls_ex (some 26) (.bool true) rfl rfl (exec_pick _ _ _ rfl false rfl (.bool true) rfl) ?_
  go_frame
  refine wpList_nil ?_
  go_upto_region 3 with (fail)
  refine wp_region_lit ?_
  refine ls_ex (some 6) (.int .i64 0) rfl rfl (exec_assign _ rfl (.int .i64 0) rfl) ?_
  go_frame
  refine ls_ex (some 7) (.bool false) rfl rfl (exec_assign _ rfl (.bool false) rfl) ?_
  go_frame
  refine wpList_nil ?_
  go_wp2_with fail
  go_ret2
  exact ⟨rfl, hB⟩
set_option maxHeartbeats 6400000 in
theorem lmixed_none (p n m k : Int) (g c : Nat) (qs : List (List Nat)) (L : Nat) (b : Int) (w : World) (hR : Rd w (some ⟨g, 0, none⟩) qs) (hs : schemeB p n m k qs = true) (hn : 2 ≤ n ∧ n ≤ 3) (hL : L ≤ 8) (hb : 1 ≤ b ∧ b ≤ 100000) (ho : countsO qs.length (coAdd qs) n L b = none) :
    Calls Try.prog 20 #[.agg #[.int .i64 p, .int .i64 n, .int .i64 m, .int .i64 k, .slice (some ⟨g, 0, none⟩) qs.length c], .int .i64 (L : Int), .int .i64 b] w (fun e w' => e = .returned (.tuple #[.int .i64 0, .bool false]) ∧ Below w.heap.size w w') := by
  have hB := Below.refl w.heap.size w
  have Hs := Lib.hid hs
  have Ho := Lib.hid ho
  clear ho hs
  go_enter Try.func20, Try.ntmps20
  go_upto_region 0 with (fail)
  refine wp_region_lit ?_
  refine ls_op rfl (fun K' hK' => ?_)
  have lz1 := hB.size
  refine wp_new (some 3) rfl (exec_box 30 _ rfl (#[.int .i64 p, .int .i64 n, .int .i64 m, .int .i64 k, .slice (some ⟨g, 0, none⟩) qs.length c]) rfl) (fun Wz2 nnz3 => ?_)
  have bz4 := nnz3.below (Below.refl _ _) (Nat.le_refl _)
  replace hB := below_after hB bz4
  have hz5 : At Wz2 w.heap.size (.cells #[.int .i64 p, .int .i64 n, .int .i64 m, .int .i64 k, .slice (some ⟨g, 0, none⟩) qs.length c] 30 (0, 0)) := nnz3.at_
  refine hK' _ _ ?_
  clear hK' K' nnz3 bz4
  go_frame
  refine ls_ex (some 6) (.int .i64 0) rfl rfl (exec_assign _ rfl (.int .i64 0) rfl) ?_
  go_frame
  refine ls_ex (some 7) (.bool false) rfl rfl (exec_assign _ rfl (.bool false) rfl) ?_
  go_frame
  refine wpList_nil ?_
  go_upto_region 1 with (fail)
  refine wp_region_lit ?_
  refine ls_ex (some 12) (.agg #[.int .i64 p, .int .i64 n, .int .i64 m, .int .i64 k, .slice (some ⟨g, 0, none⟩) qs.length c]) rfl rfl (exec_load_all 30 _ rfl w.heap.size rfl _ _ _ hz5 Try.underlying30 rfl 5 (by kernel_rfl) rfl) ?_
  go_frame
  refine ls_ex (some 13) (.int .i64 L) rfl rfl (exec_move _ rfl (.int .i64 L) rfl) ?_
  go_frame
  refine ls_ex (some 14) (.int .i64 b) rfl rfl (exec_move _ rfl (.int .i64 b) rfl) ?_
  go_frame
  refine ls_op rfl (fun K' hK' => ?_)
  have lz8 := hB.size
  have lz9 := hz5.lt
  refine wp_call3 (some 15) rfl 38 _ _ _ _ rfl (fun args w => by kernel_rfl) _ _ _ rfl rfl rfl _ (repeated_none p n m k g c qs L b _ (hR.keep hB) Hs.out hn hL hb Ho.out) (fun e Wz6 h => ?_)
  obtain ⟨rfl, bz7⟩ := h
  replace hB := below_after hB bz7
  replace hz5 := hz5.after bz7
  clear bz7
  refine ⟨_, rfl, ?_⟩
  refine hK' _ _ ?_
  clear hK' K'
  go_frame
  refine ls_ex (some 11) (.tuple #[.int .i64 0, .int .i64 0, .bool false]) rfl rfl (exec_move _ rfl (.tuple #[.int .i64 0, .int .i64 0, .bool false]) rfl) ?_
  go_frame
  refine ls_ex (some 16) (.int .i64 0) rfl rfl (exec_extract _ 0 rfl #[.int .i64 0, .int .i64 0, .bool false] (by rfl) _ rfl) ?_
  go_frame
  refine ls_ex (some 17) (.int .i64 0) rfl rfl (exec_extract _ 1 rfl #[.int .i64 0, .int .i64 0, .bool false] (by rfl) _ rfl) ?_
  go_frame
  refine ls_ex (some 18) (.bool false) rfl rfl (exec_extract _ 2 rfl #[.int .i64 0, .int .i64 0, .bool false] (by rfl) _ rfl) ?_
  go_frame
  refine ls_ex (some 8) (.int .i64 0) rfl rfl (exec_assign _ rfl (.int .i64 0) rfl) ?_
  go_frame
  refine ls_ex (some 9) (.int .i64 0) rfl rfl (exec_assign _ rfl (.int .i64 0) rfl) ?_
  go_frame
  refine ls_ex (some 10) (.bool false) rfl rfl (exec_assign _ rfl (.bool false) rfl) ?_
  go_frame
  refine wpList_nil ?_
  go_upto_region 2 with (fail)
  refine wp_region_lit ?_
  refine ls_ex (some 19) (.bool false) rfl rfl (exec_move _ rfl (.bool false) rfl) ?_
  go_frame
  refine ls_ex (some 20) (.bool true) rfl rfl (exec_not _ _ rfl false rfl) ?_
  go_frame
  refine ls_ex (some 21) (.bool true) rfl rfl (exec_move _ rfl (.bool true) rfl) ?_
  go_frame
  refine ls_skip_g (some 22) rfl rfl ?_
  go_frame
  refine ls_skip_g (some 23) rfl rfl ?_
  go_frame
  refine ls_skip_g (some 24) rfl rfl ?_
  go_frame
  refine ls_skip_g (some 25) rfl rfl ?_
  go_frame
  refine ls_ex (some 26) (.bool true) rfl rfl (exec_pick _ _ _ rfl true rfl (.bool true) rfl) ?_
  go_frame
  refine wpList_nil ?_
  go_upto_region 3 with (fail)
  refine wp_region_lit ?_
  refine ls_ex (some 6) (.int .i64 0) rfl rfl (exec_assign _ rfl (.int .i64 0) rfl) ?_
  go_frame
  refine ls_ex (some 7) (.bool false) rfl rfl (exec_assign _ rfl (.bool false) rfl) ?_
  go_frame
  refine wpList_nil ?_
  go_wp2_with fail
  go_ret2
  exact ⟨rfl, hB⟩
set_option maxHeartbeats 6400000 in
theorem lcode_1 (p n m k : Int) (A : Option Addr) (c : Nat) (qs : List (List Nat)) (l b : Int) (w : World) (hR : Rd w A qs) (hlen : qs.length ≤ 1048576) (hne : sqCode p n m k qs true ≠ 0) :
    Calls Try.prog 19 #[.agg #[.int .i64 p, .int .i64 n, .int .i64 m, .int .i64 k, .slice A qs.length c], .int .i64 l, .int .i64 b] w (fun e w' => e = .returned (.int .i64 (sqCode p n m k qs ((decide (0 ≤ l) && decide (l ≤ 8)) && (decide (1 ≤ b) && decide (b ≤ 1000))))) ∧ Below w.heap.size w w') := by
  have hB := Below.refl w.heap.size w
  have Hr : Hid (sqCode p n m k qs ((decide (0 ≤ l) && decide (l ≤ 8)) && (decide (1 ≤ b) && decide (b ≤ 1000))) = sqCode p n m k qs true) := Lib.hid (sqCode_no hne _)
  have Hz : Hid ((sqCode p n m k qs true == 0) = false) := Lib.hid (by simpa using hne)
  clear hne
  go_enter Try.func19, Try.ntmps19
  go_upto_region 0 with (fail)
  refine wp_region_lit ?_
  refine ls_op rfl (fun K' hK' => ?_)
  have lz1 := hB.size
  refine wp_new (some 3) rfl (exec_box 30 _ rfl (#[.int .i64 p, .int .i64 n, .int .i64 m, .int .i64 k, .slice A qs.length c]) rfl) (fun Wz2 nnz3 => ?_)
  have bz4 := nnz3.below (Below.refl _ _) (Nat.le_refl _)
  replace hB := below_after hB bz4
  have hz5 : At Wz2 w.heap.size (.cells #[.int .i64 p, .int .i64 n, .int .i64 m, .int .i64 k, .slice A qs.length c] 30 (0, 0)) := nnz3.at_
  refine hK' _ _ ?_
  clear hK' K' nnz3 bz4
  go_frame
  refine ls_ex (some 6) (.int .i64 0) rfl rfl (exec_assign _ rfl (.int .i64 0) rfl) ?_
  go_frame
  refine wpList_nil ?_
  go_upto_region 1 with (fail)
  refine wp_region_lit ?_
  refine ls_ex (some 8) (.agg #[.int .i64 p, .int .i64 n, .int .i64 m, .int .i64 k, .slice A qs.length c]) rfl rfl (exec_load_all 30 _ rfl w.heap.size rfl _ _ _ hz5 Try.underlying30 rfl 5 (by kernel_rfl) rfl) ?_
  go_frame
  refine ls_op rfl (fun K' hK' => ?_)
  have lz8 := hB.size
  have lz9 := hz5.lt
  refine wp_call1 (some 9) rfl 29 _ _ rfl (fun args w => by kernel_rfl) _ rfl _ (l06Square_c p n m k A c qs _ (hR.keep hB) hlen) (fun e Wz6 h => ?_)
  obtain ⟨rfl, bz7⟩ := h
  replace hB := below_after hB bz7
  replace hz5 := hz5.after bz7
  clear bz7
  refine ⟨_, rfl, ?_⟩
  refine hK' _ _ ?_
  clear hK' K'
  go_frame
  refine ls_ex (some 7) (.int .i64 (sqCode p n m k qs true)) rfl rfl (exec_assign _ rfl (.int .i64 (sqCode p n m k qs true)) rfl) ?_
  go_frame
  refine wpList_nil ?_
  go_upto_region 2 with (fail)
  refine wp_region_lit ?_
  refine ls_ex (some 10) (.int .i64 (sqCode p n m k qs true)) rfl rfl (exec_move _ rfl (.int .i64 (sqCode p n m k qs true)) rfl) ?_
  go_frame
  refine ls_ex (some 11) (.bool false) rfl rfl (exec_eql _ _ _ _ rfl ((sqCode p n m k qs true)) 0 rfl rfl false Hz.out) ?_
  go_frame
  refine ls_ex (some 12) (.bool false) rfl rfl (exec_move _ rfl (.bool false) rfl) ?_
  go_frame
  refine ls_skip_g (some 13) rfl rfl ?_
  go_frame
  refine ls_skip_g (some 14) rfl rfl ?_
  go_frame
  refine ls_skip_g (some 15) rfl rfl ?_
  go_frame
  refine ls_skip_g (some 16) rfl rfl ?_
  go_frame
  refine ls_skip_g (some 17) rfl rfl ?_
  go_frame
  refine ls_skip_g (some 18) rfl rfl ?_
  go_frame
  refine ls_skip_g (some 19) rfl rfl ?_
  go_frame
  refine ls_skip_g (some 20) rfl rfl ?_
  go_frame
  refine ls_ex (some 21) (.bool false) rfl rfl (exec_pick _ _ _ rfl false rfl (.bool false) rfl) ?_
  go_frame
  refine wpList_nil ?_
  go_upto_region 4 with (fail)
  refine wp_region_lit ?_
  refine ls_ex (some 22) (.int .i64 (sqCode p n m k qs true)) rfl rfl (exec_move _ rfl (.int .i64 (sqCode p n m k qs true)) rfl) ?_
  go_frame
  refine ls_ex (some 6) (.int .i64 (sqCode p n m k qs true)) rfl rfl (exec_assign _ rfl (.int .i64 (sqCode p n m k qs true)) rfl) ?_
  go_frame
  refine wpList_nil ?_
  go_wp2_with fail
  go_ret
  exact ⟨by rw [Hr.out]; rfl, hB⟩
set_option maxHeartbeats 6400000 in
theorem lcode_2 (p n m k : Int) (A : Option Addr) (c : Nat) (qs : List (List Nat)) (l b : Int) (w : World) (hR : Rd w A qs) (hlen : qs.length ≤ 1048576) (h1 : sqCode p n m k qs true = 0) (hl : (decide (0 ≤ l) && decide (l ≤ 8)) = false) :
    Calls Try.prog 19 #[.agg #[.int .i64 p, .int .i64 n, .int .i64 m, .int .i64 k, .slice A qs.length c], .int .i64 l, .int .i64 b] w (fun e w' => e = .returned (.int .i64 (sqCode p n m k qs ((decide (0 ≤ l) && decide (l ≤ 8)) && (decide (1 ≤ b) && decide (b ≤ 1000))))) ∧ Below w.heap.size w w') := by
  have hB := Below.refl w.heap.size w
  have Hl := Lib.hid hl
  have hf := sq_facts h1
  have Hr : Hid (sqCode p n m k qs ((decide (0 ≤ l) && decide (l ≤ 8)) && (decide (1 ≤ b) && decide (b ≤ 1000))) = 2) := Lib.hid (by unfold sqCode; rw [if_pos hf.1, hl]; simp)
  have H1 := Lib.hid h1
  clear h1 hf hl
  go_enter Try.func19, Try.ntmps19
  go_upto_region 0 with (fail)
  refine wp_region_lit ?_
  refine ls_op rfl (fun K' hK' => ?_)
  have lz1 := hB.size
  refine wp_new (some 3) rfl (exec_box 30 _ rfl (#[.int .i64 p, .int .i64 n, .int .i64 m, .int .i64 k, .slice A qs.length c]) rfl) (fun Wz2 nnz3 => ?_)
  have bz4 := nnz3.below (Below.refl _ _) (Nat.le_refl _)
  replace hB := below_after hB bz4
  have hz5 : At Wz2 w.heap.size (.cells #[.int .i64 p, .int .i64 n, .int .i64 m, .int .i64 k, .slice A qs.length c] 30 (0, 0)) := nnz3.at_
  refine hK' _ _ ?_
  clear hK' K' nnz3 bz4
  go_frame
  refine ls_ex (some 6) (.int .i64 0) rfl rfl (exec_assign _ rfl (.int .i64 0) rfl) ?_
  go_frame
  refine wpList_nil ?_
  go_upto_region 1 with (fail)
  refine wp_region_lit ?_
  refine ls_ex (some 8) (.agg #[.int .i64 p, .int .i64 n, .int .i64 m, .int .i64 k, .slice A qs.length c]) rfl rfl (exec_load_all 30 _ rfl w.heap.size rfl _ _ _ hz5 Try.underlying30 rfl 5 (by kernel_rfl) rfl) ?_
  go_frame
  refine ls_op rfl (fun K' hK' => ?_)
  have lz8 := hB.size
  have lz9 := hz5.lt
  refine wp_call1 (some 9) rfl 29 _ _ rfl (fun args w => by kernel_rfl) _ rfl _ (l06Square_c p n m k A c qs _ (hR.keep hB) hlen) (fun e Wz6 h => ?_)
  obtain ⟨rfl, bz7⟩ := h
  replace hB := below_after hB bz7
  replace hz5 := hz5.after bz7
  rw [H1.out]
  clear bz7
  refine ⟨_, rfl, ?_⟩
  refine hK' _ _ ?_
  clear hK' K'
  go_frame
  refine ls_ex (some 7) (.int .i64 0) rfl rfl (exec_assign _ rfl (.int .i64 0) rfl) ?_
  go_frame
  refine wpList_nil ?_
  go_upto_region 2 with (fail)
  refine wp_region_lit ?_
  refine ls_ex (some 10) (.int .i64 0) rfl rfl (exec_move _ rfl (.int .i64 0) rfl) ?_
  go_frame
  refine ls_ex (some 11) (.bool true) rfl rfl (exec_eql _ _ _ _ rfl 0 0 rfl rfl true rfl) ?_
  go_frame
  refine ls_ex (some 12) (.bool true) rfl rfl (exec_move _ rfl (.bool true) rfl) ?_
  go_frame
  refine ls_ex_g (some 13) (.int .i64 l) rfl rfl (exec_move _ rfl (.int .i64 l) rfl) ?_
  go_frame
  refine ls_op_g rfl (fun K' hK' => ?_)
  have lz12 := hB.size
  have lz13 := hz5.lt
  refine wp_call3 (some 14) rfl 30 _ _ _ _ rfl (fun args w => by kernel_rfl) _ _ _ rfl rfl rfl _ (l01In_c l 0 8 _) (fun e Wz10 h => ?_)
  obtain ⟨rfl, rfl⟩ := h
  rw [Hl.out]
  refine ⟨_, rfl, ?_⟩
  refine hK' _ _ ?_
  clear hK' K'
  go_frame
  refine ls_ex_g (some 15) (.bool true) rfl rfl (exec_not _ _ rfl false rfl) ?_
  go_frame
  refine ls_ex_g (some 16) (.bool true) rfl rfl (exec_move _ rfl (.bool true) rfl) ?_
  go_frame
  refine ls_skip_g (some 17) rfl rfl ?_
  go_frame
  refine ls_skip_g (some 18) rfl rfl ?_
  go_frame
  refine ls_skip_g (some 19) rfl rfl ?_
  go_frame
  refine ls_ex_g (some 20) (.bool true) rfl rfl (exec_pick _ _ _ rfl true rfl (.bool true) rfl) ?_
  go_frame
  refine ls_ex (some 21) (.bool true) rfl rfl (exec_pick _ _ _ rfl true rfl (.bool true) rfl) ?_
  go_frame
  refine wpList_nil ?_
  go_upto_region 3 with (fail)
  refine wp_region_lit ?_
  refine ls_ex (some 7) (.int .i64 2) rfl rfl (exec_assign _ rfl (.int .i64 2) rfl) ?_
  go_frame
  refine wpList_nil ?_
  go_upto_region 4 with (fail)
  refine wp_region_lit ?_
  refine ls_ex (some 22) (.int .i64 2) rfl rfl (exec_move _ rfl (.int .i64 2) rfl) ?_
  go_frame
  refine ls_ex (some 6) (.int .i64 2) rfl rfl (exec_assign _ rfl (.int .i64 2) rfl) ?_
  go_frame
  refine wpList_nil ?_
  go_wp2_with fail
  go_ret
  exact ⟨by rw [Hr.out]; rfl, hB⟩
set_option maxHeartbeats 6400000 in
theorem lcode_3 (p n m k : Int) (A : Option Addr) (c : Nat) (qs : List (List Nat)) (l b : Int) (w : World) (hR : Rd w A qs) (hlen : qs.length ≤ 1048576) (h1 : sqCode p n m k qs true = 0) (hl : (decide (0 ≤ l) && decide (l ≤ 8)) = true) (hb : (decide (1 ≤ b) && decide (b ≤ 1000)) = false) :
    Calls Try.prog 19 #[.agg #[.int .i64 p, .int .i64 n, .int .i64 m, .int .i64 k, .slice A qs.length c], .int .i64 l, .int .i64 b] w (fun e w' => e = .returned (.int .i64 (sqCode p n m k qs ((decide (0 ≤ l) && decide (l ≤ 8)) && (decide (1 ≤ b) && decide (b ≤ 1000))))) ∧ Below w.heap.size w w') := by
  have hB := Below.refl w.heap.size w
  have Hl := Lib.hid hl
  have Hb := Lib.hid hb
  have hf := sq_facts h1
  have Hr : Hid (sqCode p n m k qs ((decide (0 ≤ l) && decide (l ≤ 8)) && (decide (1 ≤ b) && decide (b ≤ 1000))) = 2) := Lib.hid (by unfold sqCode; rw [if_pos hf.1, hl, hb]; simp)
  have H1 := Lib.hid h1
  clear h1 hf hl hb
  go_enter Try.func19, Try.ntmps19
  go_upto_region 0 with (fail)
  refine wp_region_lit ?_
  refine ls_op rfl (fun K' hK' => ?_)
  have lz1 := hB.size
  refine wp_new (some 3) rfl (exec_box 30 _ rfl (#[.int .i64 p, .int .i64 n, .int .i64 m, .int .i64 k, .slice A qs.length c]) rfl) (fun Wz2 nnz3 => ?_)
  have bz4 := nnz3.below (Below.refl _ _) (Nat.le_refl _)
  replace hB := below_after hB bz4
  have hz5 : At Wz2 w.heap.size (.cells #[.int .i64 p, .int .i64 n, .int .i64 m, .int .i64 k, .slice A qs.length c] 30 (0, 0)) := nnz3.at_
  refine hK' _ _ ?_
  clear hK' K' nnz3 bz4
  go_frame
  refine ls_ex (some 6) (.int .i64 0) rfl rfl (exec_assign _ rfl (.int .i64 0) rfl) ?_
  go_frame
  refine wpList_nil ?_
  go_upto_region 1 with (fail)
  refine wp_region_lit ?_
  refine ls_ex (some 8) (.agg #[.int .i64 p, .int .i64 n, .int .i64 m, .int .i64 k, .slice A qs.length c]) rfl rfl (exec_load_all 30 _ rfl w.heap.size rfl _ _ _ hz5 Try.underlying30 rfl 5 (by kernel_rfl) rfl) ?_
  go_frame
  refine ls_op rfl (fun K' hK' => ?_)
  have lz8 := hB.size
  have lz9 := hz5.lt
  refine wp_call1 (some 9) rfl 29 _ _ rfl (fun args w => by kernel_rfl) _ rfl _ (l06Square_c p n m k A c qs _ (hR.keep hB) hlen) (fun e Wz6 h => ?_)
  obtain ⟨rfl, bz7⟩ := h
  replace hB := below_after hB bz7
  replace hz5 := hz5.after bz7
  rw [H1.out]
  clear bz7
  refine ⟨_, rfl, ?_⟩
  refine hK' _ _ ?_
  clear hK' K'
  go_frame
  refine ls_ex (some 7) (.int .i64 0) rfl rfl (exec_assign _ rfl (.int .i64 0) rfl) ?_
  go_frame
  refine wpList_nil ?_
  go_upto_region 2 with (fail)
  refine wp_region_lit ?_
  refine ls_ex (some 10) (.int .i64 0) rfl rfl (exec_move _ rfl (.int .i64 0) rfl) ?_
  go_frame
  refine ls_ex (some 11) (.bool true) rfl rfl (exec_eql _ _ _ _ rfl 0 0 rfl rfl true rfl) ?_
  go_frame
  refine ls_ex (some 12) (.bool true) rfl rfl (exec_move _ rfl (.bool true) rfl) ?_
  go_frame
  refine ls_ex_g (some 13) (.int .i64 l) rfl rfl (exec_move _ rfl (.int .i64 l) rfl) ?_
  go_frame
  refine ls_op_g rfl (fun K' hK' => ?_)
  have lz12 := hB.size
  have lz13 := hz5.lt
  refine wp_call3 (some 14) rfl 30 _ _ _ _ rfl (fun args w => by kernel_rfl) _ _ _ rfl rfl rfl _ (l01In_c l 0 8 _) (fun e Wz10 h => ?_)
  obtain ⟨rfl, rfl⟩ := h
  rw [Hl.out]
  refine ⟨_, rfl, ?_⟩
  refine hK' _ _ ?_
  clear hK' K'
  go_frame
  refine ls_ex_g (some 15) (.bool false) rfl rfl (exec_not _ _ rfl true rfl) ?_
  go_frame
  refine ls_ex_g (some 16) (.bool false) rfl rfl (exec_move _ rfl (.bool false) rfl) ?_
  go_frame
  refine ls_ex_g (some 17) (.int .i64 b) rfl rfl (exec_move _ rfl (.int .i64 b) rfl) ?_
  go_frame
  refine ls_op_g rfl (fun K' hK' => ?_)
  have lz16 := hB.size
  have lz17 := hz5.lt
  refine wp_call3 (some 18) rfl 30 _ _ _ _ rfl (fun args w => by kernel_rfl) _ _ _ rfl rfl rfl _ (l01In_c b 1 1000 _) (fun e Wz14 h => ?_)
  obtain ⟨rfl, rfl⟩ := h
  rw [Hb.out]
  refine ⟨_, rfl, ?_⟩
  refine hK' _ _ ?_
  clear hK' K'
  go_frame
  refine ls_ex_g (some 19) (.bool true) rfl rfl (exec_not _ _ rfl false rfl) ?_
  go_frame
  refine ls_ex_g (some 20) (.bool true) rfl rfl (exec_pick _ _ _ rfl false rfl (.bool true) rfl) ?_
  go_frame
  refine ls_ex (some 21) (.bool true) rfl rfl (exec_pick _ _ _ rfl true rfl (.bool true) rfl) ?_
  go_frame
  refine wpList_nil ?_
  go_upto_region 3 with (fail)
  refine wp_region_lit ?_
  refine ls_ex (some 7) (.int .i64 2) rfl rfl (exec_assign _ rfl (.int .i64 2) rfl) ?_
  go_frame
  refine wpList_nil ?_
  go_upto_region 4 with (fail)
  refine wp_region_lit ?_
  refine ls_ex (some 22) (.int .i64 2) rfl rfl (exec_move _ rfl (.int .i64 2) rfl) ?_
  go_frame
  refine ls_ex (some 6) (.int .i64 2) rfl rfl (exec_assign _ rfl (.int .i64 2) rfl) ?_
  go_frame
  refine wpList_nil ?_
  go_wp2_with fail
  go_ret
  exact ⟨by rw [Hr.out]; rfl, hB⟩
set_option maxHeartbeats 6400000 in
theorem lcode_4 (p n m k : Int) (A : Option Addr) (c : Nat) (qs : List (List Nat)) (l b : Int) (w : World) (hR : Rd w A qs) (hlen : qs.length ≤ 1048576) (h1 : sqCode p n m k qs true = 0) (hl : (decide (0 ≤ l) && decide (l ≤ 8)) = true) (hb : (decide (1 ≤ b) && decide (b ≤ 1000)) = true) :
    Calls Try.prog 19 #[.agg #[.int .i64 p, .int .i64 n, .int .i64 m, .int .i64 k, .slice A qs.length c], .int .i64 l, .int .i64 b] w (fun e w' => e = .returned (.int .i64 (sqCode p n m k qs ((decide (0 ≤ l) && decide (l ≤ 8)) && (decide (1 ≤ b) && decide (b ≤ 1000))))) ∧ Below w.heap.size w w') := by
  have hB := Below.refl w.heap.size w
  have Hl := Lib.hid hl
  have Hb := Lib.hid hb
  have Hr : Hid (sqCode p n m k qs ((decide (0 ≤ l) && decide (l ≤ 8)) && (decide (1 ≤ b) && decide (b ≤ 1000))) = 0) := Lib.hid (by rw [hl, hb]; exact h1)
  have H1 := Lib.hid h1
  clear h1 hl hb
  go_enter Try.func19, Try.ntmps19
  go_upto_region 0 with (fail)
  refine wp_region_lit ?_
  refine ls_op rfl (fun K' hK' => ?_)
  have lz1 := hB.size
  refine wp_new (some 3) rfl (exec_box 30 _ rfl (#[.int .i64 p, .int .i64 n, .int .i64 m, .int .i64 k, .slice A qs.length c]) rfl) (fun Wz2 nnz3 => ?_)
  have bz4 := nnz3.below (Below.refl _ _) (Nat.le_refl _)
  replace hB := below_after hB bz4
  have hz5 : At Wz2 w.heap.size (.cells #[.int .i64 p, .int .i64 n, .int .i64 m, .int .i64 k, .slice A qs.length c] 30 (0, 0)) := nnz3.at_
  refine hK' _ _ ?_
  clear hK' K' nnz3 bz4
  go_frame
  refine ls_ex (some 6) (.int .i64 0) rfl rfl (exec_assign _ rfl (.int .i64 0) rfl) ?_
  go_frame
  refine wpList_nil ?_
  go_upto_region 1 with (fail)
  refine wp_region_lit ?_
  refine ls_ex (some 8) (.agg #[.int .i64 p, .int .i64 n, .int .i64 m, .int .i64 k, .slice A qs.length c]) rfl rfl (exec_load_all 30 _ rfl w.heap.size rfl _ _ _ hz5 Try.underlying30 rfl 5 (by kernel_rfl) rfl) ?_
  go_frame
  refine ls_op rfl (fun K' hK' => ?_)
  have lz8 := hB.size
  have lz9 := hz5.lt
  refine wp_call1 (some 9) rfl 29 _ _ rfl (fun args w => by kernel_rfl) _ rfl _ (l06Square_c p n m k A c qs _ (hR.keep hB) hlen) (fun e Wz6 h => ?_)
  obtain ⟨rfl, bz7⟩ := h
  replace hB := below_after hB bz7
  replace hz5 := hz5.after bz7
  rw [H1.out]
  clear bz7
  refine ⟨_, rfl, ?_⟩
  refine hK' _ _ ?_
  clear hK' K'
  go_frame
  refine ls_ex (some 7) (.int .i64 0) rfl rfl (exec_assign _ rfl (.int .i64 0) rfl) ?_
  go_frame
  refine wpList_nil ?_
  go_upto_region 2 with (fail)
  refine wp_region_lit ?_
  refine ls_ex (some 10) (.int .i64 0) rfl rfl (exec_move _ rfl (.int .i64 0) rfl) ?_
  go_frame
  refine ls_ex (some 11) (.bool true) rfl rfl (exec_eql _ _ _ _ rfl 0 0 rfl rfl true rfl) ?_
  go_frame
  refine ls_ex (some 12) (.bool true) rfl rfl (exec_move _ rfl (.bool true) rfl) ?_
  go_frame
  refine ls_ex_g (some 13) (.int .i64 l) rfl rfl (exec_move _ rfl (.int .i64 l) rfl) ?_
  go_frame
  refine ls_op_g rfl (fun K' hK' => ?_)
  have lz12 := hB.size
  have lz13 := hz5.lt
  refine wp_call3 (some 14) rfl 30 _ _ _ _ rfl (fun args w => by kernel_rfl) _ _ _ rfl rfl rfl _ (l01In_c l 0 8 _) (fun e Wz10 h => ?_)
  obtain ⟨rfl, rfl⟩ := h
  rw [Hl.out]
  refine ⟨_, rfl, ?_⟩
  refine hK' _ _ ?_
  clear hK' K'
  go_frame
  refine ls_ex_g (some 15) (.bool false) rfl rfl (exec_not _ _ rfl true rfl) ?_
  go_frame
  refine ls_ex_g (some 16) (.bool false) rfl rfl (exec_move _ rfl (.bool false) rfl) ?_
  go_frame
  refine ls_ex_g (some 17) (.int .i64 b) rfl rfl (exec_move _ rfl (.int .i64 b) rfl) ?_
  go_frame
  refine ls_op_g rfl (fun K' hK' => ?_)
  have lz16 := hB.size
  have lz17 := hz5.lt
  refine wp_call3 (some 18) rfl 30 _ _ _ _ rfl (fun args w => by kernel_rfl) _ _ _ rfl rfl rfl _ (l01In_c b 1 1000 _) (fun e Wz14 h => ?_)
  obtain ⟨rfl, rfl⟩ := h
  rw [Hb.out]
  refine ⟨_, rfl, ?_⟩
  refine hK' _ _ ?_
  clear hK' K'
  go_frame
  refine ls_ex_g (some 19) (.bool false) rfl rfl (exec_not _ _ rfl true rfl) ?_
  go_frame
  refine ls_ex_g (some 20) (.bool false) rfl rfl (exec_pick _ _ _ rfl false rfl (.bool false) rfl) ?_
  go_frame
  refine ls_ex (some 21) (.bool false) rfl rfl (exec_pick _ _ _ rfl true rfl (.bool false) rfl) ?_
  go_frame
  refine wpList_nil ?_
  go_upto_region 4 with (fail)
  refine wp_region_lit ?_
  refine ls_ex (some 22) (.int .i64 0) rfl rfl (exec_move _ rfl (.int .i64 0) rfl) ?_
  go_frame
  refine ls_ex (some 6) (.int .i64 0) rfl rfl (exec_assign _ rfl (.int .i64 0) rfl) ?_
  go_frame
  refine wpList_nil ?_
  go_wp2_with fail
  go_ret
  exact ⟨by rw [Hr.out]; rfl, hB⟩
theorem l06Code_c (p n m k : Int) (A : Option Addr) (c : Nat) (qs : List (List Nat)) (l b : Int) (w : World) (hR : Rd w A qs) (hlen : qs.length ≤ 1048576) : Calls Try.prog 19 #[.agg #[.int .i64 p, .int .i64 n, .int .i64 m, .int .i64 k, .slice A qs.length c], .int .i64 l, .int .i64 b] w (fun e w' => e = .returned (.int .i64 (sqCode p n m k qs ((decide (0 ≤ l) && decide (l ≤ 8)) && (decide (1 ≤ b) && decide (b ≤ 1000))))) ∧ Below w.heap.size w w') := by
  by_cases h1 : sqCode p n m k qs true = 0
  · by_cases hl : (decide (0 ≤ l) && decide (l ≤ 8)) = true
    · by_cases hb : (decide (1 ≤ b) && decide (b ≤ 1000)) = true
      · exact lcode_4 p n m k A c qs l b w hR hlen h1 hl hb
      · exact lcode_3 p n m k A c qs l b w hR hlen h1 hl (eq_false_of_ne_true hb)
    · exact lcode_2 p n m k A c qs l b w hR hlen h1 (eq_false_of_ne_true hl)
  · exact lcode_1 p n m k A c qs l b w hR hlen h1
end Go.Proofs.Ytphccbilldfdpaa
