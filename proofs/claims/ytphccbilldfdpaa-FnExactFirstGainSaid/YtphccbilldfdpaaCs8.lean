/-
  isLevels, isBase, repetitionOf; spec.l06Repeated. (Made by mkcs8.py.)
-/
import Derived.Test.YtphccbilldfdpaaCs7
import Derived.OwnWalk
namespace Go.Proofs.Ytphccbilldfdpaa
open Go.RowKit
set_option maxRecDepth 100000
attribute [local irreducible] wpList
theorem isBase_c (l : Int) (w : World) : Calls Try.prog 23 #[.int .i64 l] w fun e w' => e = .returned (.bool (decide (1 ≤ l) && decide (l ≤ 1000))) ∧ w = w' := by
  go_enter Try.func23, Try.ntmps23
  go_wp2_with fail
  refine (isBetween_c 1 l 1000 _).mono ?_
  rintro e w1 ⟨rfl, rfl⟩
  go_wp2_with fail
  go_ret
  exact ⟨rfl, rfl⟩
theorem smN_zero {g : Nat → Nat} {n : Nat} (h : smN g n = 0) : ∀ c, c < n → g c = 0 := by
  induction n with
  | zero => intro c hc; omega
  | succ n ih =>
    intro c hc
    simp only [smN] at h
    by_cases e : c = n
    · rw [e]; omega
    · exact ih (by omega) c (by omega)
theorem wtN_pos {f : List Nat} (hf : f.length = 9) (hz : zeroB f = false) : 1 ≤ wtN f := by
  by_cases h : wtN f = 0
  · have h1 := smN_zero h
    have : f = List.replicate 9 0 := eq_of_getD (n := 9) hf (by simp) (fun j hj => by
      have h2 := h1 j hj
      unfold nzN at h2
      rw [List.getElem?_replicate, if_pos hj]
      split at h2
      · rename_i h3; rw [h3]; rfl
      · omega)
    unfold zeroB at hz
    rw [this] at hz
    simp at hz
  · omega
theorem scheme_prod {p n m k : Int} {qs : List (List Nat)} (hs : schemeB p n m k qs = true) {i : Nat} (hi : i < qs.length) : prodB p n m k qs[i] = true := by
  simp only [schemeB, Bool.and_eq_true, List.all_eq_true] at hs
  exact hs.2 _ (List.getElem_mem hi)
theorem wsI_nonneg {qs : List (List Nat)} (o : Nat) (h : ∀ i (hi : i < qs.length), 1 ≤ wtN (segm qs[i] o 9)) : ∀ i, i ≤ qs.length → 0 ≤ wsI qs o i := by
  intro i
  induction i with
  | zero => intro _; simp [wsI]
  | succ i ih =>
    intro hi
    have h1 := ih (by omega)
    have h2 := h i (by omega)
    rw [wsI_step o (by omega)]
    omega
/-- The sum of the three numbers of additions. -/
def coAdd (qs : List (List Nat)) : Int := wsI qs 0 qs.length + wsI qs 9 qs.length + lastI qs qs.length 9
theorem co_bounds {p n m k : Int} {qs : List (List Nat)} (hs : schemeB p n m k qs = true) (hl : ∀ q ∈ qs, Bytes 27 q) : (0 ≤ wsI qs 0 qs.length ∧ wsI qs 0 qs.length ≤ 1000) ∧ (0 ≤ wsI qs 9 qs.length ∧ wsI qs 9 qs.length ≤ 1000) ∧ (0 ≤ lastI qs qs.length 9 ∧ lastI qs qs.length 9 ≤ 1000) := by
  have h30 := schemeB_len hs
  have hp : ∀ i (hi : i < qs.length), 1 ≤ wtN (segm qs[i] 0 9) ∧ 1 ≤ wtN (segm qs[i] 9 9) := fun i hi => by
    have h := scheme_prod hs hi
    have hb := hl _ (List.getElem_mem hi)
    simp only [prodB, Bool.and_eq_true, Bool.not_eq_true'] at h
    exact ⟨wtN_pos (segm_bytes hb (by omega)).len h.1.1.2, wtN_pos (segm_bytes hb (by omega)).len h.1.2⟩
  have h0 := wsI_nonneg 0 (fun i hi => (hp i hi).1) qs.length (Nat.le_refl _)
  have h9 := wsI_nonneg 9 (fun i hi => (hp i hi).2) qs.length (Nat.le_refl _)
  have b0 := wsI_b qs 0 qs.length
  have b9 := wsI_b qs 9 qs.length
  have bl := lastI_b qs qs.length h30 9
  omega
theorem exec_build_rep {o : Oper} {a : Act} {w : World} (x y : Operand) (ho : o.op = .build 50 #[(0, x), (1, y)]) (n c l1 l2 l3 : Int) (hx : a.eval x = .int .i64 n) (hy : a.eval y = .agg #[.int .i64 c, .int .i64 l1, .int .i64 l2, .int .i64 l3]) :
    (execOp a.eval o).run Try.prog w = .ok (.value (.agg #[.int .i64 n, .int .i64 c, .int .i64 l1, .int .i64 l2, .int .i64 l3])) w := by
  have hb : Try.prog.built 50 [(0, .int .i64 n), (1, .agg #[.int .i64 c, .int .i64 l1, .int .i64 l2, .int .i64 l3])] = some #[.int .i64 n, .int .i64 c, .int .i64 l1, .int .i64 l2, .int .i64 l3] := by kernel_rfl
  have h := run_build (P := Try.prog) w 50 _ _ hb
  unfold execOp
  simp [ho, hx, hy, h]
def CEndS (o : Option (Int × Int)) (e : Ending) : Prop :=
  match o with
  | some (t, s) => e = .returned (.tuple #[.int .i64 t, .int .i64 s, .bool true])
  | none => e = .returned (.tuple #[.int .i64 0, .int .i64 0, .bool false])
theorem al_impl_repetition {o : Oper} {a : Act} {w : World} (ho : o.op = .alloc 50) : (execOp a.eval o).run Try.prog w = .ok (.value (.pointer (some ⟨w.heap.size, 0, none⟩))) (w.alloc (.cells #[.int .i64 0, .int .i64 0, .int .i64 0, .int .i64 0, .int .i64 0] 50 (0, 0))) := by
  unfold execOp
  rw [ho]
  kernel_rfl
set_option maxHeartbeats 4000000 in
theorem repetitionOf_c (p n m k : Int) (g c : Nat) (qs : List (List Nat)) (w : World) (hR : Rd w (some ⟨g, 0, none⟩) qs) (hs : schemeB p n m k qs = true) :
    Calls Try.prog 26 #[.agg #[.int .i64 p, .int .i64 n, .int .i64 m, .int .i64 k, .slice (some ⟨g, 0, none⟩) qs.length c]] w (fun e w' => e = .returned (.agg #[.int .i64 n, .int .i64 qs.length, .int .i64 (wsI qs 0 qs.length), .int .i64 (wsI qs 9 qs.length), .int .i64 (lastI qs qs.length 9)]) ∧ Below w.heap.size w w') := by
  have hB := Below.refl w.heap.size w
  have Hs := Lib.hid hs
  clear hs
  go_enter Try.func26, Try.ntmps26
  go_upto_region 0 with (fail)
  refine wp_region_lit ?_
  refine ls_op rfl (fun K' hK' => ?_)
  have lz1 := hB.size
  refine wp_new (some 1) rfl (exec_box 30 _ rfl (#[.int .i64 p, .int .i64 n, .int .i64 m, .int .i64 k, .slice (some ⟨g, 0, none⟩) qs.length c]) rfl) (fun Wz2 nnz3 => ?_)
  have bz4 := nnz3.below (Below.refl _ _) (Nat.le_refl _)
  replace hB := below_after hB bz4
  have hz5 : At Wz2 w.heap.size (.cells #[.int .i64 p, .int .i64 n, .int .i64 m, .int .i64 k, .slice (some ⟨g, 0, none⟩) qs.length c] 30 (0, 0)) := nnz3.at_
  refine hK' _ _ ?_
  clear hK' K' nnz3 bz4
  go_frame
  refine ls_op rfl (fun K' hK' => ?_)
  have lz6 := hB.size
  have lz7 := hz5.lt
  refine wp_new (some 2) rfl (al_impl_repetition rfl) (fun Wz8 nnz9 => ?_)
  have bz10 := nnz9.below (Below.refl _ _) (Nat.le_refl _)
  replace hB := below_after hB bz10
  replace hz5 := hz5.after bz10
  have hz11 : At Wz8 Wz2.heap.size (.cells #[.int .i64 0, .int .i64 0, .int .i64 0, .int .i64 0, .int .i64 0] 50 (0, 0)) := nnz9.at_
  refine hK' _ _ ?_
  clear hK' K' nnz9 bz10
  go_frame
  refine wpList_nil ?_
  go_upto_region 1 with (fail)
  refine wp_region_y (zs := []) (S := fun w' => Below w.heap.size w w' ∧ At w' w.heap.size (.cells #[.int .i64 p, .int .i64 n, .int .i64 m, .int .i64 k, .slice (some ⟨g, 0, none⟩) qs.length c] 30 (0, 0))) (S2 := fun w' => True) (by kernel_rfl) ?_
  change wpAnyY _ _ _ _ _ _ _ _ _ _ (World.drew _)
  generalize hwdz12 : World.drew _ = wdz12
  replace hB : Below w.heap.size w wdz12 := by rw [← hwdz12]; exact hB.drew
  replace hz5 : At wdz12 w.heap.size (.cells #[.int .i64 p, .int .i64 n, .int .i64 m, .int .i64 k, .slice (some ⟨g, 0, none⟩) qs.length c] 30 (0, 0)) := by rw [← hwdz12]; exact hz5
  replace hz11 : At wdz12 Wz2.heap.size (.cells #[.int .i64 0, .int .i64 0, .int .i64 0, .int .i64 0, .int .i64 0] 50 (0, 0)) := by rw [← hwdz12]; exact hz11
  clear hwdz12
  refine y_yield 0 (some 3) (.pointer (some ⟨w.heap.size, 1, none⟩)) rfl (by kernel_rfl) (by kernel_rfl) (by kernel_rfl) (fun _ _ _ h => h) rfl rfl ⟨hB, hz5⟩ (fun w' h' => exec_fieldAddr 30 _ 1 rfl _ (by kernel_rfl)) ?_
  go_frame
  refine y_yield 1 (some 4) (.int .i64 n) rfl (by kernel_rfl) (by kernel_rfl) (by kernel_rfl) (fun _ _ _ h => h) rfl rfl ⟨hB, hz5⟩ (fun w' h' => exec_load_one 2 _ rfl w.heap.size 1 rfl (.int .i64 n) _ Try.underlying2 rfl (h'.2.at_ 1)) ?_
  go_frame
  refine y_yield 2 (some 5) (.agg #[.int .i64 p, .int .i64 n, .int .i64 m, .int .i64 k, .slice (some ⟨g, 0, none⟩) qs.length c]) rfl (by kernel_rfl) (by kernel_rfl) (by kernel_rfl) (fun _ _ _ h => h) rfl rfl ⟨hB, hz5⟩ (fun w' h' => exec_load_all 30 _ rfl w.heap.size rfl _ _ _ h'.2 Try.underlying30 rfl 5 (by kernel_rfl) rfl) ?_
  go_frame
  refine y_oper 3 (by kernel_rfl) rfl rfl (fun K' hK' => ?_)
  have lz15 := hB.size
  have lz16 := hz5.lt
  have lz17 := hz11.lt
  refine wp_call1 (some 6) rfl 41 _ _ rfl (fun args w => by kernel_rfl) _ rfl _ (costOf_c p n m k g 0 c qs _ (hR.keep hB) Hs.out) (fun e Wz13 h => ?_)
  obtain ⟨rfl, bz14⟩ := h
  replace hB := below_after hB bz14
  replace hz5 := hz5.after bz14
  replace hz11 := hz11.after bz14
  clear bz14
  refine ⟨_, rfl, ?_⟩
  refine hK' _ _ ⟨hB, hz5⟩ (fun _ => trivial) ?_
  clear hK' K'
  go_frame
  refine y_yield 4 (some 7) (.agg #[.int .i64 n, .int .i64 qs.length, .int .i64 (wsI qs 0 qs.length), .int .i64 (wsI qs 9 qs.length), .int .i64 (lastI qs qs.length 9)]) rfl (by kernel_rfl) (by kernel_rfl) (by kernel_rfl) (fun _ _ _ h => h) rfl rfl ⟨hB, hz5⟩ (fun w' h' => exec_build_rep _ _ rfl n _ _ _ _ rfl rfl) ?_
  go_frame
  refine y_oper 5 (by kernel_rfl) rfl rfl (fun K' hK' => ?_)
  refine wp_store_all 50 _ _ rfl rfl Wz2.heap.size rfl #[.int .i64 n, .int .i64 qs.length, .int .i64 (wsI qs 0 qs.length), .int .i64 (wsI qs 9 qs.length), .int .i64 (lastI qs qs.length 9)] rfl _ _ hz11 5 (by kernel_rfl) rfl rfl (by intro x hx; simp at hx; rcases hx with rfl | rfl | rfl | rfl | rfl <;> rfl) (fun Wz18 pz19 => ?_)
  replace hB := pz19.below hB (by omega)
  replace hz5 := pz19.other hz5 (by omega)
  replace hz11 : At Wz18 Wz2.heap.size (.cells #[.int .i64 n, .int .i64 qs.length, .int .i64 (wsI qs 0 qs.length), .int .i64 (wsI qs 9 qs.length), .int .i64 (lastI qs qs.length 9)] 50 (0, 0)) := pz19.at_
  refine hK' _ _ ⟨hB, hz5⟩ (fun _ => trivial) ?_
  clear hK' K' pz19
  refine y_done (by kernel_rfl) ?_ _
  go_wp2_with fail
  refine bodyPost_ret (results_at rfl _ _ Wz2.heap.size _ _ _ rfl hz11 Try.underlying50 rfl 5 (by kernel_rfl) rfl) rfl ?_
  exact ⟨rfl, hB⟩
set_option maxHeartbeats 12800000 in
theorem l06Repeated_c (p n m k : Int) (g c : Nat) (qs : List (List Nat)) (L : Nat) (b : Int) (w : World) (hR : Rd w (some ⟨g, 0, none⟩) qs) (hs : schemeB p n m k qs = true) (hn : 2 ≤ n ∧ n ≤ 3) (hL : L ≤ 8) (hb : 1 ≤ b ∧ b ≤ 100000) :
    Calls Try.prog 38 #[.agg #[.int .i64 p, .int .i64 n, .int .i64 m, .int .i64 k, .slice (some ⟨g, 0, none⟩) qs.length c], .int .i64 (L : Int), .int .i64 b] w (fun e w' => CEndS (countsO qs.length (coAdd qs) n L b) e ∧ Below w.heap.size w w') := by
  have hB := Below.refl w.heap.size w
  have h30 := schemeB_len hs
  have hadb : 0 ≤ coAdd qs ∧ coAdd qs ≤ 3000 := by have := co_bounds hs hR.good; unfold coAdd; omega
  have hw0 := wsI_b qs 0 qs.length
  have hw9 := wsI_b qs 9 qs.length
  have hl9 := lastI_b qs qs.length h30 9
  obtain ⟨ad, had0⟩ : ∃ ad, ad = coAdd qs := ⟨_, rfl⟩
  have HAd : Hid (wsI qs 0 qs.length + wsI qs 9 qs.length + lastI qs qs.length 9 = ad) := Lib.hid (by rw [had0]; rfl)
  have HAc : Hid (coAdd qs = ad) := Lib.hid had0.symm
  have had : 0 ≤ ad ∧ ad ≤ 3000 := by rw [had0]; exact hadb
  have hb1 : 0 ≤ b * b ∧ b * b ≤ 100000 * 100000 := ⟨Int.mul_nonneg (by omega) (by omega), Int.mul_le_mul hb.2 hb.2 (by omega) (by omega)⟩
  have hb2 : 0 ≤ b * b * b ∧ b * b * b ≤ 100000 * 100000 * 100000 := ⟨Int.mul_nonneg hb1.1 (by omega), Int.mul_le_mul hb1.2 hb.2 (by omega) (by omega)⟩
  have hb3 : b * b ≤ b * b * b := by have := Int.mul_le_mul_of_nonneg_left hb.1 hb1.1; omega
  have HG0 : Hid (cnO qs.length ad n (L - 0) (b * b * b) (b * b * b - b * b) b = countsO qs.length ad n L b) := Lib.hid (by unfold countsO; rw [← Int.mul_assoc, if_pos ⟨by omega, by omega⟩]; rfl)
  clear hs hadb had0
  go_enter Try.func38, Try.ntmps38
  go_upto_region 0 with (fail)
  refine wp_region_lit ?_
  refine ls_op rfl (fun K' hK' => ?_)
  have lz1 := hB.size
  refine wp_new (some 3) rfl (exec_box 30 _ rfl (#[.int .i64 p, .int .i64 n, .int .i64 m, .int .i64 k, .slice (some ⟨g, 0, none⟩) qs.length c]) rfl) (fun Wz2 nnz3 => ?_)
  have bz4 := nnz3.below (Below.refl _ _) (Nat.le_refl _)
  replace hB := below_after hB bz4
  have hz5 : At Wz2 w.heap.size (.cells #[.int .i64 p, .int .i64 n, .int .i64 m, .int .i64 k, .slice (some ⟨g, 0, none⟩) qs.length c] 30 (0, 0)) := nnz3.at_
  refine hK' _ _ ?_
  clear hK' K' nnz3 bz4
  go_frame
  refine ls_ex (some 6) (.int .i64 0) rfl rfl (exec_assign _ rfl (.int .i64 0) rfl) ?_
  go_frame
  refine ls_ex (some 7) (.int .i64 0) rfl rfl (exec_assign _ rfl (.int .i64 0) rfl) ?_
  go_frame
  refine ls_ex (some 8) (.bool false) rfl rfl (exec_assign _ rfl (.bool false) rfl) ?_
  go_frame
  refine wpList_nil ?_
  go_upto_region 1 with (fail)
  refine wp_region_lit ?_
  refine ls_ex (some 15) (.agg #[.int .i64 p, .int .i64 n, .int .i64 m, .int .i64 k, .slice (some ⟨g, 0, none⟩) qs.length c]) rfl rfl (exec_load_all 30 _ rfl w.heap.size rfl _ _ _ hz5 Try.underlying30 rfl 5 (by kernel_rfl) rfl) ?_
  go_frame
  refine ls_op rfl (fun K' hK' => ?_)
  have lz8 := hB.size
  have lz9 := hz5.lt
  refine wp_call1 (some 16) rfl 51 _ _ rfl (fun args w => by kernel_rfl) _ rfl _ (l06Cost_c p n m k g 0 c qs _ (hR.keep hB) h30) (fun e Wz6 h => ?_)
  obtain ⟨gc, rfl, hgc, hc4, bz7⟩ := h
  replace hB := below_after hB bz7
  replace hz5 := hz5.after bz7
  clear bz7
  refine ⟨_, rfl, ?_⟩
  refine hK' _ _ ?_
  clear hK' K'
  go_frame
  refine ls_ex (some 9) (.slice (some ⟨gc, 0, none⟩) 4 4) rfl rfl (exec_assign _ rfl (.slice (some ⟨gc, 0, none⟩) 4 4) rfl) ?_
  go_frame
  refine wpList_nil ?_
  go_upto_region 2 with (fail)
  refine wp_region_y (zs := []) (S := fun w' => Below w.heap.size w w' ∧ At w' gc (.cells #[.int .i64 qs.length, .int .i64 (wsI qs 0 qs.length), .int .i64 (wsI qs 9 qs.length), .int .i64 (lastI qs qs.length 9)] 2 (0, 0))) (S2 := fun w' => True) (by kernel_rfl) ?_
  change wpAnyY _ _ _ _ _ _ _ _ _ _ (World.drew _)
  generalize hwdz10 : World.drew _ = wdz10
  replace hB : Below w.heap.size w wdz10 := by rw [← hwdz10]; exact hB.drew
  replace hz5 : At wdz10 w.heap.size (.cells #[.int .i64 p, .int .i64 n, .int .i64 m, .int .i64 k, .slice (some ⟨g, 0, none⟩) qs.length c] 30 (0, 0)) := by rw [← hwdz10]; exact hz5
  replace hc4 : At wdz10 gc (.cells #[.int .i64 qs.length, .int .i64 (wsI qs 0 qs.length), .int .i64 (wsI qs 9 qs.length), .int .i64 (lastI qs qs.length 9)] 2 (0, 0)) := by rw [← hwdz10]; exact hc4
  clear hwdz10
  refine y_yield 0 (some 17) (.slice (some ⟨gc, 0, none⟩) 4 4) rfl (by kernel_rfl) (by kernel_rfl) (by kernel_rfl) (fun _ _ _ h => h) rfl rfl ⟨hB, hc4⟩ (fun w' h' => exec_move _ rfl (.slice (some ⟨gc, 0, none⟩) 4 4) rfl) ?_
  go_frame
  refine y_yield 1 (some 18) (.pointer (some ⟨gc, 1 * 1, none⟩)) rfl (by kernel_rfl) (by kernel_rfl) (by kernel_rfl) (fun _ _ _ h => h) rfl rfl ⟨hB, hc4⟩ (fun w' h' => exec_ix0 _ 2 _ _ rfl gc 4 4 1 1 rfl rfl Try.underlying83 (by kernel_rfl) (by omega)) ?_
  go_frame
  refine y_yield 2 (some 19) (.int .i64 (wsI qs 0 qs.length)) rfl (by kernel_rfl) (by kernel_rfl) (by kernel_rfl) (fun _ _ _ h => h) rfl rfl ⟨hB, hc4⟩ (fun w' h' => exec_load_one 2 _ rfl gc (1 * 1) rfl (.int .i64 (wsI qs 0 qs.length)) _ Try.underlying2 rfl (h'.2.at_ 1)) ?_
  go_frame
  refine y_yield 3 (some 20) (.slice (some ⟨gc, 0, none⟩) 4 4) rfl (by kernel_rfl) (by kernel_rfl) (by kernel_rfl) (fun _ _ _ h => h) rfl rfl ⟨hB, hc4⟩ (fun w' h' => exec_move _ rfl (.slice (some ⟨gc, 0, none⟩) 4 4) rfl) ?_
  go_frame
  refine y_yield 4 (some 21) (.pointer (some ⟨gc, 2 * 1, none⟩)) rfl (by kernel_rfl) (by kernel_rfl) (by kernel_rfl) (fun _ _ _ h => h) rfl rfl ⟨hB, hc4⟩ (fun w' h' => exec_ix0 _ 2 _ _ rfl gc 4 4 2 1 rfl rfl Try.underlying83 (by kernel_rfl) (by omega)) ?_
  go_frame
  refine y_yield 5 (some 22) (.int .i64 (wsI qs 9 qs.length)) rfl (by kernel_rfl) (by kernel_rfl) (by kernel_rfl) (fun _ _ _ h => h) rfl rfl ⟨hB, hc4⟩ (fun w' h' => exec_load_one 2 _ rfl gc (2 * 1) rfl (.int .i64 (wsI qs 9 qs.length)) _ Try.underlying2 rfl (h'.2.at_ 2)) ?_
  go_frame
  refine y_yield 6 (some 23) (.int .i64 ((wsI qs 0 qs.length) + (wsI qs 9 qs.length))) rfl (by kernel_rfl) (by kernel_rfl) (by kernel_rfl) (fun _ _ _ h => h) rfl rfl ⟨hB, hc4⟩ (fun w' h' => exec_add _ _ _ _ rfl ((wsI qs 0 qs.length)) ((wsI qs 9 qs.length)) ((wsI qs 0 qs.length) + (wsI qs 9 qs.length)) rfl rfl (IntWalk.i64_in _ (by omega))) ?_
  go_frame
  refine y_yield 7 (some 24) (.slice (some ⟨gc, 0, none⟩) 4 4) rfl (by kernel_rfl) (by kernel_rfl) (by kernel_rfl) (fun _ _ _ h => h) rfl rfl ⟨hB, hc4⟩ (fun w' h' => exec_move _ rfl (.slice (some ⟨gc, 0, none⟩) 4 4) rfl) ?_
  go_frame
  refine y_yield 8 (some 25) (.pointer (some ⟨gc, 3 * 1, none⟩)) rfl (by kernel_rfl) (by kernel_rfl) (by kernel_rfl) (fun _ _ _ h => h) rfl rfl ⟨hB, hc4⟩ (fun w' h' => exec_ix0 _ 2 _ _ rfl gc 4 4 3 1 rfl rfl Try.underlying83 (by kernel_rfl) (by omega)) ?_
  go_frame
  refine y_yield 9 (some 26) (.int .i64 (lastI qs qs.length 9)) rfl (by kernel_rfl) (by kernel_rfl) (by kernel_rfl) (fun _ _ _ h => h) rfl rfl ⟨hB, hc4⟩ (fun w' h' => exec_load_one 2 _ rfl gc (3 * 1) rfl (.int .i64 (lastI qs qs.length 9)) _ Try.underlying2 rfl (h'.2.at_ 3)) ?_
  go_frame
  refine y_yield 10 (some 27) (.int .i64 ad) rfl (by kernel_rfl) (by kernel_rfl) (by kernel_rfl) (fun _ _ _ h => h) rfl rfl ⟨hB, hc4⟩ (fun w' h' => exec_add _ _ _ _ rfl _ _ ad rfl rfl (by rw [HAd.out]; exact IntWalk.i64_in _ (by omega))) ?_
  go_frame
  refine y_oper 11 (by kernel_rfl) rfl rfl (fun K' hK' => ?_)
  refine wp_exec (some 10) rfl (.int .i64 ad) (exec_assign _ rfl (.int .i64 ad) rfl) ?_
  refine hK' _ _ ⟨hB, hc4⟩ (fun _ => trivial) ?_
  clear hK' K'
  go_frame
  refine y_done (by kernel_rfl) ?_ _
  go_upto_region 3 with (fail)
  refine wp_region_lit ?_
  refine ls_ex (some 28) (.int .i64 b) rfl rfl (exec_move _ rfl (.int .i64 b) rfl) ?_
  go_frame
  refine ls_ex (some 29) (.int .i64 b) rfl rfl (exec_move _ rfl (.int .i64 b) rfl) ?_
  go_frame
  refine ls_ex (some 30) (.int .i64 (b * b)) rfl rfl (exec_mul _ _ _ _ rfl b b (b * b) rfl rfl (IntWalk.i64_in _ (by omega))) ?_
  go_frame
  refine ls_ex (some 31) (.int .i64 b) rfl rfl (exec_move _ rfl (.int .i64 b) rfl) ?_
  go_frame
  refine ls_ex (some 32) (.int .i64 ((b * b) * b)) rfl rfl (exec_mul _ _ _ _ rfl ((b * b)) b ((b * b) * b) rfl rfl (IntWalk.i64_in _ (by omega))) ?_
  go_frame
  refine ls_ex (some 33) (.int .i64 b) rfl rfl (exec_move _ rfl (.int .i64 b) rfl) ?_
  go_frame
  refine ls_ex (some 34) (.int .i64 b) rfl rfl (exec_move _ rfl (.int .i64 b) rfl) ?_
  go_frame
  refine ls_ex (some 35) (.int .i64 (b * b)) rfl rfl (exec_mul _ _ _ _ rfl b b (b * b) rfl rfl (IntWalk.i64_in _ (by omega))) ?_
  go_frame
  refine ls_ex (some 36) (.int .i64 b) rfl rfl (exec_move _ rfl (.int .i64 b) rfl) ?_
  go_frame
  refine ls_ex (some 37) (.int .i64 ((b * b) * b)) rfl rfl (exec_mul _ _ _ _ rfl ((b * b)) b ((b * b) * b) rfl rfl (IntWalk.i64_in _ (by omega))) ?_
  go_frame
  refine ls_ex (some 38) (.int .i64 b) rfl rfl (exec_move _ rfl (.int .i64 b) rfl) ?_
  go_frame
  refine ls_ex (some 39) (.int .i64 b) rfl rfl (exec_move _ rfl (.int .i64 b) rfl) ?_
  go_frame
  refine ls_ex (some 40) (.int .i64 (b * b)) rfl rfl (exec_mul _ _ _ _ rfl b b (b * b) rfl rfl (IntWalk.i64_in _ (by omega))) ?_
  go_frame
  refine ls_ex (some 41) (.int .i64 (((b * b) * b) - (b * b))) rfl rfl (exec_sub _ _ _ _ rfl (((b * b) * b)) ((b * b)) (((b * b) * b) - (b * b)) rfl rfl (IntWalk.i64_in _ (by omega))) ?_
  go_frame
  refine ls_ex (some 42) (.int .i64 b) rfl rfl (exec_move _ rfl (.int .i64 b) rfl) ?_
  go_frame
  refine ls_ex (some 11) (.int .i64 ((b * b) * b)) rfl rfl (exec_assign _ rfl (.int .i64 ((b * b) * b)) rfl) ?_
  go_frame
  refine ls_ex (some 12) (.int .i64 (((b * b) * b) - (b * b))) rfl rfl (exec_assign _ rfl (.int .i64 (((b * b) * b) - (b * b))) rfl) ?_
  go_frame
  refine ls_ex (some 13) (.int .i64 b) rfl rfl (exec_assign _ rfl (.int .i64 b) rfl) ?_
  go_frame
  refine wpList_nil ?_
  go_upto_region 4 with (fail)
  refine wp_region_lit ?_
  refine ls_ex (some 14) (.int .i64 0) rfl rfl (exec_assign _ rfl (.int .i64 0) rfl) ?_
  go_frame
  refine wpList_nil ?_
  go_wp2_with fail
  go_loopw [14, 11, 12, 13] (fun s14 s11 s12 s13 wr => ∃ (a : Nat) (t s d : Int), a ≤ L ∧ s14 = .int .i64 a ∧ s11 = .int .i64 t ∧ s12 = .int .i64 s ∧ s13 = .int .i64 d ∧ Hid (cnO qs.length ad n (L - a) t s d = countsO qs.length ad n L b) ∧ (0 ≤ t ∧ t ≤ 1000000000000000 ∧ 0 ≤ s ∧ s ≤ 1000000000000000 ∧ 0 ≤ d ∧ d ≤ 94868331) ∧ Below w.heap.size w wr ∧ At wr w.heap.size (.cells #[.int .i64 p, .int .i64 n, .int .i64 m, .int .i64 k, .slice (some ⟨g, 0, none⟩) qs.length c] 30 (0, 0)) ∧ At wr gc (.cells #[.int .i64 qs.length, .int .i64 (wsI qs 0 qs.length), .int .i64 (wsI qs 9 qs.length), .int .i64 (lastI qs qs.length 9)] 2 (0, 0))) (fun s14 _ _ _ _ => L - (intOf s14).toNat)
  case atStart => exact ⟨0, b * b * b, b * b * b - b * b, b, by omega, rfl, rfl, rfl, rfl, HG0, by omega, hB, hz5, hc4⟩
  case round =>
    clear hB hz5 hc4
    obtain ⟨a, t, s, d, ha, rfl, rfl, rfl, rfl, HG, hv, hB, h0, hc4⟩ := hrel
    by_cases hlt : a < L
    · have htr : 0 ≤ t * qs.length ∧ t * qs.length ≤ 1000000000000000 * 30 := ⟨Int.mul_nonneg hv.1 (by omega), Int.mul_le_mul hv.2.1 (by omega) (by omega) (by omega)⟩
      have hsr : 0 ≤ s * qs.length ∧ s * qs.length ≤ 1000000000000000 * 30 := ⟨Int.mul_nonneg hv.2.2.1 (by omega), Int.mul_le_mul hv.2.2.2.1 (by omega) (by omega) (by omega)⟩
      have hdd : 0 ≤ d * d ∧ d * d ≤ 94868331 * 94868331 := ⟨Int.mul_nonneg hv.2.2.2.2.1 hv.2.2.2.2.1, Int.mul_le_mul hv.2.2.2.2.2 hv.2.2.2.2.2 hv.2.2.2.2.1 (by omega)⟩
      by_cases c5 : t * qs.length ≤ 1000000000000000
      · by_cases c3 : s * qs.length ≤ 1000000000000000
        · by_cases c1 : d * d ≤ 1000000000000000
          · have hd3 := sq_bound hv.2.2.2.2.1 c1
            have had1 : 0 ≤ ad * d ∧ ad * d ≤ 3000 * 31622777 := ⟨Int.mul_nonneg had.1 hv.2.2.2.2.1, Int.mul_le_mul had.2 hd3 hv.2.2.2.2.1 (by omega)⟩
            have hass : ad * d * d = ad * (d * d) := Int.mul_assoc _ _ _
            have had2 : 0 ≤ ad * (d * d) ∧ ad * (d * d) ≤ 3000 * 1000000000000000 := ⟨Int.mul_nonneg had.1 hdd.1, Int.mul_le_mul had.2 c1 hdd.1 (by omega)⟩
            have hdn : 0 ≤ d * n ∧ d * n ≤ 31622777 * 3 := ⟨Int.mul_nonneg hv.2.2.2.2.1 (by omega), Int.mul_le_mul hd3 hn.2 (by omega) (by omega)⟩
            have Hass := Lib.hid hass
            rw [← hass] at had2
            clear hass
            by_cases c4 : s * qs.length + ad * d * d ≤ 1000000000000000
            · have HY : Hid (cnO qs.length ad n (L - (a + 1)) (t * qs.length) (s * qs.length + ad * d * d) (d * n) = countsO qs.length ad n L b) := Lib.hid (by rw [← HG.out, cnO_yes hlt ⟨c1, by rw [← Hass.out]; omega, c3, by rw [← Hass.out]; exact c4, c5⟩, Hass.out])
              go_upto_region 5 with (fail)
              refine wp_region_lit ?_
              refine ls_ex (some 43) (.int .i64 a) rfl rfl (exec_move _ rfl (.int .i64 a) rfl) ?_
              go_frame
              refine ls_ex (some 44) (.int .i64 L) rfl rfl (exec_move _ rfl (.int .i64 L) rfl) ?_
              go_frame
              refine ls_ex (some 45) (.bool true) rfl rfl (exec_lss _ _ _ _ rfl a L rfl rfl true (decide_eq_true (by omega))) ?_
              go_frame
              refine wpList_nil ?_
              go_upto_region 7 with (fail)
              refine wp_region_lit ?_
              refine ls_ex (some 48) (.int .i64 t) rfl rfl (exec_move _ rfl (.int .i64 t) rfl) ?_
              go_frame
              refine ls_ex (some 49) (.slice (some ⟨gc, 0, none⟩) 4 4) rfl rfl (exec_move _ rfl (.slice (some ⟨gc, 0, none⟩) 4 4) rfl) ?_
              go_frame
              refine ls_ex (some 50) (.pointer (some ⟨gc, 0 * 1, none⟩)) rfl rfl (exec_ix0 _ 2 _ _ rfl gc 4 4 0 1 rfl rfl Try.underlying83 (by kernel_rfl) (by omega)) ?_
              go_frame
              refine ls_ex (some 51) (.int .i64 qs.length) rfl rfl (exec_load_one 2 _ rfl gc (0 * 1) rfl (.int .i64 qs.length) _ Try.underlying2 rfl (hc4.at_ 0)) ?_
              go_frame
              refine ls_ex (some 52) (.int .i64 (t * qs.length)) rfl rfl (exec_mul _ _ _ _ rfl t qs.length (t * qs.length) rfl rfl (IntWalk.i64_in _ (by omega))) ?_
              go_frame
              refine ls_ex (some 11) (.int .i64 (t * qs.length)) rfl rfl (exec_assign _ rfl (.int .i64 (t * qs.length)) rfl) ?_
              go_frame
              refine wpList_nil ?_
              go_upto_region 8 with (fail)
              refine wp_region_lit ?_
              refine ls_ex (some 53) (.int .i64 s) rfl rfl (exec_move _ rfl (.int .i64 s) rfl) ?_
              go_frame
              refine ls_ex (some 54) (.slice (some ⟨gc, 0, none⟩) 4 4) rfl rfl (exec_move _ rfl (.slice (some ⟨gc, 0, none⟩) 4 4) rfl) ?_
              go_frame
              refine ls_ex (some 55) (.pointer (some ⟨gc, 0 * 1, none⟩)) rfl rfl (exec_ix0 _ 2 _ _ rfl gc 4 4 0 1 rfl rfl Try.underlying83 (by kernel_rfl) (by omega)) ?_
              go_frame
              refine ls_ex (some 56) (.int .i64 qs.length) rfl rfl (exec_load_one 2 _ rfl gc (0 * 1) rfl (.int .i64 qs.length) _ Try.underlying2 rfl (hc4.at_ 0)) ?_
              go_frame
              refine ls_ex (some 57) (.int .i64 (s * qs.length)) rfl rfl (exec_mul _ _ _ _ rfl s qs.length (s * qs.length) rfl rfl (IntWalk.i64_in _ (by omega))) ?_
              go_frame
              refine ls_ex (some 12) (.int .i64 (s * qs.length)) rfl rfl (exec_assign _ rfl (.int .i64 (s * qs.length)) rfl) ?_
              go_frame
              refine wpList_nil ?_
              go_upto_region 9 with (fail)
              refine wp_region_lit ?_
              refine ls_ex (some 58) (.int .i64 (t * qs.length)) rfl rfl (exec_move _ rfl (.int .i64 (t * qs.length)) rfl) ?_
              go_frame
              refine ls_ex (some 59) (.bool false) rfl rfl (exec_gtr _ _ _ _ rfl ((t * qs.length)) 1000000000000000 rfl rfl false (decide_eq_false (by omega))) ?_
              go_frame
              refine ls_ex (some 60) (.bool false) rfl rfl (exec_move _ rfl (.bool false) rfl) ?_
              go_frame
              refine ls_ex_g (some 61) (.int .i64 (s * qs.length)) rfl rfl (exec_move _ rfl (.int .i64 (s * qs.length)) rfl) ?_
              go_frame
              refine ls_ex_g (some 62) (.bool false) rfl rfl (exec_gtr _ _ _ _ rfl ((s * qs.length)) 1000000000000000 rfl rfl false (decide_eq_false (by omega))) ?_
              go_frame
              refine ls_ex (some 63) (.bool false) rfl rfl (exec_pick _ _ _ rfl false rfl (.bool false) rfl) ?_
              go_frame
              refine ls_ex (some 64) (.bool false) rfl rfl (exec_move _ rfl (.bool false) rfl) ?_
              go_frame
              refine ls_ex_g (some 65) (.int .i64 d) rfl rfl (exec_move _ rfl (.int .i64 d) rfl) ?_
              go_frame
              refine ls_ex_g (some 66) (.int .i64 d) rfl rfl (exec_move _ rfl (.int .i64 d) rfl) ?_
              go_frame
              refine ls_ex_g (some 67) (.int .i64 (d * d)) rfl rfl (exec_mul _ _ _ _ rfl d d (d * d) rfl rfl (IntWalk.i64_in _ (by omega))) ?_
              go_frame
              refine ls_ex_g (some 68) (.bool false) rfl rfl (exec_gtr _ _ _ _ rfl ((d * d)) 1000000000000000 rfl rfl false (decide_eq_false (by omega))) ?_
              go_frame
              refine ls_ex (some 69) (.bool false) rfl rfl (exec_pick _ _ _ rfl false rfl (.bool false) rfl) ?_
              go_frame
              refine wpList_nil ?_
              go_upto_region 11 with (fail)
              refine wp_region_lit ?_
              refine ls_ex (some 70) (.int .i64 (s * qs.length)) rfl rfl (exec_move _ rfl (.int .i64 (s * qs.length)) rfl) ?_
              go_frame
              refine ls_ex (some 71) (.int .i64 ad) rfl rfl (exec_move _ rfl (.int .i64 ad) rfl) ?_
              go_frame
              refine ls_ex (some 72) (.int .i64 d) rfl rfl (exec_move _ rfl (.int .i64 d) rfl) ?_
              go_frame
              refine ls_ex (some 73) (.int .i64 (ad * d)) rfl rfl (exec_mul _ _ _ _ rfl ad d (ad * d) rfl rfl (IntWalk.i64_in _ (by omega))) ?_
              go_frame
              refine ls_ex (some 74) (.int .i64 d) rfl rfl (exec_move _ rfl (.int .i64 d) rfl) ?_
              go_frame
              refine ls_ex (some 75) (.int .i64 ((ad * d) * d)) rfl rfl (exec_mul _ _ _ _ rfl ((ad * d)) d ((ad * d) * d) rfl rfl (IntWalk.i64_in _ (by omega))) ?_
              go_frame
              refine ls_ex (some 76) (.int .i64 ((s * qs.length) + ((ad * d) * d))) rfl rfl (exec_add _ _ _ _ rfl ((s * qs.length)) (((ad * d) * d)) ((s * qs.length) + ((ad * d) * d)) rfl rfl (IntWalk.i64_in _ (by omega))) ?_
              go_frame
              refine ls_ex (some 12) (.int .i64 ((s * qs.length) + ((ad * d) * d))) rfl rfl (exec_assign _ rfl (.int .i64 ((s * qs.length) + ((ad * d) * d))) rfl) ?_
              go_frame
              refine wpList_nil ?_
              go_upto_region 12 with (fail)
              refine wp_region_lit ?_
              refine ls_ex (some 77) (.int .i64 d) rfl rfl (exec_move _ rfl (.int .i64 d) rfl) ?_
              go_frame
              refine ls_ex (some 78) (.pointer (some ⟨w.heap.size, 1, none⟩)) rfl rfl (exec_fieldAddr 30 _ 1 rfl _ (by kernel_rfl)) ?_
              go_frame
              refine ls_ex (some 79) (.int .i64 n) rfl rfl (exec_load_one 2 _ rfl w.heap.size 1 rfl (.int .i64 n) _ Try.underlying2 rfl (h0.at_ 1)) ?_
              go_frame
              refine ls_ex (some 80) (.int .i64 (d * n)) rfl rfl (exec_mul _ _ _ _ rfl d n (d * n) rfl rfl (IntWalk.i64_in _ (by omega))) ?_
              go_frame
              refine ls_ex (some 13) (.int .i64 (d * n)) rfl rfl (exec_assign _ rfl (.int .i64 (d * n)) rfl) ?_
              go_frame
              refine wpList_nil ?_
              go_upto_region 13 with (fail)
              refine wp_region_lit ?_
              refine ls_ex (some 81) (.int .i64 ((s * qs.length) + ((ad * d) * d))) rfl rfl (exec_move _ rfl (.int .i64 ((s * qs.length) + ((ad * d) * d))) rfl) ?_
              go_frame
              refine ls_ex (some 82) (.bool false) rfl rfl (exec_gtr _ _ _ _ rfl (((s * qs.length) + ((ad * d) * d))) 1000000000000000 rfl rfl false (decide_eq_false (by omega))) ?_
              go_frame
              refine wpList_nil ?_
              go_upto_region 6 with (fail)
              refine wp_region_lit ?_
              refine ls_ex (some 46) (.int .i64 a) rfl rfl (exec_move _ rfl (.int .i64 a) rfl) ?_
              go_frame
              refine ls_ex (some 47) (.int .i64 (a + 1)) rfl rfl (exec_add _ _ _ _ rfl a 1 (a + 1) rfl rfl (IntWalk.i64_in _ (by omega))) ?_
              go_frame
              refine ls_ex (some 14) (.int .i64 (a + 1)) rfl rfl (exec_assign _ rfl (.int .i64 (a + 1)) rfl) ?_
              go_frame
              refine wpList_nil ?_
              go_wp2_with fail
              go_roundw
              case rel => exact ⟨a + 1, t * qs.length, s * qs.length + ad * d * d, d * n, by omega, by go_num, rfl, rfl, rfl, HY, by omega, hB, h0, hc4⟩
              case measure => simp [intOf]; omega
            · have HN : Hid (countsO qs.length ad n L b = none) := Lib.hid (by rw [← HG.out]; exact cnO_no hlt (fun h => c4 (by rw [Hass.out]; exact h.2.2.2.1)))
              go_upto_region 5 with (fail)
              refine wp_region_lit ?_
              refine ls_ex (some 43) (.int .i64 a) rfl rfl (exec_move _ rfl (.int .i64 a) rfl) ?_
              go_frame
              refine ls_ex (some 44) (.int .i64 L) rfl rfl (exec_move _ rfl (.int .i64 L) rfl) ?_
              go_frame
              refine ls_ex (some 45) (.bool true) rfl rfl (exec_lss _ _ _ _ rfl a L rfl rfl true (decide_eq_true (by omega))) ?_
              go_frame
              refine wpList_nil ?_
              go_upto_region 7 with (fail)
              refine wp_region_lit ?_
              refine ls_ex (some 48) (.int .i64 t) rfl rfl (exec_move _ rfl (.int .i64 t) rfl) ?_
              go_frame
              refine ls_ex (some 49) (.slice (some ⟨gc, 0, none⟩) 4 4) rfl rfl (exec_move _ rfl (.slice (some ⟨gc, 0, none⟩) 4 4) rfl) ?_
              go_frame
              refine ls_ex (some 50) (.pointer (some ⟨gc, 0 * 1, none⟩)) rfl rfl (exec_ix0 _ 2 _ _ rfl gc 4 4 0 1 rfl rfl Try.underlying83 (by kernel_rfl) (by omega)) ?_
              go_frame
              refine ls_ex (some 51) (.int .i64 qs.length) rfl rfl (exec_load_one 2 _ rfl gc (0 * 1) rfl (.int .i64 qs.length) _ Try.underlying2 rfl (hc4.at_ 0)) ?_
              go_frame
              refine ls_ex (some 52) (.int .i64 (t * qs.length)) rfl rfl (exec_mul _ _ _ _ rfl t qs.length (t * qs.length) rfl rfl (IntWalk.i64_in _ (by omega))) ?_
              go_frame
              refine ls_ex (some 11) (.int .i64 (t * qs.length)) rfl rfl (exec_assign _ rfl (.int .i64 (t * qs.length)) rfl) ?_
              go_frame
              refine wpList_nil ?_
              go_upto_region 8 with (fail)
              refine wp_region_lit ?_
              refine ls_ex (some 53) (.int .i64 s) rfl rfl (exec_move _ rfl (.int .i64 s) rfl) ?_
              go_frame
              refine ls_ex (some 54) (.slice (some ⟨gc, 0, none⟩) 4 4) rfl rfl (exec_move _ rfl (.slice (some ⟨gc, 0, none⟩) 4 4) rfl) ?_
              go_frame
              refine ls_ex (some 55) (.pointer (some ⟨gc, 0 * 1, none⟩)) rfl rfl (exec_ix0 _ 2 _ _ rfl gc 4 4 0 1 rfl rfl Try.underlying83 (by kernel_rfl) (by omega)) ?_
              go_frame
              refine ls_ex (some 56) (.int .i64 qs.length) rfl rfl (exec_load_one 2 _ rfl gc (0 * 1) rfl (.int .i64 qs.length) _ Try.underlying2 rfl (hc4.at_ 0)) ?_
              go_frame
              refine ls_ex (some 57) (.int .i64 (s * qs.length)) rfl rfl (exec_mul _ _ _ _ rfl s qs.length (s * qs.length) rfl rfl (IntWalk.i64_in _ (by omega))) ?_
              go_frame
              refine ls_ex (some 12) (.int .i64 (s * qs.length)) rfl rfl (exec_assign _ rfl (.int .i64 (s * qs.length)) rfl) ?_
              go_frame
              refine wpList_nil ?_
              go_upto_region 9 with (fail)
              refine wp_region_lit ?_
              refine ls_ex (some 58) (.int .i64 (t * qs.length)) rfl rfl (exec_move _ rfl (.int .i64 (t * qs.length)) rfl) ?_
              go_frame
              refine ls_ex (some 59) (.bool false) rfl rfl (exec_gtr _ _ _ _ rfl ((t * qs.length)) 1000000000000000 rfl rfl false (decide_eq_false (by omega))) ?_
              go_frame
              refine ls_ex (some 60) (.bool false) rfl rfl (exec_move _ rfl (.bool false) rfl) ?_
              go_frame
              refine ls_ex_g (some 61) (.int .i64 (s * qs.length)) rfl rfl (exec_move _ rfl (.int .i64 (s * qs.length)) rfl) ?_
              go_frame
              refine ls_ex_g (some 62) (.bool false) rfl rfl (exec_gtr _ _ _ _ rfl ((s * qs.length)) 1000000000000000 rfl rfl false (decide_eq_false (by omega))) ?_
              go_frame
              refine ls_ex (some 63) (.bool false) rfl rfl (exec_pick _ _ _ rfl false rfl (.bool false) rfl) ?_
              go_frame
              refine ls_ex (some 64) (.bool false) rfl rfl (exec_move _ rfl (.bool false) rfl) ?_
              go_frame
              refine ls_ex_g (some 65) (.int .i64 d) rfl rfl (exec_move _ rfl (.int .i64 d) rfl) ?_
              go_frame
              refine ls_ex_g (some 66) (.int .i64 d) rfl rfl (exec_move _ rfl (.int .i64 d) rfl) ?_
              go_frame
              refine ls_ex_g (some 67) (.int .i64 (d * d)) rfl rfl (exec_mul _ _ _ _ rfl d d (d * d) rfl rfl (IntWalk.i64_in _ (by omega))) ?_
              go_frame
              refine ls_ex_g (some 68) (.bool false) rfl rfl (exec_gtr _ _ _ _ rfl ((d * d)) 1000000000000000 rfl rfl false (decide_eq_false (by omega))) ?_
              go_frame
              refine ls_ex (some 69) (.bool false) rfl rfl (exec_pick _ _ _ rfl false rfl (.bool false) rfl) ?_
              go_frame
              refine wpList_nil ?_
              go_upto_region 11 with (fail)
              refine wp_region_lit ?_
              refine ls_ex (some 70) (.int .i64 (s * qs.length)) rfl rfl (exec_move _ rfl (.int .i64 (s * qs.length)) rfl) ?_
              go_frame
              refine ls_ex (some 71) (.int .i64 ad) rfl rfl (exec_move _ rfl (.int .i64 ad) rfl) ?_
              go_frame
              refine ls_ex (some 72) (.int .i64 d) rfl rfl (exec_move _ rfl (.int .i64 d) rfl) ?_
              go_frame
              refine ls_ex (some 73) (.int .i64 (ad * d)) rfl rfl (exec_mul _ _ _ _ rfl ad d (ad * d) rfl rfl (IntWalk.i64_in _ (by omega))) ?_
              go_frame
              refine ls_ex (some 74) (.int .i64 d) rfl rfl (exec_move _ rfl (.int .i64 d) rfl) ?_
              go_frame
              refine ls_ex (some 75) (.int .i64 ((ad * d) * d)) rfl rfl (exec_mul _ _ _ _ rfl ((ad * d)) d ((ad * d) * d) rfl rfl (IntWalk.i64_in _ (by omega))) ?_
              go_frame
              refine ls_ex (some 76) (.int .i64 ((s * qs.length) + ((ad * d) * d))) rfl rfl (exec_add _ _ _ _ rfl ((s * qs.length)) (((ad * d) * d)) ((s * qs.length) + ((ad * d) * d)) rfl rfl (IntWalk.i64_in _ (by omega))) ?_
              go_frame
              refine ls_ex (some 12) (.int .i64 ((s * qs.length) + ((ad * d) * d))) rfl rfl (exec_assign _ rfl (.int .i64 ((s * qs.length) + ((ad * d) * d))) rfl) ?_
              go_frame
              refine wpList_nil ?_
              go_upto_region 12 with (fail)
              refine wp_region_lit ?_
              refine ls_ex (some 77) (.int .i64 d) rfl rfl (exec_move _ rfl (.int .i64 d) rfl) ?_
              go_frame
              refine ls_ex (some 78) (.pointer (some ⟨w.heap.size, 1, none⟩)) rfl rfl (exec_fieldAddr 30 _ 1 rfl _ (by kernel_rfl)) ?_
              go_frame
              refine ls_ex (some 79) (.int .i64 n) rfl rfl (exec_load_one 2 _ rfl w.heap.size 1 rfl (.int .i64 n) _ Try.underlying2 rfl (h0.at_ 1)) ?_
              go_frame
              refine ls_ex (some 80) (.int .i64 (d * n)) rfl rfl (exec_mul _ _ _ _ rfl d n (d * n) rfl rfl (IntWalk.i64_in _ (by omega))) ?_
              go_frame
              refine ls_ex (some 13) (.int .i64 (d * n)) rfl rfl (exec_assign _ rfl (.int .i64 (d * n)) rfl) ?_
              go_frame
              refine wpList_nil ?_
              go_upto_region 13 with (fail)
              refine wp_region_lit ?_
              refine ls_ex (some 81) (.int .i64 ((s * qs.length) + ((ad * d) * d))) rfl rfl (exec_move _ rfl (.int .i64 ((s * qs.length) + ((ad * d) * d))) rfl) ?_
              go_frame
              refine ls_ex (some 82) (.bool true) rfl rfl (exec_gtr _ _ _ _ rfl (((s * qs.length) + ((ad * d) * d))) 1000000000000000 rfl rfl true (decide_eq_true (by omega))) ?_
              go_frame
              refine wpList_nil ?_
              go_upto_region 14 with (fail)
              refine wp_region_lit ?_
              refine ls_ex (some 6) (.int .i64 0) rfl rfl (exec_assign _ rfl (.int .i64 0) rfl) ?_
              go_frame
              refine ls_ex (some 7) (.int .i64 0) rfl rfl (exec_assign _ rfl (.int .i64 0) rfl) ?_
              go_frame
              refine ls_ex (some 8) (.bool false) rfl rfl (exec_assign _ rfl (.bool false) rfl) ?_
              go_frame
              refine wpList_nil ?_
              go_wp2_with fail
              go_ret3
              exact ⟨by rw [HAc.out, HN.out]; rfl, hB⟩
          · have HN : Hid (countsO qs.length ad n L b = none) := Lib.hid (by rw [← HG.out]; exact cnO_no hlt (fun h => c1 h.1))
            go_upto_region 5 with (fail)
            refine wp_region_lit ?_
            refine ls_ex (some 43) (.int .i64 a) rfl rfl (exec_move _ rfl (.int .i64 a) rfl) ?_
            go_frame
            refine ls_ex (some 44) (.int .i64 L) rfl rfl (exec_move _ rfl (.int .i64 L) rfl) ?_
            go_frame
            refine ls_ex (some 45) (.bool true) rfl rfl (exec_lss _ _ _ _ rfl a L rfl rfl true (decide_eq_true (by omega))) ?_
            go_frame
            refine wpList_nil ?_
            go_upto_region 7 with (fail)
            refine wp_region_lit ?_
            refine ls_ex (some 48) (.int .i64 t) rfl rfl (exec_move _ rfl (.int .i64 t) rfl) ?_
            go_frame
            refine ls_ex (some 49) (.slice (some ⟨gc, 0, none⟩) 4 4) rfl rfl (exec_move _ rfl (.slice (some ⟨gc, 0, none⟩) 4 4) rfl) ?_
            go_frame
            refine ls_ex (some 50) (.pointer (some ⟨gc, 0 * 1, none⟩)) rfl rfl (exec_ix0 _ 2 _ _ rfl gc 4 4 0 1 rfl rfl Try.underlying83 (by kernel_rfl) (by omega)) ?_
            go_frame
            refine ls_ex (some 51) (.int .i64 qs.length) rfl rfl (exec_load_one 2 _ rfl gc (0 * 1) rfl (.int .i64 qs.length) _ Try.underlying2 rfl (hc4.at_ 0)) ?_
            go_frame
            refine ls_ex (some 52) (.int .i64 (t * qs.length)) rfl rfl (exec_mul _ _ _ _ rfl t qs.length (t * qs.length) rfl rfl (IntWalk.i64_in _ (by omega))) ?_
            go_frame
            refine ls_ex (some 11) (.int .i64 (t * qs.length)) rfl rfl (exec_assign _ rfl (.int .i64 (t * qs.length)) rfl) ?_
            go_frame
            refine wpList_nil ?_
            go_upto_region 8 with (fail)
            refine wp_region_lit ?_
            refine ls_ex (some 53) (.int .i64 s) rfl rfl (exec_move _ rfl (.int .i64 s) rfl) ?_
            go_frame
            refine ls_ex (some 54) (.slice (some ⟨gc, 0, none⟩) 4 4) rfl rfl (exec_move _ rfl (.slice (some ⟨gc, 0, none⟩) 4 4) rfl) ?_
            go_frame
            refine ls_ex (some 55) (.pointer (some ⟨gc, 0 * 1, none⟩)) rfl rfl (exec_ix0 _ 2 _ _ rfl gc 4 4 0 1 rfl rfl Try.underlying83 (by kernel_rfl) (by omega)) ?_
            go_frame
            refine ls_ex (some 56) (.int .i64 qs.length) rfl rfl (exec_load_one 2 _ rfl gc (0 * 1) rfl (.int .i64 qs.length) _ Try.underlying2 rfl (hc4.at_ 0)) ?_
            go_frame
            refine ls_ex (some 57) (.int .i64 (s * qs.length)) rfl rfl (exec_mul _ _ _ _ rfl s qs.length (s * qs.length) rfl rfl (IntWalk.i64_in _ (by omega))) ?_
            go_frame
            refine ls_ex (some 12) (.int .i64 (s * qs.length)) rfl rfl (exec_assign _ rfl (.int .i64 (s * qs.length)) rfl) ?_
            go_frame
            refine wpList_nil ?_
            go_upto_region 9 with (fail)
            refine wp_region_lit ?_
            refine ls_ex (some 58) (.int .i64 (t * qs.length)) rfl rfl (exec_move _ rfl (.int .i64 (t * qs.length)) rfl) ?_
            go_frame
            refine ls_ex (some 59) (.bool false) rfl rfl (exec_gtr _ _ _ _ rfl ((t * qs.length)) 1000000000000000 rfl rfl false (decide_eq_false (by omega))) ?_
            go_frame
            refine ls_ex (some 60) (.bool false) rfl rfl (exec_move _ rfl (.bool false) rfl) ?_
            go_frame
            refine ls_ex_g (some 61) (.int .i64 (s * qs.length)) rfl rfl (exec_move _ rfl (.int .i64 (s * qs.length)) rfl) ?_
            go_frame
            refine ls_ex_g (some 62) (.bool false) rfl rfl (exec_gtr _ _ _ _ rfl ((s * qs.length)) 1000000000000000 rfl rfl false (decide_eq_false (by omega))) ?_
            go_frame
            refine ls_ex (some 63) (.bool false) rfl rfl (exec_pick _ _ _ rfl false rfl (.bool false) rfl) ?_
            go_frame
            refine ls_ex (some 64) (.bool false) rfl rfl (exec_move _ rfl (.bool false) rfl) ?_
            go_frame
            refine ls_ex_g (some 65) (.int .i64 d) rfl rfl (exec_move _ rfl (.int .i64 d) rfl) ?_
            go_frame
            refine ls_ex_g (some 66) (.int .i64 d) rfl rfl (exec_move _ rfl (.int .i64 d) rfl) ?_
            go_frame
            refine ls_ex_g (some 67) (.int .i64 (d * d)) rfl rfl (exec_mul _ _ _ _ rfl d d (d * d) rfl rfl (IntWalk.i64_in _ (by omega))) ?_
            go_frame
            refine ls_ex_g (some 68) (.bool true) rfl rfl (exec_gtr _ _ _ _ rfl ((d * d)) 1000000000000000 rfl rfl true (decide_eq_true (by omega))) ?_
            go_frame
            refine ls_ex (some 69) (.bool true) rfl rfl (exec_pick _ _ _ rfl false rfl (.bool true) rfl) ?_
            go_frame
            refine wpList_nil ?_
            go_upto_region 10 with (fail)
            refine wp_region_lit ?_
            refine ls_ex (some 6) (.int .i64 0) rfl rfl (exec_assign _ rfl (.int .i64 0) rfl) ?_
            go_frame
            refine ls_ex (some 7) (.int .i64 0) rfl rfl (exec_assign _ rfl (.int .i64 0) rfl) ?_
            go_frame
            refine ls_ex (some 8) (.bool false) rfl rfl (exec_assign _ rfl (.bool false) rfl) ?_
            go_frame
            refine wpList_nil ?_
            go_wp2_with fail
            go_ret3
            exact ⟨by rw [HAc.out, HN.out]; rfl, hB⟩
        · have HN : Hid (countsO qs.length ad n L b = none) := Lib.hid (by rw [← HG.out]; exact cnO_no hlt (fun h => c3 h.2.2.1))
          go_upto_region 5 with (fail)
          refine wp_region_lit ?_
          refine ls_ex (some 43) (.int .i64 a) rfl rfl (exec_move _ rfl (.int .i64 a) rfl) ?_
          go_frame
          refine ls_ex (some 44) (.int .i64 L) rfl rfl (exec_move _ rfl (.int .i64 L) rfl) ?_
          go_frame
          refine ls_ex (some 45) (.bool true) rfl rfl (exec_lss _ _ _ _ rfl a L rfl rfl true (decide_eq_true (by omega))) ?_
          go_frame
          refine wpList_nil ?_
          go_upto_region 7 with (fail)
          refine wp_region_lit ?_
          refine ls_ex (some 48) (.int .i64 t) rfl rfl (exec_move _ rfl (.int .i64 t) rfl) ?_
          go_frame
          refine ls_ex (some 49) (.slice (some ⟨gc, 0, none⟩) 4 4) rfl rfl (exec_move _ rfl (.slice (some ⟨gc, 0, none⟩) 4 4) rfl) ?_
          go_frame
          refine ls_ex (some 50) (.pointer (some ⟨gc, 0 * 1, none⟩)) rfl rfl (exec_ix0 _ 2 _ _ rfl gc 4 4 0 1 rfl rfl Try.underlying83 (by kernel_rfl) (by omega)) ?_
          go_frame
          refine ls_ex (some 51) (.int .i64 qs.length) rfl rfl (exec_load_one 2 _ rfl gc (0 * 1) rfl (.int .i64 qs.length) _ Try.underlying2 rfl (hc4.at_ 0)) ?_
          go_frame
          refine ls_ex (some 52) (.int .i64 (t * qs.length)) rfl rfl (exec_mul _ _ _ _ rfl t qs.length (t * qs.length) rfl rfl (IntWalk.i64_in _ (by omega))) ?_
          go_frame
          refine ls_ex (some 11) (.int .i64 (t * qs.length)) rfl rfl (exec_assign _ rfl (.int .i64 (t * qs.length)) rfl) ?_
          go_frame
          refine wpList_nil ?_
          go_upto_region 8 with (fail)
          refine wp_region_lit ?_
          refine ls_ex (some 53) (.int .i64 s) rfl rfl (exec_move _ rfl (.int .i64 s) rfl) ?_
          go_frame
          refine ls_ex (some 54) (.slice (some ⟨gc, 0, none⟩) 4 4) rfl rfl (exec_move _ rfl (.slice (some ⟨gc, 0, none⟩) 4 4) rfl) ?_
          go_frame
          refine ls_ex (some 55) (.pointer (some ⟨gc, 0 * 1, none⟩)) rfl rfl (exec_ix0 _ 2 _ _ rfl gc 4 4 0 1 rfl rfl Try.underlying83 (by kernel_rfl) (by omega)) ?_
          go_frame
          refine ls_ex (some 56) (.int .i64 qs.length) rfl rfl (exec_load_one 2 _ rfl gc (0 * 1) rfl (.int .i64 qs.length) _ Try.underlying2 rfl (hc4.at_ 0)) ?_
          go_frame
          refine ls_ex (some 57) (.int .i64 (s * qs.length)) rfl rfl (exec_mul _ _ _ _ rfl s qs.length (s * qs.length) rfl rfl (IntWalk.i64_in _ (by omega))) ?_
          go_frame
          refine ls_ex (some 12) (.int .i64 (s * qs.length)) rfl rfl (exec_assign _ rfl (.int .i64 (s * qs.length)) rfl) ?_
          go_frame
          refine wpList_nil ?_
          go_upto_region 9 with (fail)
          refine wp_region_lit ?_
          refine ls_ex (some 58) (.int .i64 (t * qs.length)) rfl rfl (exec_move _ rfl (.int .i64 (t * qs.length)) rfl) ?_
          go_frame
          refine ls_ex (some 59) (.bool false) rfl rfl (exec_gtr _ _ _ _ rfl ((t * qs.length)) 1000000000000000 rfl rfl false (decide_eq_false (by omega))) ?_
          go_frame
          refine ls_ex (some 60) (.bool false) rfl rfl (exec_move _ rfl (.bool false) rfl) ?_
          go_frame
          refine ls_ex_g (some 61) (.int .i64 (s * qs.length)) rfl rfl (exec_move _ rfl (.int .i64 (s * qs.length)) rfl) ?_
          go_frame
          refine ls_ex_g (some 62) (.bool true) rfl rfl (exec_gtr _ _ _ _ rfl ((s * qs.length)) 1000000000000000 rfl rfl true (decide_eq_true (by omega))) ?_
          go_frame
          refine ls_ex (some 63) (.bool true) rfl rfl (exec_pick _ _ _ rfl false rfl (.bool true) rfl) ?_
          go_frame
          refine ls_ex (some 64) (.bool true) rfl rfl (exec_move _ rfl (.bool true) rfl) ?_
          go_frame
          refine ls_skip_g (some 65) rfl rfl ?_
          go_frame
          refine ls_skip_g (some 66) rfl rfl ?_
          go_frame
          refine ls_skip_g (some 67) rfl rfl ?_
          go_frame
          refine ls_skip_g (some 68) rfl rfl ?_
          go_frame
          refine ls_ex (some 69) (.bool true) rfl rfl (exec_pick _ _ _ rfl true rfl (.bool true) rfl) ?_
          go_frame
          refine wpList_nil ?_
          go_upto_region 10 with (fail)
          refine wp_region_lit ?_
          refine ls_ex (some 6) (.int .i64 0) rfl rfl (exec_assign _ rfl (.int .i64 0) rfl) ?_
          go_frame
          refine ls_ex (some 7) (.int .i64 0) rfl rfl (exec_assign _ rfl (.int .i64 0) rfl) ?_
          go_frame
          refine ls_ex (some 8) (.bool false) rfl rfl (exec_assign _ rfl (.bool false) rfl) ?_
          go_frame
          refine wpList_nil ?_
          go_wp2_with fail
          go_ret3
          exact ⟨by rw [HAc.out, HN.out]; rfl, hB⟩
      · have HN : Hid (countsO qs.length ad n L b = none) := Lib.hid (by rw [← HG.out]; exact cnO_no hlt (fun h => c5 h.2.2.2.2))
        go_upto_region 5 with (fail)
        refine wp_region_lit ?_
        refine ls_ex (some 43) (.int .i64 a) rfl rfl (exec_move _ rfl (.int .i64 a) rfl) ?_
        go_frame
        refine ls_ex (some 44) (.int .i64 L) rfl rfl (exec_move _ rfl (.int .i64 L) rfl) ?_
        go_frame
        refine ls_ex (some 45) (.bool true) rfl rfl (exec_lss _ _ _ _ rfl a L rfl rfl true (decide_eq_true (by omega))) ?_
        go_frame
        refine wpList_nil ?_
        go_upto_region 7 with (fail)
        refine wp_region_lit ?_
        refine ls_ex (some 48) (.int .i64 t) rfl rfl (exec_move _ rfl (.int .i64 t) rfl) ?_
        go_frame
        refine ls_ex (some 49) (.slice (some ⟨gc, 0, none⟩) 4 4) rfl rfl (exec_move _ rfl (.slice (some ⟨gc, 0, none⟩) 4 4) rfl) ?_
        go_frame
        refine ls_ex (some 50) (.pointer (some ⟨gc, 0 * 1, none⟩)) rfl rfl (exec_ix0 _ 2 _ _ rfl gc 4 4 0 1 rfl rfl Try.underlying83 (by kernel_rfl) (by omega)) ?_
        go_frame
        refine ls_ex (some 51) (.int .i64 qs.length) rfl rfl (exec_load_one 2 _ rfl gc (0 * 1) rfl (.int .i64 qs.length) _ Try.underlying2 rfl (hc4.at_ 0)) ?_
        go_frame
        refine ls_ex (some 52) (.int .i64 (t * qs.length)) rfl rfl (exec_mul _ _ _ _ rfl t qs.length (t * qs.length) rfl rfl (IntWalk.i64_in _ (by omega))) ?_
        go_frame
        refine ls_ex (some 11) (.int .i64 (t * qs.length)) rfl rfl (exec_assign _ rfl (.int .i64 (t * qs.length)) rfl) ?_
        go_frame
        refine wpList_nil ?_
        go_upto_region 8 with (fail)
        refine wp_region_lit ?_
        refine ls_ex (some 53) (.int .i64 s) rfl rfl (exec_move _ rfl (.int .i64 s) rfl) ?_
        go_frame
        refine ls_ex (some 54) (.slice (some ⟨gc, 0, none⟩) 4 4) rfl rfl (exec_move _ rfl (.slice (some ⟨gc, 0, none⟩) 4 4) rfl) ?_
        go_frame
        refine ls_ex (some 55) (.pointer (some ⟨gc, 0 * 1, none⟩)) rfl rfl (exec_ix0 _ 2 _ _ rfl gc 4 4 0 1 rfl rfl Try.underlying83 (by kernel_rfl) (by omega)) ?_
        go_frame
        refine ls_ex (some 56) (.int .i64 qs.length) rfl rfl (exec_load_one 2 _ rfl gc (0 * 1) rfl (.int .i64 qs.length) _ Try.underlying2 rfl (hc4.at_ 0)) ?_
        go_frame
        refine ls_ex (some 57) (.int .i64 (s * qs.length)) rfl rfl (exec_mul _ _ _ _ rfl s qs.length (s * qs.length) rfl rfl (IntWalk.i64_in _ (by omega))) ?_
        go_frame
        refine ls_ex (some 12) (.int .i64 (s * qs.length)) rfl rfl (exec_assign _ rfl (.int .i64 (s * qs.length)) rfl) ?_
        go_frame
        refine wpList_nil ?_
        go_upto_region 9 with (fail)
        refine wp_region_lit ?_
        refine ls_ex (some 58) (.int .i64 (t * qs.length)) rfl rfl (exec_move _ rfl (.int .i64 (t * qs.length)) rfl) ?_
        go_frame
        refine ls_ex (some 59) (.bool true) rfl rfl (exec_gtr _ _ _ _ rfl ((t * qs.length)) 1000000000000000 rfl rfl true (decide_eq_true (by omega))) ?_
        go_frame
        refine ls_ex (some 60) (.bool true) rfl rfl (exec_move _ rfl (.bool true) rfl) ?_
        go_frame
        refine ls_skip_g (some 61) rfl rfl ?_
        go_frame
        refine ls_skip_g (some 62) rfl rfl ?_
        go_frame
        refine ls_ex (some 63) (.bool true) rfl rfl (exec_pick _ _ _ rfl true rfl (.bool true) rfl) ?_
        go_frame
        refine ls_ex (some 64) (.bool true) rfl rfl (exec_move _ rfl (.bool true) rfl) ?_
        go_frame
        refine ls_skip_g (some 65) rfl rfl ?_
        go_frame
        refine ls_skip_g (some 66) rfl rfl ?_
        go_frame
        refine ls_skip_g (some 67) rfl rfl ?_
        go_frame
        refine ls_skip_g (some 68) rfl rfl ?_
        go_frame
        refine ls_ex (some 69) (.bool true) rfl rfl (exec_pick _ _ _ rfl true rfl (.bool true) rfl) ?_
        go_frame
        refine wpList_nil ?_
        go_upto_region 10 with (fail)
        refine wp_region_lit ?_
        refine ls_ex (some 6) (.int .i64 0) rfl rfl (exec_assign _ rfl (.int .i64 0) rfl) ?_
        go_frame
        refine ls_ex (some 7) (.int .i64 0) rfl rfl (exec_assign _ rfl (.int .i64 0) rfl) ?_
        go_frame
        refine ls_ex (some 8) (.bool false) rfl rfl (exec_assign _ rfl (.bool false) rfl) ?_
        go_frame
        refine wpList_nil ?_
        go_wp2_with fail
        go_ret3
        exact ⟨by rw [HAc.out, HN.out]; rfl, hB⟩
    · have HE : Hid (countsO qs.length ad n L b = some (t, s)) := Lib.hid (by rw [← HG.out, show L - a = 0 by omega]; rfl)
      go_upto_region 5 with (fail)
      refine wp_region_lit ?_
      refine ls_ex (some 43) (.int .i64 a) rfl rfl (exec_move _ rfl (.int .i64 a) rfl) ?_
      go_frame
      refine ls_ex (some 44) (.int .i64 L) rfl rfl (exec_move _ rfl (.int .i64 L) rfl) ?_
      go_frame
      refine ls_ex (some 45) (.bool false) rfl rfl (exec_lss _ _ _ _ rfl a L rfl rfl false (decide_eq_false (by omega))) ?_
      go_frame
      refine wpList_nil ?_
      go_upto_region 15 with (fail)
      refine wp_region_lit ?_
      refine ls_ex (some 83) (.int .i64 t) rfl rfl (exec_move _ rfl (.int .i64 t) rfl) ?_
      go_frame
      refine ls_ex (some 84) (.int .i64 s) rfl rfl (exec_move _ rfl (.int .i64 s) rfl) ?_
      go_frame
      refine ls_ex (some 6) (.int .i64 t) rfl rfl (exec_assign _ rfl (.int .i64 t) rfl) ?_
      go_frame
      refine ls_ex (some 7) (.int .i64 s) rfl rfl (exec_assign _ rfl (.int .i64 s) rfl) ?_
      go_frame
      refine ls_ex (some 8) (.bool true) rfl rfl (exec_assign _ rfl (.bool true) rfl) ?_
      go_frame
      refine wpList_nil ?_
      go_wp2_with fail
      go_ret3
      exact ⟨by rw [HAc.out, HE.out]; rfl, hB⟩
end Go.Proofs.Ytphccbilldfdpaa
