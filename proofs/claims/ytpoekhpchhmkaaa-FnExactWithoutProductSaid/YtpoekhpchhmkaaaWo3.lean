/-
  spec.l01Without, spec.WithoutProduct.
-/
import Derived.Test.YtpoekhpchhmkaaaWo2
namespace Go.Proofs.Ytpoekhpchhmkaaa
open Go.RowKit
set_option maxRecDepth 100000
set_option maxHeartbeats 1600000 in
theorem l01Without_c (p n m k : Int) (j : Nat) (g : Nat) (qs : List (List Nat)) (w : World) (hr : Rd w (some ⟨g, 0, none⟩) qs) (hlen : qs.length ≤ 1000) (hj : j < qs.length) :
    Calls Try.prog 39 #[.agg #[.int .i64 p, .int .i64 n, .int .i64 m, .int .i64 k, .slice (some ⟨g, 0, none⟩) qs.length qs.length], .int .i64 (j : Int)] w
      fun e w' => ∃ v, e = .returned (.agg #[.int .i64 p, .int .i64 n, .int .i64 m, .int .i64 k, v]) ∧ Own w' w.heap.size v (qs.take j ++ qs.drop (j + 1)) ∧ Below w.heap.size w w' := by
  have e1 : IntKind.i64.wrap ((j : Int) + 1) = ((j + 1 : Nat) : Int) := IntWalk.i64_in _ (by omega)
  have E1 := Lib.hid e1
  clear e1
  go_enter Try.func39, Try.ntmps39
  go_wp2_with fail
  refine (l01Empty_c p n m k _ _).mono ?_
  rintro e w3 ⟨v6, rfl, ho, b3⟩
  obtain ⟨A6, c6, hv6e, _⟩ := ho.rd (by simp)
  rw [List.length_nil] at hv6e
  subst hv6e
  have l3 := b3.size
  have h0 := At.after (al2_0 _ _ _) b3
  have h2 := At.after (al2_1 _ _ _) b3
  have hB := below_after (below2 _ _ _) b3
  have bx := below1 w3 (.cells #[.int .i64 p, .int .i64 n, .int .i64 m, .int .i64 k, .slice A6 0 c6] 31 (0, 0))
  have h6 : At (w3.alloc (.cells #[.int .i64 p, .int .i64 n, .int .i64 m, .int .i64 k, .slice A6 0 c6] 31 (0, 0))) w3.heap.size (.cells #[.int .i64 p, .int .i64 n, .int .i64 m, .int .i64 k, .slice A6 0 c6] 31 (0, 0)) := al1_0 _ _
  rw [size_al2] at ho l3
  replace ho := (ho.mono (show w.heap.size + 1 + 1 ≤ _ by omega)).below bx
  replace h0 := h0.after bx
  replace h2 := h2.after bx
  replace hB := below_after hB bx
  clear b3 bx
  go_wp2_with fail
  refine wp_region_held (S := fun w' => At w' w.heap.size (.cells #[.int .i64 p, .int .i64 n, .int .i64 m, .int .i64 k, .slice (some ⟨g, 0, none⟩) qs.length qs.length] 31 (0, 0))) (by kernel_rfl) ?_
  change wpAnyH _ _ _ _ _ _ _ _ (World.drew _)
  obtain ⟨W, hW, h0, h2, h6, hB, ho⟩ : ∃ W, W = World.drew _ ∧ At W w.heap.size _ ∧ At W (w.heap.size + 1) _ ∧ At W w3.heap.size _ ∧ Below w.heap.size w W ∧ Own W (w.heap.size + 1 + 1) (.slice A6 0 c6) [] := ⟨_, rfl, h0.drewN 1, h2.drewN 1, h6.drewN 1, hB.drew, ho.drew⟩
  rw [← hW]
  clear hW
  have l6 := h6.lt
  have hlw : w.heap.size + 1 + 1 ≤ W.heap.size := by omega
  refine held_yield 0 (some 8) (.pointer (some ⟨w3.heap.size, 4, none⟩)) rfl (by kernel_rfl) (by kernel_rfl) (by kernel_rfl) (fun _ _ _ h => h) rfl rfl h0 (fun w' _ => exec_fieldAddr 31 _ 4 rfl _ (by kernel_rfl)) ?_
  go_frame
  refine held_yield 2 (some 10) (.pointer (some ⟨w.heap.size, 4, none⟩)) rfl (by kernel_rfl) (by kernel_rfl) (by kernel_rfl) (fun _ _ _ h => h) rfl rfl h0 (fun w' _ => exec_fieldAddr 31 _ 4 rfl _ (by kernel_rfl)) ?_
  go_frame
  refine held_yield 3 (some 11) (.slice (some ⟨g, 0, none⟩) qs.length qs.length) rfl (by kernel_rfl) (by kernel_rfl) (by kernel_rfl) (fun _ _ _ h => h) rfl rfl h0 (fun w' h' => exec_load_one 29 _ rfl w.heap.size 4 rfl _ _ Try.underlying29 rfl (h'.at_ 4)) ?_
  go_frame
  refine held_yield 4 (some 12) (.int .i64 (j : Int)) rfl (by kernel_rfl) (by kernel_rfl) (by kernel_rfl) (fun _ _ _ h => h) rfl rfl h0 (fun w' _ => exec_move _ rfl (.int .i64 (j : Int)) rfl) ?_
  go_frame
  refine held_yield 5 (some 13) (.slice (some ⟨g, 0, none⟩) j qs.length) rfl (by kernel_rfl) (by kernel_rfl) (by kernel_rfl) (fun _ _ _ h => h) rfl rfl h0 (fun w' _ => exec_slice_hi _ _ rfl g qs.length j (by omega) rfl rfl) ?_
  go_frame
  refine held_yield 7 (some 15) (.pointer (some ⟨w.heap.size, 4, none⟩)) rfl (by kernel_rfl) (by kernel_rfl) (by kernel_rfl) (fun _ _ _ h => h) rfl rfl h0 (fun w' _ => exec_fieldAddr 31 _ 4 rfl _ (by kernel_rfl)) ?_
  go_frame
  refine held_yield 8 (some 16) (.slice (some ⟨g, 0, none⟩) qs.length qs.length) rfl (by kernel_rfl) (by kernel_rfl) (by kernel_rfl) (fun _ _ _ h => h) rfl rfl h0 (fun w' h' => exec_load_one 29 _ rfl w.heap.size 4 rfl _ _ Try.underlying29 rfl (h'.at_ 4)) ?_
  go_frame
  refine held_yield 9 (some 17) (.int .i64 (j : Int)) rfl (by kernel_rfl) (by kernel_rfl) (by kernel_rfl) (fun _ _ _ h => h) rfl rfl h0 (fun w' _ => exec_move _ rfl (.int .i64 (j : Int)) rfl) ?_
  go_frame
  refine held_yield 10 (some 18) (.int .i64 ((j + 1 : Nat) : Int)) rfl (by kernel_rfl) (by kernel_rfl) (by kernel_rfl) (fun _ _ _ h => h) rfl rfl h0 (fun w' _ => exec_add _ _ _ _ rfl (j : Int) 1 _ rfl rfl E1.out) ?_
  go_frame
  refine held_yield 11 (some 19) (.slice (some (loA g qs.length (j + 1))) (qs.length - (j + 1)) (qs.length - (j + 1))) rfl (by kernel_rfl) (by kernel_rfl) (by kernel_rfl) (fun _ _ _ h => h) rfl rfl h0 (fun w' _ => exec_slice_lo _ _ rfl g qs.length (j + 1) (by omega) rfl rfl) ?_
  go_frame
  refine held_exec 1 (some 9) (.slice A6 0 c6) (by kernel_rfl) rfl rfl rfl (exec_load_one 29 _ rfl w3.heap.size 4 rfl _ _ Try.underlying29 rfl (h6.at_ 4)) h0 ?_
  go_frame
  refine held_oper 6 (by kernel_rfl) rfl rfl (fun K' hK' => ?_)
  refine wp_append_rd (some 14) rfl _ _ rfl (.slice A6 0 c6) [] (qs.take j) rfl ho (some ⟨g, 0, none⟩) qs.length (by rw [List.length_take, Nat.min_eq_left (by omega)]; rfl) ((hr.keep hB).take j) (by simp) (by rw [List.length_take]; simp; omega) hlw (fun v7 w8 ho7 gr => ?_)
  replace h0 := h0.grown gr (ho.off h0 (by decide))
  replace h2 := h2.grown gr (ho.off h2 (by decide))
  replace h6 := h6.grown gr (ho.off h6 (by decide))
  replace hB := below_grown hB gr ho (by omega)
  replace hlw := Nat.le_trans hlw gr.size
  rw [List.nil_append] at ho7
  refine hK' _ _ h0 ?_
  clear hK' K' gr ho
  go_frame
  refine held_oper 12 (by kernel_rfl) rfl rfl (fun K' hK' => ?_)
  refine wp_append_rd (some 20) rfl _ _ rfl v7 (qs.take j) (qs.drop (j + 1)) rfl ho7 (some (loA g qs.length (j + 1))) (qs.length - (j + 1)) (by rw [List.length_drop]; rfl) ((hr.keep hB).dropA (j + 1)) (by simp) (by rw [List.length_take, List.length_drop]; omega) hlw (fun v8 w9 ho8 gr => ?_)
  replace h0 := h0.grown gr (ho7.off h0 (by decide))
  replace h2 := h2.grown gr (ho7.off h2 (by decide))
  replace h6 := h6.grown gr (ho7.off h6 (by decide))
  replace hB := below_grown hB gr ho7 (by omega)
  replace hlw := Nat.le_trans hlw gr.size
  refine hK' _ _ h0 ?_
  clear hK' K' gr ho7
  go_frame
  refine held_exec 13 (some 21) (.pointer (some ⟨w3.heap.size, 4, none⟩)) (by kernel_rfl) rfl rfl rfl (exec_fieldAddr 31 _ 4 rfl _ (by kernel_rfl)) h0 ?_
  go_frame
  refine held_oper 14 (by kernel_rfl) rfl rfl (fun K' hK' => ?_)
  have hv8 := ho8.shp.cells
  refine wp_store_one 29 _ _ rfl rfl w3.heap.size 4 rfl v8 rfl hv8.1 hv8.2 _ _ h6 (by kernel_rfl) (by simp) (fun w10 p10 => ?_)
  replace h0 := p10.other h0 (by omega)
  replace h2 := p10.other h2 (by omega)
  replace ho8 := ho8.put p10 (ho8.off h6 (by decide))
  replace hB := p10.below hB (by omega)
  have h6' : At w10 w3.heap.size (.cells #[.int .i64 p, .int .i64 n, .int .i64 m, .int .i64 k, v8] 31 (0, 0)) := p10.at_
  refine hK' _ _ h0 ?_
  clear hK' K' p10 h6
  refine wpAnyH_done (by kernel_rfl) ?_ _
  have hoff := ho8.off h2 (by decide)
  go_wp2_with (first | (refine wpList_load_all rfl 31 _ rfl w3.heap.size rfl _ _ _ h6' Try.underlying31 rfl 5 (by kernel_rfl) rfl ?_) | (refine wpList_store_all rfl 31 _ _ rfl rfl (w.heap.size + 1) rfl _ rfl _ _ h2 5 (by kernel_rfl) rfl rfl (by intro x hx; simp at hx; rcases hx with rfl | rfl | rfl | rfl | rfl <;> first | rfl | exact hv8.2) ?_; intro W2 p2))
  refine bodyPost_ret (results_at rfl _ _ (w.heap.size + 1) _ _ _ rfl p2.at_ Try.underlying31 rfl 5 (by kernel_rfl) rfl) rfl ?_
  exact ⟨v8, rfl, (ho8.put p2 hoff).mono (by omega), p2.below hB (by omega)⟩
set_option maxHeartbeats 1600000 in
theorem specWithoutProduct_c (p n m k i : Int) (g : Nat) (qs : List (List Nat)) (w : World) (hr : Rd w (some ⟨g, 0, none⟩) qs) (hlen : qs.length ≤ 1048576) :
    Calls Try.prog 15 #[.agg #[.int .i64 p, .int .i64 n, .int .i64 m, .int .i64 k, .slice (some ⟨g, 0, none⟩) qs.length qs.length], .int .i64 i] w
      (ResS w (woZ p n m k qs i p) (woZ p n m k qs i n) (woZ p n m k qs i m) (woZ p n m k qs i k) (woQs p n m k qs i) (woCode p n m k qs i)) := by
  cases hs : schemeB p n m k qs with
  | false =>
    have Hs := Lib.hid hs
    have Hcode : Hid (woCode p n m k qs i = 1) := Lib.hid (by simp [woCode, hs])
    clear hs
    go_enter Try.func15, Try.ntmps15
    go_wp2_with fail
    refine (l01Is_c p n m k _ _ qs _ (hr.keep (below2 _ _ _)) hlen).mono ?_
    rintro e w1 ⟨rfl, c1⟩
    have h2 := At.after (al2_1 _ _ _) c1
    have hB := below_after (below2 _ _ _) c1
    rw [Hs.out]
    clear c1
    go_wp2_with (refine wpList_store_all rfl 31 _ _ rfl rfl (w.heap.size + 1) rfl _ rfl _ _ h2 5 (by kernel_rfl) rfl rfl (by simp [Value.oneCell']) ?_; intro W2 p2)
    refine bodyPost_ret (results_at2 rfl _ _ (w.heap.size + 1) _ _ _ rfl _ rfl p2.at_ Try.underlying31 rfl 5 (by kernel_rfl) rfl) rfl ?_
    exact ⟨.slice none 0 0, by simp only [woZ, Hcode.out]; rfl, by simp only [woQs, Hcode.out]; exact Own.nil _ _, p2.below hB (by omega)⟩
  | true =>
    have Hs := Lib.hid hs
    have h30 := schemeB_len hs
    cases hix : inB i qs.length with
    | false =>
      have Hix := Lib.hid hix
      have Hcode : Hid (woCode p n m k qs i = 2) := Lib.hid (by simp [woCode, hs, hix])
      clear hs hix
      go_enter Try.func15, Try.ntmps15
      go_wp2_with fail
      refine (l01Is_c p n m k _ _ qs _ (hr.keep (below2 _ _ _)) hlen).mono ?_
      rintro e w1 ⟨rfl, c1⟩
      have h0 := At.after (al2_0 _ _ _) c1
      have h2 := At.after (al2_1 _ _ _) c1
      have hB := below_after (below2 _ _ _) c1
      have x4 : w1.cell? ⟨w.heap.size, 4, none⟩ = some (.slice (some ⟨g, 0, none⟩) qs.length qs.length) := h0.at_ 4
      rw [Hs.out]
      clear c1
      go_wp2_with fail
      refine (l01In_ix i qs.length _).mono ?_
      rintro e w2 ⟨rfl, rfl⟩
      rw [Hix.out]
      go_wp2_with (refine wpList_store_all rfl 31 _ _ rfl rfl (w.heap.size + 1) rfl _ rfl _ _ h2 5 (by kernel_rfl) rfl rfl (by simp [Value.oneCell']) ?_; intro W2 p2)
      refine bodyPost_ret (results_at2 rfl _ _ (w.heap.size + 1) _ _ _ rfl _ rfl p2.at_ Try.underlying31 rfl 5 (by kernel_rfl) rfl) rfl ?_
      exact ⟨.slice none 0 0, by simp only [woZ, Hcode.out]; rfl, by simp only [woQs, Hcode.out]; exact Own.nil _ _, p2.below hB (by omega)⟩
    | true =>
      have Hix := Lib.hid hix
      have Hcode : Hid (woCode p n m k qs i = 0) := Lib.hid (by simp [woCode, hs, hix])
      have hib : 0 ≤ i ∧ i < qs.length := by simpa [inB] using hix
      obtain ⟨j, rfl⟩ := Int.eq_ofNat_of_zero_le hib.1
      have hj : j < qs.length := by omega
      have Hq : Hid (woQs p n m k qs j = qs.take j ++ qs.drop (j + 1)) := Lib.hid (by unfold woQs; rw [Hcode.out]; rfl)
      have e1 : IntKind.i64.wrap ((j : Int) + 1) = ((j + 1 : Nat) : Int) := IntWalk.i64_in _ (by omega)
      have E1 := Lib.hid e1
      clear hs hix hib e1
      go_enter Try.func15, Try.ntmps15
      go_wp2_with fail
      refine (l01Is_c p n m k _ _ qs _ (hr.keep (below2 _ _ _)) hlen).mono ?_
      rintro e w1 ⟨rfl, c1⟩
      have h0 := At.after (al2_0 _ _ _) c1
      have h2 := At.after (al2_1 _ _ _) c1
      have hB := below_after (below2 _ _ _) c1
      have x4 : w1.cell? ⟨w.heap.size, 4, none⟩ = some (.slice (some ⟨g, 0, none⟩) qs.length qs.length) := h0.at_ 4
      rw [Hs.out]
      clear c1
      go_wp2_with fail
      refine (l01In_ix j qs.length _).mono ?_
      rintro e w2 ⟨rfl, rfl⟩
      rw [Hix.out]
      clear x4
      go_wp2_with (refine wpList_load_all rfl 31 _ rfl w.heap.size rfl _ _ _ h0 Try.underlying31 rfl 5 (by kernel_rfl) rfl ?_)
      refine (l01Without_c p n m k j g qs _ (hr.keep hB) (by omega) hj).mono ?_
      rintro e w9 ⟨v, rfl, ho, b9⟩
      have hl9 := hB.size
      replace h2 := h2.after b9
      replace hB := below_after hB b9
      replace ho := ho.mono hl9
      have hv := ho.shp.cells
      have hoff := ho.off h2 (by decide)
      clear b9
      go_wp2_with (refine wpList_store_all rfl 31 _ _ rfl rfl (w.heap.size + 1) rfl _ rfl _ _ h2 5 (by kernel_rfl) rfl rfl (by intro x hx; simp at hx; rcases hx with rfl | rfl | rfl | rfl | rfl <;> first | rfl | exact hv.2) ?_; intro W2 p2)
      refine bodyPost_ret (results_at2 rfl _ _ (w.heap.size + 1) _ _ _ rfl _ rfl p2.at_ Try.underlying31 rfl 5 (by kernel_rfl) rfl) rfl ?_
      exact ⟨v, by simp only [woZ, Hcode.out]; rfl, by rw [Hq.out]; exact ho.put p2 hoff, p2.below hB (by omega)⟩
end Go.Proofs.Ytpoekhpchhmkaaa
