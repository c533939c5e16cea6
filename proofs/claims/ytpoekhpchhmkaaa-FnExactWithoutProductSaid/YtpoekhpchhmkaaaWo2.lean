/-
  impl.WithoutProduct.
-/
import Derived.Test.YtpoekhpchhmkaaaWo1
import Derived.Test.YtpoekhpchhmkaaaLK1
namespace Go.Proofs.Ytpoekhpchhmkaaa
open Go.RowKit
set_option maxRecDepth 100000
set_option maxHeartbeats 1600000 in
theorem implWithoutProduct_c (p n m k i : Int) (g : Nat) (qs : List (List Nat)) (w : World) (hr : Rd w (some ⟨g, 0, none⟩) qs) (hlen : qs.length ≤ 1048576) :
    Calls Try.prog 16 #[.agg #[.int .i64 p, .int .i64 n, .int .i64 m, .int .i64 k, .slice (some ⟨g, 0, none⟩) qs.length qs.length], .int .i64 i] w
      (ResS w (woZ p n m k qs i p) (woZ p n m k qs i n) (woZ p n m k qs i m) (woZ p n m k qs i k) (woQs p n m k qs i) (woCode p n m k qs i)) := by
  cases hs : schemeB p n m k qs with
  | false =>
    have Hs := Lib.hid hs
    have Hcode : Hid (woCode p n m k qs i = 1) := Lib.hid (by simp [woCode, hs])
    clear hs
    go_enter Try.func16, Try.ntmps16
    go_wp2_with fail
    refine (implIsScheme_c p n m k _ _ qs _ (hr.keep (below2 _ _ _)) hlen).mono ?_
    rintro e w1 ⟨rfl, c1⟩
    have h2 := At.after (al2_1 _ _ _) c1
    have hB := below_after (below2 _ _ _) c1
    rw [Hs.out]
    clear c1
    go_wp2_with (refine wpList_store_all rfl 31 _ _ rfl rfl (w.heap.size + 1) rfl _ rfl _ _ h2 5 (by kernel_rfl) rfl rfl (by simp [Value.oneCell']) ?_; intro W2 p2)
    refine bodyPost_ret (results_at2 rfl _ _ (w.heap.size + 1) _ _ _ rfl _ rfl p2.at_ Try.underlying31 rfl 5 (by kernel_rfl) rfl) rfl ?_
    exact ⟨.slice none 0 0, by simp only [woZ, Hcode.out]; rfl, by simp only [woQs, Hcode.out]; exact Own.nil _ _, p2.below hB (by omega)⟩
  | true =>
    have Hs := Lib.hid hs
    have h30 := schemeB_len hs
    cases hix : inB i qs.length with
    | false =>
      have Hix := Lib.hid hix
      have Hcode : Hid (woCode p n m k qs i = 2) := Lib.hid (by simp [woCode, hs, hix])
      clear hs hix
      go_enter Try.func16, Try.ntmps16
      go_wp2_with fail
      refine (implIsScheme_c p n m k _ _ qs _ (hr.keep (below2 _ _ _)) hlen).mono ?_
      rintro e w1 ⟨rfl, c1⟩
      have h0 := At.after (al2_0 _ _ _) c1
      have h2 := At.after (al2_1 _ _ _) c1
      have hB := below_after (below2 _ _ _) c1
      have x4 : w1.cell? ⟨w.heap.size, 4, none⟩ = some (.slice (some ⟨g, 0, none⟩) qs.length qs.length) := h0.at_ 4
      rw [Hs.out]
      clear c1
      go_wp2_with fail
      refine (isIndex_c i qs.length _).mono ?_
      rintro e w2 ⟨rfl, rfl⟩
      rw [Hix.out]
      go_wp2_with (refine wpList_store_all rfl 31 _ _ rfl rfl (w.heap.size + 1) rfl _ rfl _ _ h2 5 (by kernel_rfl) rfl rfl (by simp [Value.oneCell']) ?_; intro W2 p2)
      refine bodyPost_ret (results_at2 rfl _ _ (w.heap.size + 1) _ _ _ rfl _ rfl p2.at_ Try.underlying31 rfl 5 (by kernel_rfl) rfl) rfl ?_
      exact ⟨.slice none 0 0, by simp only [woZ, Hcode.out]; rfl, by simp only [woQs, Hcode.out]; exact Own.nil _ _, p2.below hB (by omega)⟩
    | true =>
      have Hix := Lib.hid hix
      have Hcode : Hid (woCode p n m k qs i = 0) := Lib.hid (by simp [woCode, hs, hix])
      have hib : 0 ≤ i ∧ i < qs.length := by simpa [inB] using hix
      obtain ⟨j, rfl⟩ := Int.eq_ofNat_of_zero_le hib.1
      have hj : j < qs.length := by omega
      have Hq : Hid (woQs p n m k qs j = qs.take j ++ qs.drop (j + 1)) := Lib.hid (by unfold woQs; rw [Hcode.out]; rfl)
      have e1 : IntKind.i64.wrap ((j : Int) + 1) = ((j + 1 : Nat) : Int) := IntWalk.i64_in _ (by omega)
      have E1 := Lib.hid e1
      clear hs hix hib e1
      go_enter Try.func16, Try.ntmps16
      go_wp2_with fail
      refine (implIsScheme_c p n m k _ _ qs _ (hr.keep (below2 _ _ _)) hlen).mono ?_
      rintro e w1 ⟨rfl, c1⟩
      have h0 := At.after (al2_0 _ _ _) c1
      have h2 := At.after (al2_1 _ _ _) c1
      have hB := below_after (below2 _ _ _) c1
      have x4 : w1.cell? ⟨w.heap.size, 4, none⟩ = some (.slice (some ⟨g, 0, none⟩) qs.length qs.length) := h0.at_ 4
      rw [Hs.out]
      clear c1
      go_wp2_with fail
      refine (isIndex_c j qs.length _).mono ?_
      rintro e w2 ⟨rfl, rfl⟩
      rw [Hix.out]
      clear x4
      go_wp2_with fail
      refine wp_region_held (S := fun w' => At w' w.heap.size (.cells #[.int .i64 p, .int .i64 n, .int .i64 m, .int .i64 k, .slice (some ⟨g, 0, none⟩) qs.length qs.length] 31 (0, 0))) (by kernel_rfl) ?_
      change wpAnyH _ _ _ _ _ _ _ _ (World.drew _)
      obtain ⟨W, hW, h0, h2, hB⟩ : ∃ W, W = World.drew _ ∧ At W w.heap.size _ ∧ At W (w.heap.size + 1) _ ∧ Below w.heap.size w W := ⟨_, rfl, h0.drewN 1, h2.drewN 1, hB.drew⟩
      rw [← hW]
      clear hW
      refine held_yield 0 (some 17) (.agg #[.int .i64 p, .int .i64 n, .int .i64 m, .int .i64 k, .slice (some ⟨g, 0, none⟩) qs.length qs.length]) rfl (by kernel_rfl) (by kernel_rfl) (by kernel_rfl) (fun _ _ _ h => h) rfl rfl h0 (fun w' h' => exec_load_all 31 _ rfl w.heap.size rfl _ _ _ h' Try.underlying31 rfl 5 (by kernel_rfl) rfl) ?_
      go_frame
      refine held_yield 1 (some 18) (.pointer (some ⟨w.heap.size, 4, none⟩)) rfl (by kernel_rfl) (by kernel_rfl) (by kernel_rfl) (fun _ _ _ h => h) rfl rfl h0 (fun w' _ => exec_fieldAddr 31 _ 4 rfl _ (by kernel_rfl)) ?_
      go_frame
      refine held_yield 2 (some 19) (.slice (some ⟨g, 0, none⟩) qs.length qs.length) rfl (by kernel_rfl) (by kernel_rfl) (by kernel_rfl) (fun _ _ _ h => h) rfl rfl h0 (fun w' h' => exec_load_one 29 _ rfl w.heap.size 4 rfl _ _ Try.underlying29 rfl (h'.at_ 4)) ?_
      go_frame
      refine held_yield 3 (some 20) (.int .i64 (j : Int)) rfl (by kernel_rfl) (by kernel_rfl) (by kernel_rfl) (fun _ _ _ h => h) rfl rfl h0 (fun w' _ => exec_move _ rfl (.int .i64 (j : Int)) rfl) ?_
      go_frame
      refine held_yield 4 (some 21) (.slice (some ⟨g, 0, none⟩) j qs.length) rfl (by kernel_rfl) (by kernel_rfl) (by kernel_rfl) (fun _ _ _ h => h) rfl rfl h0 (fun w' _ => exec_slice_hi _ _ rfl g qs.length j (by omega) rfl rfl) ?_
      go_frame
      refine held_yield 5 (some 22) (.pointer (some ⟨w.heap.size, 4, none⟩)) rfl (by kernel_rfl) (by kernel_rfl) (by kernel_rfl) (fun _ _ _ h => h) rfl rfl h0 (fun w' _ => exec_fieldAddr 31 _ 4 rfl _ (by kernel_rfl)) ?_
      go_frame
      refine held_yield 6 (some 23) (.slice (some ⟨g, 0, none⟩) qs.length qs.length) rfl (by kernel_rfl) (by kernel_rfl) (by kernel_rfl) (fun _ _ _ h => h) rfl rfl h0 (fun w' h' => exec_load_one 29 _ rfl w.heap.size 4 rfl _ _ Try.underlying29 rfl (h'.at_ 4)) ?_
      go_frame
      refine held_yield 7 (some 24) (.int .i64 (j : Int)) rfl (by kernel_rfl) (by kernel_rfl) (by kernel_rfl) (fun _ _ _ h => h) rfl rfl h0 (fun w' _ => exec_move _ rfl (.int .i64 (j : Int)) rfl) ?_
      go_frame
      refine held_yield 8 (some 25) (.int .i64 ((j + 1 : Nat) : Int)) rfl (by kernel_rfl) (by kernel_rfl) (by kernel_rfl) (fun _ _ _ h => h) rfl rfl h0 (fun w' _ => exec_add _ _ _ _ rfl (j : Int) 1 _ rfl rfl E1.out) ?_
      go_frame
      refine held_yield 9 (some 26) (.slice (some (loA g qs.length (j + 1))) (qs.length - (j + 1)) (qs.length - (j + 1))) rfl (by kernel_rfl) (by kernel_rfl) (by kernel_rfl) (fun _ _ _ h => h) rfl rfl h0 (fun w' _ => exec_slice_lo _ _ rfl g qs.length (j + 1) (by omega) rfl rfl) ?_
      go_frame
      refine held_oper 10 (by kernel_rfl) rfl rfl (fun K' hK' => ?_)
      refine wp_exec (some 27) rfl (.slice (some ⟨W.heap.size, 0, none⟩) 2 2) (exec_buildSlice2 _ _ rfl (some ⟨g, 0, none⟩) (some (loA g qs.length (j + 1))) j (qs.length - (j + 1)) qs.length (qs.length - (j + 1)) rfl rfl) ?_
      have n7 := New.alloc W (.cells #[.slice (some ⟨g, 0, none⟩) j qs.length, .slice (some (loA g qs.length (j + 1))) (qs.length - (j + 1)) (qs.length - (j + 1))] 29 (0, 0))
      have b7 := n7.below (Below.refl _ _) (Nat.le_refl _)
      replace h0 := h0.after b7
      replace h2 := h2.after b7
      have h7 := n7.at_
      replace hB := below_after hB b7
      refine hK' _ _ h0 ?_
      clear hK' K' b7
      go_frame
      refine held_oper 11 (by kernel_rfl) rfl rfl (fun K' hK' => ?_)
      have hwith := withProducts2_c p n m k (.slice (some ⟨g, 0, none⟩) qs.length qs.length) rfl W.heap.size (some ⟨g, 0, none⟩) (some (loA g qs.length (j + 1))) qs.length (qs.length - (j + 1)) (qs.take j) (qs.drop (j + 1)) _ (by rw [List.length_take, List.length_drop, Nat.min_eq_left (by omega)]; exact h7) ((hr.keep hB).take j) (by simp) ((hr.keep hB).dropA (j + 1)) (by simp) (by rw [List.length_take, List.length_drop]; omega)
      refine wp_call2 (some 28) rfl 34 _ _ _ rfl call_with _ _ rfl rfl _ hwith (fun e w9 h => ?_)
      obtain ⟨v, rfl, ho, b9⟩ := h
      have hl9 := hB.size
      replace h0 := h0.after b9
      replace h2 := h2.after b9
      replace hB := below_after hB b9
      replace ho := ho.mono hl9
      have hv := ho.shp.cells
      have hoff := ho.off h2 (by decide)
      refine ⟨_, rfl, hK' _ _ h0 ?_⟩
      clear hK' K' b9 h7 n7 hwith
      go_frame
      refine held_oper 12 (by kernel_rfl) rfl rfl (fun K' hK' => ?_)
      refine wp_store_all 31 _ _ rfl rfl (w.heap.size + 1) rfl _ rfl _ _ h2 5 (by kernel_rfl) rfl rfl (by intro x hx; simp at hx; rcases hx with rfl | rfl | rfl | rfl | rfl <;> first | rfl | exact hv.2) (fun w10 p10 => ?_)
      replace h0 := p10.other h0 (by omega)
      replace ho := ho.put p10 hoff
      replace hB := p10.below hB (by omega)
      replace h2 := p10.at_
      refine hK' _ _ h0 ?_
      clear hK' K' p10
      refine held_exec 13 (some 5) (.int .i64 0) (by kernel_rfl) rfl rfl rfl (exec_assign _ rfl (.int .i64 0) rfl) h0 ?_
      go_frame
      refine wpAnyH_done (by kernel_rfl) ?_ _
      go_wp2_with fail
      refine bodyPost_ret (results_at2 rfl _ _ (w.heap.size + 1) _ _ _ rfl _ rfl h2 Try.underlying31 rfl 5 (by kernel_rfl) rfl) rfl ?_
      exact ⟨v, by simp only [woZ, Hcode.out]; rfl, by rw [Hq.out]; exact ho, hB⟩
end Go.Proofs.Ytpoekhpchhmkaaa
