/-
  spec.AddProduct.
-/
import Derived.Test.YtpoekhpchhmkaaaAdd2
namespace Go.Proofs.Ytpoekhpchhmkaaa
open Go.RowKit
set_option maxRecDepth 100000
theorem Rd.grown {w w' : World} {g : Nat} {rs : List (List Nat)} {r : Option Nat} (h : Rd w (some ⟨g, 0, none⟩) rs) (hb : w.grownBy w' r) (hne : some g ≠ r) : Rd w' (some ⟨g, 0, none⟩) rs := by
  refine ⟨h.1, ?_⟩
  rcases h.2 with h0 | ⟨b, off, hA, hc⟩
  · exact .inl h0
  · refine .inr ⟨b, off, hA, fun i q hi j hj => hb.cell (hc i q hi j hj) ?_⟩
    simp only [Option.some.injEq, Addr.mk.injEq] at hA
    rw [← hA.1]
    exact hne
set_option maxHeartbeats 1600000 in
theorem specAddProduct_c (p n m k : Int) (A : Option Addr) (cap : Nat) (qs : List (List Nat)) (q : List Nat) (w : World) (hr : Rd w A qs) (hlen : qs.length ≤ 1048576) (hc : A = none → cap = 0) (hq : Bytes 27 q) :
    Calls Try.prog 8 #[.agg #[.int .i64 p, .int .i64 n, .int .i64 m, .int .i64 k, .slice A qs.length cap], .agg (u8s q)] w
      (ResS w (addZ p n m k qs q p) (addZ p n m k qs q n) (addZ p n m k qs q m) (addZ p n m k qs q k) (addQs p n m k qs q) (addCode p n m k qs q)) := by
  have HC := Lib.hid hc
  clear hc
  cases hs : schemeB p n m k qs with
  | false =>
    have Hs := Lib.hid hs
    have Hcode : Hid (addCode p n m k qs q = 1) := Lib.hid (by simp [addCode, hs])
    clear hs
    go_enter Try.func8, Try.ntmps8
    go_wp2_with (first | (refine wpList_abs3 ?_; intro W hsz hB h0 h1 h2) | (refine wpList_load_all rfl 31 _ rfl w.heap.size rfl _ _ _ h0 Try.underlying31 rfl 5 (by kernel_rfl) rfl ?_))
    refine (l01Is_c p n m k A cap qs _ (hr.keep hB) hlen).mono ?_
    rintro e w1 ⟨rfl, c1⟩
    replace h2 := h2.after c1
    replace hB := below_after hB c1
    rw [Hs.out]
    clear c1 hsz h0 h1
    go_wp2_with (refine wpList_store_all rfl 31 _ _ rfl rfl (w.heap.size + 1 + 1) rfl _ rfl _ _ h2 5 (by kernel_rfl) rfl rfl (by simp [Value.oneCell']) ?_; intro W2 p2)
    refine bodyPost_ret (results_at2 rfl _ _ (w.heap.size + 1 + 1) _ _ _ rfl _ rfl p2.at_ Try.underlying31 rfl 5 (by kernel_rfl) rfl) rfl ?_
    exact ⟨.slice none 0 0, by simp only [addZ, Hcode.out]; rfl, by simp only [addQs, Hcode.out]; exact Own.nil _ _, p2.below hB (by omega)⟩
  | true =>
    have Hs := Lib.hid hs
    have Hp := Lib.hid (sizesB_parts (schemeB_sizes hs))
    have h30 := schemeB_len hs
    cases hpr : prodB p n m k q with
    | false =>
      have Hpr := Lib.hid hpr
      have Hcode : Hid (addCode p n m k qs q = 1) := Lib.hid (by simp [addCode, hs, hpr])
      clear hs hpr
      go_enter Try.func8, Try.ntmps8
      go_wp2_with (first | (refine wpList_abs3 ?_; intro W hsz hB h0 h1 h2) | (refine wpList_load_all rfl 31 _ rfl w.heap.size rfl _ _ _ h0 Try.underlying31 rfl 5 (by kernel_rfl) rfl ?_))
      refine (l01Is_c p n m k A cap qs _ (hr.keep hB) hlen).mono ?_
      rintro e w1 ⟨rfl, c1⟩
      replace h0 := h0.after c1
      replace h1 := h1.after c1
      replace h2 := h2.after c1
      replace hB := below_after hB c1
      rw [Hs.out]
      clear c1 hsz
      go_wp2_with (first | (refine wpList_want_exec rfl (exec_load_all 31 _ rfl w.heap.size rfl _ _ _ h0 Try.underlying31 rfl 5 (by kernel_rfl) rfl) ?_) | (refine wpList_want_exec rfl (exec_load_all 37 _ rfl (w.heap.size + 1) rfl _ _ _ h1 Try.underlying37 rfl 27 (by kernel_rfl) ((u8s_size _).trans hq.len)) ?_))
      refine (l01Product_c p n m k _ q hq Hp.out.2.1 Hp.out.2.2.1 Hp.out.2.2.2 _).mono ?_
      rintro e w2 ⟨rfl, c1⟩
      replace h2 := h2.after c1
      replace hB := below_after hB c1
      rw [Hpr.out]
      clear c1 h0 h1
      go_wp2_with (refine wpList_store_all rfl 31 _ _ rfl rfl (w.heap.size + 1 + 1) rfl _ rfl _ _ h2 5 (by kernel_rfl) rfl rfl (by simp [Value.oneCell']) ?_; intro W2 p2)
      refine bodyPost_ret (results_at2 rfl _ _ (w.heap.size + 1 + 1) _ _ _ rfl _ rfl p2.at_ Try.underlying31 rfl 5 (by kernel_rfl) rfl) rfl ?_
      exact ⟨.slice none 0 0, by simp only [addZ, Hcode.out]; rfl, by simp only [addQs, Hcode.out]; exact Own.nil _ _, p2.below hB (by omega)⟩
    | true =>
      have Hpr := Lib.hid hpr
      by_cases hl : qs.length = 30
      · have hl' : ((qs.length : Int) == 30) = true := by simp; omega
        have Hcode : Hid (addCode p n m k qs q = 3) := Lib.hid (by simp [addCode, hs, hpr, hl])
        clear hs hpr hl
        go_enter Try.func8, Try.ntmps8
        go_wp2_with (first | (refine wpList_abs3 ?_; intro W hsz hB h0 h1 h2) | (refine wpList_load_all rfl 31 _ rfl w.heap.size rfl _ _ _ h0 Try.underlying31 rfl 5 (by kernel_rfl) rfl ?_))
        refine (l01Is_c p n m k A cap qs _ (hr.keep hB) hlen).mono ?_
        rintro e w1 ⟨rfl, c1⟩
        replace h0 := h0.after c1
        replace h1 := h1.after c1
        replace h2 := h2.after c1
        replace hB := below_after hB c1
        rw [Hs.out]
        clear c1 hsz
        go_wp2_with (first | (refine wpList_want_exec rfl (exec_load_all 31 _ rfl w.heap.size rfl _ _ _ h0 Try.underlying31 rfl 5 (by kernel_rfl) rfl) ?_) | (refine wpList_want_exec rfl (exec_load_all 37 _ rfl (w.heap.size + 1) rfl _ _ _ h1 Try.underlying37 rfl 27 (by kernel_rfl) ((u8s_size _).trans hq.len)) ?_))
        refine (l01Product_c p n m k _ q hq Hp.out.2.1 Hp.out.2.2.1 Hp.out.2.2.2 _).mono ?_
        rintro e w2 ⟨rfl, c1⟩
        replace h0 := h0.after c1
        replace h2 := h2.after c1
        replace hB := below_after hB c1
        rw [Hpr.out]
        clear c1 h1
        have x4 : w2.cell? ⟨w.heap.size, 4, none⟩ = some (.slice A qs.length cap) := h0.at_ 4
        go_wp2_with (refine wpList_store_all rfl 31 _ _ rfl rfl (w.heap.size + 1 + 1) rfl _ rfl _ _ h2 5 (by kernel_rfl) rfl rfl (by simp [Value.oneCell']) ?_; intro W2 p2)
        refine bodyPost_ret (results_at2 rfl _ _ (w.heap.size + 1 + 1) _ _ _ rfl _ rfl p2.at_ Try.underlying31 rfl 5 (by kernel_rfl) rfl) rfl ?_
        exact ⟨.slice none 0 0, by simp only [addZ, Hcode.out]; rfl, by simp only [addQs, Hcode.out]; exact Own.nil _ _, p2.below hB (by omega)⟩
      · have hl' : ((qs.length : Int) == 30) = false := by simp; omega
        have Hcode : Hid (addCode p n m k qs q = 0) := Lib.hid (by simp [addCode, hs, hpr, hl])
        clear hs hpr hl
        go_enter Try.func8, Try.ntmps8
        go_wp2_with (first | (refine wpList_abs3 ?_; intro W hsz hB h0 h1 h2) | (refine wpList_load_all rfl 31 _ rfl w.heap.size rfl _ _ _ h0 Try.underlying31 rfl 5 (by kernel_rfl) rfl ?_))
        refine (l01Is_c p n m k A cap qs _ (hr.keep hB) hlen).mono ?_
        rintro e w1 ⟨rfl, c1⟩
        replace h0 := h0.after c1
        replace h1 := h1.after c1
        replace h2 := h2.after c1
        replace hB := below_after hB c1
        rw [Hs.out]
        clear c1 hsz
        go_wp2_with (first | (refine wpList_want_exec rfl (exec_load_all 31 _ rfl w.heap.size rfl _ _ _ h0 Try.underlying31 rfl 5 (by kernel_rfl) rfl) ?_) | (refine wpList_want_exec rfl (exec_load_all 37 _ rfl (w.heap.size + 1) rfl _ _ _ h1 Try.underlying37 rfl 27 (by kernel_rfl) ((u8s_size _).trans hq.len)) ?_))
        refine (l01Product_c p n m k _ q hq Hp.out.2.1 Hp.out.2.2.1 Hp.out.2.2.2 _).mono ?_
        rintro e w2 ⟨rfl, c1⟩
        replace h0 := h0.after c1
        replace h1 := h1.after c1
        replace h2 := h2.after c1
        replace hB := below_after hB c1
        rw [Hpr.out]
        clear c1
        have x4 : w2.cell? ⟨w.heap.size, 4, none⟩ = some (.slice A qs.length cap) := h0.at_ 4
        have hsz2 := hB.size
        have hg2 := h2.lt
        go_wp2_with (refine wpList_load_all rfl 31 _ rfl w.heap.size rfl _ _ _ h0 Try.underlying31 rfl 5 (by kernel_rfl) rfl ?_)
        refine (l01Empty_c p n m k _ _).mono ?_
        rintro e w3 ⟨v6, rfl, ho, b3⟩
        obtain ⟨A6, c6, hv6e, _⟩ := ho.rd (by simp)
        rw [List.length_nil] at hv6e
        subst hv6e
        have hlo : w.heap.size + 1 + 1 < w2.heap.size := hg2
        replace h0 := (h0.after b3).after (below1 w3 (.cells #[.int .i64 p, .int .i64 n, .int .i64 m, .int .i64 k, .slice A6 0 c6] 31 (0, 0)))
        replace h1 := (h1.after b3).after (below1 w3 (.cells #[.int .i64 p, .int .i64 n, .int .i64 m, .int .i64 k, .slice A6 0 c6] 31 (0, 0)))
        replace h2 := (h2.after b3).after (below1 w3 (.cells #[.int .i64 p, .int .i64 n, .int .i64 m, .int .i64 k, .slice A6 0 c6] 31 (0, 0)))
        replace hB := below_after (below_after hB b3) (below1 w3 (.cells #[.int .i64 p, .int .i64 n, .int .i64 m, .int .i64 k, .slice A6 0 c6] 31 (0, 0)))
        have h6 := al1_0 w3 (.cells #[.int .i64 p, .int .i64 n, .int .i64 m, .int .i64 k, .slice A6 0 c6] 31 (0, 0))
        have hv6 := ho.shp.cells
        have l3 : w2.heap.size ≤ w3.heap.size := b3.size
        replace ho := ho.below (below1 w3 (.cells #[.int .i64 p, .int .i64 n, .int .i64 m, .int .i64 k, .slice A6 0 c6] 31 (0, 0)))
        clear b3 x4
        go_wp2_with fail
        refine wp_region_held (S := fun w' => At w' w.heap.size (.cells #[.int .i64 p, .int .i64 n, .int .i64 m, .int .i64 k, .slice A qs.length cap] 31 (0, 0)) ∧ At w' (w.heap.size + 1) (.cells (u8s q) 37 (0, 0))) (by kernel_rfl) ?_
        obtain ⟨W, hW, h0, h1, h2, h6, hB, ho⟩ : ∃ W, W = (w3.alloc (.cells #[.int .i64 p, .int .i64 n, .int .i64 m, .int .i64 k, .slice A6 0 c6] 31 (0, 0))).drew ∧ At W w.heap.size _ ∧ At W (w.heap.size + 1) _ ∧ At W (w.heap.size + 1 + 1) _ ∧ At W w3.heap.size _ ∧ Below w.heap.size w W ∧ Own W w2.heap.size (.slice A6 0 c6) [] := ⟨_, rfl, h0, h1, h2, h6, hB.drew, ho⟩
        change wpAnyH _ _ _ _ _ _ _ _ (World.drew _)
        rw [← hW]
        clear hW
        have l6 := h6.lt
        refine held_yield 0 (some 26) (.pointer (some ⟨w3.heap.size, 4, none⟩)) rfl (by kernel_rfl) (by kernel_rfl) (by kernel_rfl) (fun _ _ _ h => h) rfl rfl ⟨h0, h1⟩ (fun w' _ => exec_fieldAddr 31 _ 4 rfl _ (by kernel_rfl)) ?_
        go_frame
        refine held_yield 2 (some 28) (.pointer (some ⟨w.heap.size, 4, none⟩)) rfl (by kernel_rfl) (by kernel_rfl) (by kernel_rfl) (fun _ _ _ h => h) rfl rfl ⟨h0, h1⟩ (fun w' _ => exec_fieldAddr 31 _ 4 rfl _ (by kernel_rfl)) ?_
        go_frame
        refine held_yield 3 (some 29) (.slice A qs.length cap) rfl (by kernel_rfl) (by kernel_rfl) (by kernel_rfl) (fun _ _ _ h => h) rfl rfl ⟨h0, h1⟩ (fun w' h' => exec_load_one 29 _ rfl w.heap.size 4 rfl _ _ Try.underlying29 rfl (h'.1.at_ 4)) ?_
        go_frame
        refine held_yield 5 (some 31) (.agg (u8s q)) rfl (by kernel_rfl) (by kernel_rfl) (by kernel_rfl) (fun _ _ _ h => h) rfl rfl ⟨h0, h1⟩ (fun w' h' => exec_load_all 37 _ rfl (w.heap.size + 1) rfl _ _ _ h'.2 Try.underlying37 rfl 27 (by kernel_rfl) ((u8s_size _).trans hq.len)) ?_
        go_frame
        have hlw : w2.heap.size ≤ W.heap.size := by omega
        refine held_two 1 6 (by kernel_rfl) rfl rfl rfl rfl (fun K' hK' => ?_) (fun K' hK' => ?_)
        · refine wp_exec (some 27) rfl (.slice A6 0 c6) (exec_load_one 29 _ rfl w3.heap.size 4 rfl _ _ Try.underlying29 rfl (h6.at_ 4)) (hK' _ _ ⟨h0, h1⟩ ?_)
          clear hK' K'
          go_frame
          refine held_two 4 6 (by kernel_rfl) rfl rfl rfl rfl (fun K' hK' => ?_) (fun K' hK' => ?_)
          · refine wp_append_rd (some 30) rfl _ _ rfl (.slice A6 0 c6) [] qs rfl ho A cap rfl (hr.keep hB) HC.out (by simp; omega) hlw (fun v7 w8 ho7 gr => ?_)
            replace h0 := h0.grown gr (ho.off_lt (by omega))
            replace h1 := h1.grown gr (ho.off_lt (by omega))
            replace h2 := h2.grown gr (ho.off_lt (by omega))
            replace h6 := h6.grown gr (ho.off h6 (by decide))
            replace hB := below_grown hB gr ho (by omega)
            replace hlw := Nat.le_trans hlw gr.size
            rw [List.nil_append] at ho7
            refine hK' _ _ ⟨h0, h1⟩ ?_
            clear hK' K' gr ho
            go_frame
            refine held_oper 6 (by kernel_rfl) rfl rfl (fun K' hK' => ?_)
            refine wp_slice1 (some 32) rfl 29 37 _ rfl q rfl Try.underlying29 infoProd hq.len (fun W7 n7 => ?_)
            have nq := ho7.away_new
            have hRq := Rd.of_at (qs := [q]) (t := 37) (by simpa using n7.at_) (by simpa using hq)
            have b7 := n7.below (Below.refl _ _) (Nat.le_refl _)
            replace h0 := h0.after b7
            replace h1 := h1.after b7
            replace h2 := h2.after b7
            replace h6 := h6.after b7
            replace hB := below_after hB b7
            replace ho7 := ho7.below b7
            replace hlw := Nat.le_trans hlw b7.size
            refine hK' _ _ ⟨h0, h1⟩ ?_
            clear hK' K' b7 n7
            go_frame
            refine held_oper 7 (by kernel_rfl) rfl rfl (fun K' hK' => ?_)
            refine wp_append_rd (some 33) rfl _ _ rfl v7 qs [q] rfl ho7 (some ⟨_, 0, none⟩) 1 rfl hRq (by simp) (by simp; omega) hlw (fun v8 w9 ho8 gr => ?_)
            replace h0 := h0.grown gr (ho7.off_lt (by omega))
            replace h1 := h1.grown gr (ho7.off_lt (by omega))
            replace h2 := h2.grown gr (ho7.off_lt (by omega))
            replace h6 := h6.grown gr (ho7.off h6 (by decide))
            replace hB := below_grown hB gr ho7 (by omega)
            replace hlw := Nat.le_trans hlw gr.size
            refine hK' _ _ ⟨h0, h1⟩ ?_
            clear hK' K' gr hRq
            go_frame
            refine held_exec 8 (some 34) (.pointer (some ⟨w3.heap.size, 4, none⟩)) (by kernel_rfl) rfl rfl rfl (exec_fieldAddr 31 _ 4 rfl _ (by kernel_rfl)) ⟨h0, h1⟩ ?_
            go_frame
            refine held_oper 9 (by kernel_rfl) rfl rfl (fun K' hK' => ?_)
            have hv8 := ho8.shp.cells
            refine wp_store_one 29 _ _ rfl rfl w3.heap.size 4 rfl v8 rfl hv8.1 hv8.2 _ _ h6 (by kernel_rfl) (by simp) (fun w10 p10 => ?_)
            replace h0 := p10.other h0 (by omega)
            replace h1 := p10.other h1 (by omega)
            replace h2 := p10.other h2 (by omega)
            replace ho8 := ho8.put p10 (ho8.off h6 (by decide))
            replace hB := p10.below hB (by omega)
            have h6' : At w10 w3.heap.size (.cells #[.int .i64 p, .int .i64 n, .int .i64 m, .int .i64 k, v8] 31 (0, 0)) := p10.at_
            refine hK' _ _ ⟨h0, h1⟩ ?_
            clear hK' K' p10 h6
            refine wpAnyH_done (by kernel_rfl) ?_ _
            have hoff := ho8.off h2 (by decide)
            go_wp2_with (first | (refine wpList_load_all rfl 31 _ rfl w3.heap.size rfl _ _ _ h6' Try.underlying31 rfl 5 (by kernel_rfl) rfl ?_) | (refine wpList_store_all rfl 31 _ _ rfl rfl (w.heap.size + 1 + 1) rfl _ rfl _ _ h2 5 (by kernel_rfl) rfl rfl (by intro x hx; simp at hx; rcases hx with rfl | rfl | rfl | rfl | rfl <;> first | rfl | exact hv8.2) ?_; intro W2 p2))
            refine bodyPost_ret (results_at2 rfl _ _ (w.heap.size + 1 + 1) _ _ _ rfl _ rfl p2.at_ Try.underlying31 rfl 5 (by kernel_rfl) rfl) rfl ?_
            exact ⟨v8, by simp only [addZ, Hcode.out]; rfl, by simp only [addQs, Hcode.out]; exact (ho8.put p2 hoff).mono (by omega), p2.below hB (by omega)⟩
          · refine wp_slice1 (some 32) rfl 29 37 _ rfl q rfl Try.underlying29 infoProd hq.len (fun W7 n7 => ?_)
            have nq := ho.away_new
            have hRq := Rd.of_at (qs := [q]) (t := 37) (by simpa using n7.at_) (by simpa using hq)
            have b7 := n7.below (Below.refl _ _) (Nat.le_refl _)
            replace h0 := h0.after b7
            replace h1 := h1.after b7
            replace h2 := h2.after b7
            replace h6 := h6.after b7
            replace hB := below_after hB b7
            replace ho := ho.below b7
            replace hlw := Nat.le_trans hlw b7.size
            refine hK' _ _ ⟨h0, h1⟩ ?_
            clear hK' K' b7 n7
            go_frame
            refine held_oper 4 (by kernel_rfl) rfl rfl (fun K' hK' => ?_)
            refine wp_append_rd (some 30) rfl _ _ rfl (.slice A6 0 c6) [] qs rfl ho A cap rfl (hr.keep hB) HC.out (by simp; omega) hlw (fun v7 w8 ho7 gr => ?_)
            replace hRq := Rd.grown hRq gr nq
            replace h0 := h0.grown gr (ho.off_lt (by omega))
            replace h1 := h1.grown gr (ho.off_lt (by omega))
            replace h2 := h2.grown gr (ho.off_lt (by omega))
            replace h6 := h6.grown gr (ho.off h6 (by decide))
            replace hB := below_grown hB gr ho (by omega)
            replace hlw := Nat.le_trans hlw gr.size
            rw [List.nil_append] at ho7
            refine hK' _ _ ⟨h0, h1⟩ ?_
            clear hK' K' gr ho
            go_frame
            refine held_oper 7 (by kernel_rfl) rfl rfl (fun K' hK' => ?_)
            refine wp_append_rd (some 33) rfl _ _ rfl v7 qs [q] rfl ho7 (some ⟨_, 0, none⟩) 1 rfl hRq (by simp) (by simp; omega) hlw (fun v8 w9 ho8 gr => ?_)
            replace h0 := h0.grown gr (ho7.off_lt (by omega))
            replace h1 := h1.grown gr (ho7.off_lt (by omega))
            replace h2 := h2.grown gr (ho7.off_lt (by omega))
            replace h6 := h6.grown gr (ho7.off h6 (by decide))
            replace hB := below_grown hB gr ho7 (by omega)
            replace hlw := Nat.le_trans hlw gr.size
            refine hK' _ _ ⟨h0, h1⟩ ?_
            clear hK' K' gr hRq
            go_frame
            refine held_exec 8 (some 34) (.pointer (some ⟨w3.heap.size, 4, none⟩)) (by kernel_rfl) rfl rfl rfl (exec_fieldAddr 31 _ 4 rfl _ (by kernel_rfl)) ⟨h0, h1⟩ ?_
            go_frame
            refine held_oper 9 (by kernel_rfl) rfl rfl (fun K' hK' => ?_)
            have hv8 := ho8.shp.cells
            refine wp_store_one 29 _ _ rfl rfl w3.heap.size 4 rfl v8 rfl hv8.1 hv8.2 _ _ h6 (by kernel_rfl) (by simp) (fun w10 p10 => ?_)
            replace h0 := p10.other h0 (by omega)
            replace h1 := p10.other h1 (by omega)
            replace h2 := p10.other h2 (by omega)
            replace ho8 := ho8.put p10 (ho8.off h6 (by decide))
            replace hB := p10.below hB (by omega)
            have h6' : At w10 w3.heap.size (.cells #[.int .i64 p, .int .i64 n, .int .i64 m, .int .i64 k, v8] 31 (0, 0)) := p10.at_
            refine hK' _ _ ⟨h0, h1⟩ ?_
            clear hK' K' p10 h6
            refine wpAnyH_done (by kernel_rfl) ?_ _
            have hoff := ho8.off h2 (by decide)
            go_wp2_with (first | (refine wpList_load_all rfl 31 _ rfl w3.heap.size rfl _ _ _ h6' Try.underlying31 rfl 5 (by kernel_rfl) rfl ?_) | (refine wpList_store_all rfl 31 _ _ rfl rfl (w.heap.size + 1 + 1) rfl _ rfl _ _ h2 5 (by kernel_rfl) rfl rfl (by intro x hx; simp at hx; rcases hx with rfl | rfl | rfl | rfl | rfl <;> first | rfl | exact hv8.2) ?_; intro W2 p2))
            refine bodyPost_ret (results_at2 rfl _ _ (w.heap.size + 1 + 1) _ _ _ rfl _ rfl p2.at_ Try.underlying31 rfl 5 (by kernel_rfl) rfl) rfl ?_
            exact ⟨v8, by simp only [addZ, Hcode.out]; rfl, by simp only [addQs, Hcode.out]; exact (ho8.put p2 hoff).mono (by omega), p2.below hB (by omega)⟩
        · refine wp_slice1 (some 32) rfl 29 37 _ rfl q rfl Try.underlying29 infoProd hq.len (fun W7 n7 => ?_)
          have nq := ho.away_new
          have hRq := Rd.of_at (qs := [q]) (t := 37) (by simpa using n7.at_) (by simpa using hq)
          have b7 := n7.below (Below.refl _ _) (Nat.le_refl _)
          replace h0 := h0.after b7
          replace h1 := h1.after b7
          replace h2 := h2.after b7
          replace h6 := h6.after b7
          replace hB := below_after hB b7
          replace ho := ho.below b7
          replace hlw := Nat.le_trans hlw b7.size
          refine hK' _ _ ⟨h0, h1⟩ ?_
          clear hK' K' b7 n7
          go_frame
          refine held_oper 1 (by kernel_rfl) rfl rfl (fun K' hK' => ?_)
          refine wp_exec (some 27) rfl (.slice A6 0 c6) (exec_load_one 29 _ rfl w3.heap.size 4 rfl _ _ Try.underlying29 rfl (h6.at_ 4)) (hK' _ _ ⟨h0, h1⟩ ?_)
          clear hK' K'
          go_frame
          refine held_oper 4 (by kernel_rfl) rfl rfl (fun K' hK' => ?_)
          refine wp_append_rd (some 30) rfl _ _ rfl (.slice A6 0 c6) [] qs rfl ho A cap rfl (hr.keep hB) HC.out (by simp; omega) hlw (fun v7 w8 ho7 gr => ?_)
          replace hRq := Rd.grown hRq gr nq
          replace h0 := h0.grown gr (ho.off_lt (by omega))
          replace h1 := h1.grown gr (ho.off_lt (by omega))
          replace h2 := h2.grown gr (ho.off_lt (by omega))
          replace h6 := h6.grown gr (ho.off h6 (by decide))
          replace hB := below_grown hB gr ho (by omega)
          replace hlw := Nat.le_trans hlw gr.size
          rw [List.nil_append] at ho7
          refine hK' _ _ ⟨h0, h1⟩ ?_
          clear hK' K' gr ho
          go_frame
          refine held_oper 7 (by kernel_rfl) rfl rfl (fun K' hK' => ?_)
          refine wp_append_rd (some 33) rfl _ _ rfl v7 qs [q] rfl ho7 (some ⟨_, 0, none⟩) 1 rfl hRq (by simp) (by simp; omega) hlw (fun v8 w9 ho8 gr => ?_)
          replace h0 := h0.grown gr (ho7.off_lt (by omega))
          replace h1 := h1.grown gr (ho7.off_lt (by omega))
          replace h2 := h2.grown gr (ho7.off_lt (by omega))
          replace h6 := h6.grown gr (ho7.off h6 (by decide))
          replace hB := below_grown hB gr ho7 (by omega)
          replace hlw := Nat.le_trans hlw gr.size
          refine hK' _ _ ⟨h0, h1⟩ ?_
          clear hK' K' gr hRq
          go_frame
          refine held_exec 8 (some 34) (.pointer (some ⟨w3.heap.size, 4, none⟩)) (by kernel_rfl) rfl rfl rfl (exec_fieldAddr 31 _ 4 rfl _ (by kernel_rfl)) ⟨h0, h1⟩ ?_
          go_frame
          refine held_oper 9 (by kernel_rfl) rfl rfl (fun K' hK' => ?_)
          have hv8 := ho8.shp.cells
          refine wp_store_one 29 _ _ rfl rfl w3.heap.size 4 rfl v8 rfl hv8.1 hv8.2 _ _ h6 (by kernel_rfl) (by simp) (fun w10 p10 => ?_)
          replace h0 := p10.other h0 (by omega)
          replace h1 := p10.other h1 (by omega)
          replace h2 := p10.other h2 (by omega)
          replace ho8 := ho8.put p10 (ho8.off h6 (by decide))
          replace hB := p10.below hB (by omega)
          have h6' : At w10 w3.heap.size (.cells #[.int .i64 p, .int .i64 n, .int .i64 m, .int .i64 k, v8] 31 (0, 0)) := p10.at_
          refine hK' _ _ ⟨h0, h1⟩ ?_
          clear hK' K' p10 h6
          refine wpAnyH_done (by kernel_rfl) ?_ _
          have hoff := ho8.off h2 (by decide)
          go_wp2_with (first | (refine wpList_load_all rfl 31 _ rfl w3.heap.size rfl _ _ _ h6' Try.underlying31 rfl 5 (by kernel_rfl) rfl ?_) | (refine wpList_store_all rfl 31 _ _ rfl rfl (w.heap.size + 1 + 1) rfl _ rfl _ _ h2 5 (by kernel_rfl) rfl rfl (by intro x hx; simp at hx; rcases hx with rfl | rfl | rfl | rfl | rfl <;> first | rfl | exact hv8.2) ?_; intro W2 p2))
          refine bodyPost_ret (results_at2 rfl _ _ (w.heap.size + 1 + 1) _ _ _ rfl _ rfl p2.at_ Try.underlying31 rfl 5 (by kernel_rfl) rfl) rfl ?_
          exact ⟨v8, by simp only [addZ, Hcode.out]; rfl, by simp only [addQs, Hcode.out]; exact (ho8.put p2 hoff).mono (by omega), p2.below hB (by omega)⟩
end Go.Proofs.Ytpoekhpchhmkaaa
