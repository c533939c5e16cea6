/-
  spec.TurnScheme, TransposeScheme. (Made by mktr6.py.)
-/
import Derived.Test.YtolbkaojhkgidaaTr1
import Derived.Test.YtolbkaojhkgidaaTr5
import Derived.Test.YtolbkaojhkgidaaZ3
namespace Go.Proofs.Ytolbkaojhkgidaa
open Go.RowKit
set_option maxRecDepth 100000
set_option maxHeartbeats 3200000 in
theorem specTurnScheme_yes (p : Int) (n m k : Nat) (A : Option Addr) (cap : Nat) (qs : List (List Nat)) (w : World) (hr : Rd w A qs) (hs : schemeB p n m k qs = true) (hn : 1 ≤ n ∧ n ≤ 3) (hm : 1 ≤ m ∧ m ≤ 3) (hk : 1 ≤ k ∧ k ≤ 3) :
    Calls Try.prog 6 #[.agg #[.int .i64 p, .int .i64 n, .int .i64 m, .int .i64 k, .slice A qs.length cap]] w (ResS w p m k n (qs.map (turQ n m k)) 0) := by
  obtain ⟨n1, n3⟩ := hn
  obtain ⟨m1, m3⟩ := hm
  obtain ⟨k1, k3⟩ := hk
  have h30 := schemeB_len hs
  have HI := Lib.hid (fun w hr => l01Is_c p n m k A cap qs w hr (by omega))
  have Hs := Lib.hid hs
  have hlen : qs.length ≤ 1000 := by omega
  clear hs
  go_enter Try.func6, Try.ntmps6
  go_wp2_with (first | (refine wpList_abs2 ?_; intro W hsz hB h0 h1) | (refine wpList_load_all rfl 28 _ rfl w.heap.size rfl _ _ _ h0 Try.underlying28 rfl 5 (by kernel_rfl) rfl ?_))
  refine (HI.out _ (hr.keep hB)).mono ?_
  rintro e w2 ⟨rfl, b1⟩
  rw [Hs.out]
  have z1 : w.heap.size + 1 + 1 ≤ w2.heap.size := size_after (Nat.le_of_eq hsz.symm) b1
  replace h0 := h0.after b1
  replace h1 := h1.after b1
  replace hB := below_after hB b1
  clear b1 hsz
  have o0 : Own (w2.alloc (.cells #[] 40 (0, 0))) w2.heap.size (.slice (some ⟨w2.heap.size, 0, none⟩) 0 0) [] := ⟨by simp [u8s], .inr ⟨w2.heap.size, 0, #[], rfl, Nat.le_refl _, al1_0 _ _, by simp, by simp, by simp, by simp [u8s]⟩⟩
  have b0 := below1 w2 (.cells #[] 40 (0, 0))
  have bx := below1 (w2.alloc (.cells #[] 40 (0, 0))) (.cells #[.int .i64 p, .int .i64 m, .int .i64 k, .int .i64 n, .slice (some ⟨w2.heap.size, 0, none⟩) 0 0] 28 (0, 0))
  have hK0 : KB w (w.heap.size + 1 + 1) (w2.heap.size + 1) p m k n ((qs.take 0).map (turQ n m k)) (.slice (some ⟨w2.heap.size, 0, none⟩) 0 0) ((w2.alloc (.cells #[] 40 (0, 0))).alloc (.cells #[.int .i64 p, .int .i64 m, .int .i64 k, .int .i64 n, .slice (some ⟨w2.heap.size, 0, none⟩) 0 0] 28 (0, 0))) := ⟨below_after (below_after hB b0) bx, (o0.below bx).mono z1, al2_1 _ _ _, by omega, by omega⟩
  have g0 := (h0.after b0).after bx
  have g1 := (h1.after b0).after bx
  have k0 : (w2.alloc (.cells #[] 40 (0, 0))).cell? ⟨w.heap.size, 0, none⟩ = some (.int .i64 p) := (h0.after b0).at_ 0
  have c0 : w2.cell? ⟨w.heap.size, 0, none⟩ = some (.int .i64 p) := h0.at_ 0
  have c1 : w2.cell? ⟨w.heap.size, 1, none⟩ = some (.int .i64 n) := h0.at_ 1
  have c2 : w2.cell? ⟨w.heap.size, 2, none⟩ = some (.int .i64 m) := h0.at_ 2
  have c3 : w2.cell? ⟨w.heap.size, 3, none⟩ = some (.int .i64 k) := h0.at_ 3
  clear o0 b0 bx hB
  go_wp2_with fail
  go_loopw [5] (fun i wr => ∃ (j : Nat) (v : Value), j ≤ qs.length ∧ i = .int .i64 j ∧ KB w (w.heap.size + 1 + 1) (w2.heap.size + 1) p m k n ((qs.take j).map (turQ n m k)) v wr ∧ At wr w.heap.size (.cells #[.int .i64 p, .int .i64 n, .int .i64 m, .int .i64 k, .slice A qs.length cap] 28 (0, 0)) ∧ At wr (w.heap.size + 1) (.cells #[.int .i64 0, .int .i64 0, .int .i64 0, .int .i64 0, .slice none 0 0] 28 (0, 0))) (fun i _ => qs.length - (intOf i).toNat)
  case atStart => exact ⟨0, _, by omega, rfl, hK0, g0, g1⟩
  case round =>
    clear hK0 g0 g1 h0 h1 k0 c0 c1 c2 c3
    obtain ⟨j, v, hj, rfl, hK, h0, h1⟩ := hrel
    have c4 : wr.cell? ⟨w.heap.size, 4, none⟩ = some (.slice A qs.length cap) := h0.at_ 4
    by_cases hlt : j < qs.length
    · have e0 : IntKind.i64.wrap ((j : Int) + 1) = (j : Int) + 1 := IntWalk.i64_in _ (by omega)
      obtain ⟨b, off, rfl, _⟩ := hr.at_ hlt
      have hqj := hr.good _ (List.getElem_mem hlt)
      have Hcj := Lib.hid (Rd.cells27 (hr.keep hK.below) hlt)
      have HT : Hid ((qs.take (j + 1)).map (turQ n m k) = (qs.take j).map (turQ n m k) ++ [turQ n m k qs[j]]) := Lib.hid (by rw [List.take_succ_eq_append_getElem hlt, List.map_append]; rfl)
      have hlj : ((qs.take j).map (turQ n m k)).length ≤ 1000 := by simp; omega
      have naw := hK.own.away_new
      have lK := hK.box.lt
      have l1 := h1.lt
      generalize qs[j] = q at *
      obtain ⟨QA, QB, QC, rfl, hQA, hQB, hQC⟩ := parts3 hqj
      replace HT : Hid ((qs.take (j + 1)).map (turQ n m k) = (qs.take j).map (turQ n m k) ++ [cat3 QB (trF n k QC) (trF n m QA)]) := Lib.hid (by rw [HT.out]; unfold turQ; rw [segm_a hQA.len, segm_b hQA.len hQB.len, segm_c hQA.len hQB.len hQC.len])
      have l27 : 27 ≤ (cat3 QA QB QC).length := by rw [hqj.len]; exact Nat.le_refl _
      have HC := Lib.hid (fun w => l04Transposed_c QC n k hQC w (by omega) (by omega) (by omega) (by omega))
      have hFC := trF_bytes n k hQC
      generalize trF n k QC = FC at *
      have HA := Lib.hid (fun w => l04Transposed_c QA n m hQA w (by omega) (by omega) (by omega) (by omega))
      have hFA := trF_bytes n m hQA
      generalize trF n m QA = FA at *
      have hR := bytes3 hQB hFC hFA
      go_wp2_with (first | (refine wpList_load_cells rfl 40 _ rfl b (off + j * 27) rfl (cat3 QA QB QC) _ 27 Hcj.out Try.underlying40 rfl (by kernel_rfl) hqj.len ?_) | (refine wpList_abs1 ?_; intro W2 hsz2 hB2 s2; replace s2 : At W2 wr.heap.size (.cells (u8s (List.replicate 27 0)) 40 (0, 0)) := s2; replace h0 := h0.after hB2; replace h1 := h1.after hB2; replace hK := hK.after hB2) | (refine wpList_store_u8s rfl 40 _ _ rfl rfl wr.heap.size 0 rfl (cat3 QA QB QC) rfl _ _ s2 27 (by kernel_rfl) hqj.len (by simp) ?_; intro W3 p3; replace h0 := p3.other h0 (by omega); replace h1 := p3.other h1 (by omega); replace hK := hK.other p3 (by omega) naw (by omega); have hq := p3.at_; rw [over_all (by rw [hqj.len]; simp)] at hq; clear p3 s2 hsz2 hB2))
      refine wp_region_z (z := 22) (S := fun w' => At w' (w2.heap.size + 1) (.cells #[.int .i64 p, .int .i64 m, .int .i64 k, .int .i64 n, v] 28 (0, 0)) ∧ At w' w.heap.size (.cells #[.int .i64 p, .int .i64 n, .int .i64 m, .int .i64 k, .slice (some ⟨b, off, none⟩) qs.length cap] 28 (0, 0)) ∧ At w' wr.heap.size (.cells (u8s (cat3 QA QB QC)) 40 (0, 0))) (by kernel_rfl) ?_
      change wpAnyZ _ _ _ _ _ _ _ _ _ (World.drew _)
      generalize hwdc : World.drew _ = wdc
      replace hK : KB w (w.heap.size + 1 + 1) (w2.heap.size + 1) p m k n ((qs.take j).map (turQ n m k)) v wdc := by rw [← hwdc]; exact hK.drew
      replace h0 : At wdc w.heap.size (.cells #[.int .i64 p, .int .i64 n, .int .i64 m, .int .i64 k, .slice (some ⟨b, off, none⟩) qs.length cap] 28 (0, 0)) := by rw [← hwdc]; exact h0
      replace h1 : At wdc (w.heap.size + 1) (.cells #[.int .i64 0, .int .i64 0, .int .i64 0, .int .i64 0, .slice none 0 0] 28 (0, 0)) := by rw [← hwdc]; exact h1
      replace hq : At wdc wr.heap.size (.cells (u8s (cat3 QA QB QC)) 40 (0, 0)) := by rw [← hwdc]; exact hq
      clear hwdc
      refine z_yield 0 (some 33) (.pointer (some ⟨w2.heap.size + 1, 4, none⟩)) rfl (by kernel_rfl) (by kernel_rfl) (by kernel_rfl) (by kernel_rfl) (fun _ _ _ h => h) rfl rfl ⟨hK.box, h0, hq⟩ (fun w' h' => exec_fieldAddr 28 _ 4 rfl _ (by kernel_rfl)) ?_
      go_frame
      refine z_yield 1 (some 34) (v) rfl (by kernel_rfl) (by kernel_rfl) (by kernel_rfl) (by kernel_rfl) (fun _ _ _ h => h) rfl rfl ⟨hK.box, h0, hq⟩ (fun w' h' => exec_load_one 26 _ rfl (w2.heap.size + 1) 4 rfl _ _ Try.underlying26 rfl (h'.1.at_ 4)) ?_
      go_frame
      refine z_yield 2 (some 35) (.pointer (some ⟨wr.heap.size, 9, none⟩)) rfl (by kernel_rfl) (by kernel_rfl) (by kernel_rfl) (by kernel_rfl) (fun _ _ _ h => h) rfl rfl ⟨hK.box, h0, hq⟩ (fun w' h' => exec_fieldAddr 40 _ 1 rfl _ (by kernel_rfl)) ?_
      go_frame
      refine z_yield 3 (some 36) (.agg (u8s QB)) rfl (by kernel_rfl) (by kernel_rfl) (by kernel_rfl) (by kernel_rfl) (fun _ _ _ h => h) rfl rfl ⟨hK.box, h0, hq⟩ (fun w' h' => exec_load_seg 38 _ rfl wr.heap.size 9 rfl _ (cat3 QA QB QC) _ 9 h'.2.2 Try.underlying38 rfl (by kernel_rfl) (by omega) _ (segm_b hQA.len hQB.len)) ?_
      go_frame
      refine z_yield 4 (some 37) (.pointer (some ⟨wr.heap.size, 18, none⟩)) rfl (by kernel_rfl) (by kernel_rfl) (by kernel_rfl) (by kernel_rfl) (fun _ _ _ h => h) rfl rfl ⟨hK.box, h0, hq⟩ (fun w' h' => exec_fieldAddr 40 _ 2 rfl _ (by kernel_rfl)) ?_
      go_frame
      refine z_yield 5 (some 38) (.agg (u8s QC)) rfl (by kernel_rfl) (by kernel_rfl) (by kernel_rfl) (by kernel_rfl) (fun _ _ _ h => h) rfl rfl ⟨hK.box, h0, hq⟩ (fun w' h' => exec_load_seg 38 _ rfl wr.heap.size 18 rfl _ (cat3 QA QB QC) _ 9 h'.2.2 Try.underlying38 rfl (by kernel_rfl) (by omega) _ (segm_c hQA.len hQB.len hQC.len)) ?_
      go_frame
      refine z_yield 6 (some 39) (.pointer (some ⟨w.heap.size, 1, none⟩)) rfl (by kernel_rfl) (by kernel_rfl) (by kernel_rfl) (by kernel_rfl) (fun _ _ _ h => h) rfl rfl ⟨hK.box, h0, hq⟩ (fun w' h' => exec_fieldAddr 28 _ 1 rfl _ (by kernel_rfl)) ?_
      go_frame
      refine z_yield 7 (some 40) (.int .i64 n) rfl (by kernel_rfl) (by kernel_rfl) (by kernel_rfl) (by kernel_rfl) (fun _ _ _ h => h) rfl rfl ⟨hK.box, h0, hq⟩ (fun w' h' => exec_load_one 2 _ rfl w.heap.size 1 rfl _ _ Try.underlying2 rfl (h'.2.1.at_ 1)) ?_
      go_frame
      refine z_yield 8 (some 41) (.pointer (some ⟨w.heap.size, 3, none⟩)) rfl (by kernel_rfl) (by kernel_rfl) (by kernel_rfl) (by kernel_rfl) (fun _ _ _ h => h) rfl rfl ⟨hK.box, h0, hq⟩ (fun w' h' => exec_fieldAddr 28 _ 3 rfl _ (by kernel_rfl)) ?_
      go_frame
      refine z_yield 9 (some 42) (.int .i64 k) rfl (by kernel_rfl) (by kernel_rfl) (by kernel_rfl) (by kernel_rfl) (fun _ _ _ h => h) rfl rfl ⟨hK.box, h0, hq⟩ (fun w' h' => exec_load_one 2 _ rfl w.heap.size 3 rfl _ _ Try.underlying2 rfl (h'.2.1.at_ 3)) ?_
      go_frame
      refine z_yield 11 (some 44) (.pointer (some ⟨wr.heap.size, 0, none⟩)) rfl (by kernel_rfl) (by kernel_rfl) (by kernel_rfl) (by kernel_rfl) (fun _ _ _ h => h) rfl rfl ⟨hK.box, h0, hq⟩ (fun w' h' => exec_fieldAddr 40 _ 0 rfl _ (by kernel_rfl)) ?_
      go_frame
      refine z_yield 12 (some 45) (.agg (u8s QA)) rfl (by kernel_rfl) (by kernel_rfl) (by kernel_rfl) (by kernel_rfl) (fun _ _ _ h => h) rfl rfl ⟨hK.box, h0, hq⟩ (fun w' h' => exec_load_seg 38 _ rfl wr.heap.size 0 rfl _ (cat3 QA QB QC) _ 9 h'.2.2 Try.underlying38 rfl (by kernel_rfl) (by omega) _ (segm_a hQA.len)) ?_
      go_frame
      refine z_yield 13 (some 46) (.pointer (some ⟨w.heap.size, 1, none⟩)) rfl (by kernel_rfl) (by kernel_rfl) (by kernel_rfl) (by kernel_rfl) (fun _ _ _ h => h) rfl rfl ⟨hK.box, h0, hq⟩ (fun w' h' => exec_fieldAddr 28 _ 1 rfl _ (by kernel_rfl)) ?_
      go_frame
      refine z_yield 14 (some 47) (.int .i64 n) rfl (by kernel_rfl) (by kernel_rfl) (by kernel_rfl) (by kernel_rfl) (fun _ _ _ h => h) rfl rfl ⟨hK.box, h0, hq⟩ (fun w' h' => exec_load_one 2 _ rfl w.heap.size 1 rfl _ _ Try.underlying2 rfl (h'.2.1.at_ 1)) ?_
      go_frame
      refine z_yield 15 (some 48) (.pointer (some ⟨w.heap.size, 2, none⟩)) rfl (by kernel_rfl) (by kernel_rfl) (by kernel_rfl) (by kernel_rfl) (fun _ _ _ h => h) rfl rfl ⟨hK.box, h0, hq⟩ (fun w' h' => exec_fieldAddr 28 _ 2 rfl _ (by kernel_rfl)) ?_
      go_frame
      refine z_yield 16 (some 49) (.int .i64 m) rfl (by kernel_rfl) (by kernel_rfl) (by kernel_rfl) (by kernel_rfl) (fun _ _ _ h => h) rfl rfl ⟨hK.box, h0, hq⟩ (fun w' h' => exec_load_one 2 _ rfl w.heap.size 2 rfl _ _ Try.underlying2 rfl (h'.2.1.at_ 2)) ?_
      go_frame
      refine z_oper 10 (by kernel_rfl) rfl rfl (fun K' hK' => ?_)
      refine wp_call3 (some 43) rfl 16 _ _ _ _ rfl (fun args w => by kernel_rfl) _ _ _ rfl rfl rfl _ (HC.out _) (fun e wnc1 h => ?_)
      obtain ⟨rfl, bc2⟩ := h
      replace hK := hK.after bc2
      replace h0 := h0.after bc2
      replace h1 := h1.after bc2
      replace hq := hq.after bc2
      clear bc2
      refine ⟨_, rfl, hK' _ _ (fun _ => ⟨hK.box, h0, hq⟩) ?_⟩
      clear hK' K'
      go_frame
      refine z_oper 17 (by kernel_rfl) rfl rfl (fun K' hK' => ?_)
      refine wp_call3 (some 50) rfl 16 _ _ _ _ rfl (fun args w => by kernel_rfl) _ _ _ rfl rfl rfl _ (HA.out _) (fun e wnc3 h => ?_)
      obtain ⟨rfl, bc4⟩ := h
      replace hK := hK.after bc4
      replace h0 := h0.after bc4
      replace h1 := h1.after bc4
      replace hq := hq.after bc4
      clear bc4
      refine ⟨_, rfl, hK' _ _ (fun _ => ⟨hK.box, h0, hq⟩) ?_⟩
      clear hK' K'
      go_frame
      refine z_yield 18 (some 51) (.agg (u8s (cat3 QB FC FA))) rfl (by kernel_rfl) (by kernel_rfl) (by kernel_rfl) (by kernel_rfl) (fun _ _ _ h => h) rfl rfl ⟨hK.box, h0, hq⟩ (fun w' h' => exec_prod _ _ _ rfl QB FC FA rfl rfl rfl hQB.len hFC.len hFA.len) ?_
      go_frame
      refine z_oper 19 (by kernel_rfl) rfl rfl (fun K' hK' => ?_)
      refine wp_slice1 (some 52) rfl 26 40 _ rfl (cat3 QB FC FA) rfl Try.underlying26 infoProd hR.len (fun wsc5 nnc6 => ?_)
      have bc7 := nnc6.below (Below.refl _ _) (Nat.le_refl _)
      have hRq := Rd.one nnc6 hR
      replace hK := hK.after bc7
      replace h0 := h0.after bc7
      replace h1 := h1.after bc7
      replace hq := hq.after bc7
      refine hK' _ _ (fun _ => ⟨hK.box, h0, hq⟩) ?_
      clear hK' K' bc7 nnc6
      go_frame
      refine z_oper 20 (by kernel_rfl) rfl rfl (fun K' hK' => ?_)
      refine wp_append_rd (some 53) rfl _ _ rfl v ((qs.take j).map (turQ n m k)) [cat3 QB FC FA] rfl hK.own (some ⟨_, 0, none⟩) 1 rfl hRq (by simp) (by simp; omega) (by have := hK.box.lt; omega) (fun v8 wsc8 ho8 gr => ?_)
      have G := hK.grow2 gr ho8
      replace h0 := h0.grown gr (hK.own.off h0 (by decide))
      replace h1 := h1.grown gr (hK.own.off h1 (by decide))
      replace hq := hq.grown gr naw
      refine hK' _ _ (fun _ => ⟨G.2.2, h0, hq⟩) ?_
      clear hK' K' gr hRq
      go_frame
      refine z_yield 21 (some 54) (.pointer (some ⟨w2.heap.size + 1, 4, none⟩)) rfl (by kernel_rfl) (by kernel_rfl) (by kernel_rfl) (by kernel_rfl) (fun _ _ _ h => h) rfl rfl ⟨G.2.2, h0, hq⟩ (fun w' h' => exec_fieldAddr 28 _ 4 rfl _ (by kernel_rfl)) ?_
      go_frame
      refine z_oper 22 (by kernel_rfl) rfl rfl (fun K' hK' => ?_)
      have hv8 := ho8.shp.cells
      refine wp_store_one 26 _ _ rfl rfl (w2.heap.size + 1) 4 rfl v8 rfl hv8.1 hv8.2 _ _ G.2.2 (by kernel_rfl) (by simp) (fun wsc9 pc10 => ?_)
      replace h0 := pc10.other h0 (by omega)
      replace h1 := pc10.other h1 (by omega)
      have hK2 := KB.put G (by omega) (by omega) (by exact pc10)
      refine hK' _ _ (fun h => absurd rfl h) ?_
      clear hK' K' pc10
      refine z_done (by kernel_rfl) ?_ _
      go_wp2_with fail
      go_roundw
      case rel => exact ⟨j + 1, v8, by omega, by go_num, by rw [HT.out]; exact hK2, h0, h1⟩
      case measure => simp [intOf]; omega
    · obtain rfl : j = qs.length := by omega
      rw [List.take_length] at hK
      have hv := hK.own.shp.cells
      have n1 := hK.own.off h1 (by decide)
      go_wp2_with (first | (refine wpList_load_all rfl 28 _ rfl (w2.heap.size + 1) rfl _ _ _ hK.box Try.underlying28 rfl 5 (by kernel_rfl) rfl ?_) | (refine wpList_store_all rfl 28 _ _ rfl rfl (w.heap.size + 1) rfl _ rfl _ _ h1 5 (by kernel_rfl) rfl rfl (by intro x hx; simp at hx; rcases hx with rfl | rfl | rfl | rfl | rfl <;> first | rfl | exact hv.2) ?_; intro w3 p3))
      refine bodyPost_ret (results_at2 rfl _ _ (w.heap.size + 1) _ _ _ rfl _ rfl p3.at_ Try.underlying28 rfl 5 (by kernel_rfl) rfl) rfl ?_
      exact ⟨v, rfl, (hK.own.put p3 n1).mono (by omega), p3.below hK.below (by omega)⟩
set_option maxHeartbeats 800000 in
theorem specTurnScheme_c (p n m k : Int) (A : Option Addr) (cap : Nat) (qs : List (List Nat)) (w : World) (hr : Rd w A qs) (hlen : qs.length ≤ 1048576) :
    Calls Try.prog 6 #[.agg #[.int .i64 p, .int .i64 n, .int .i64 m, .int .i64 k, .slice A qs.length cap]] w
      (ResS w (nrmZ p n m k qs p) (nrmZ p n m k qs m) (nrmZ p n m k qs k) (nrmZ p n m k qs n) (eachQs (turQ n.toNat m.toNat k.toNat) p n m k qs) (nrmCode p n m k qs)) := by
  cases hs : schemeB p n m k qs with
  | false =>
    have Hs := Lib.hid hs
    have HI := Lib.hid (fun w hr => l01Is_c p n m k A cap qs w hr hlen)
    have Hz : Hid (∀ x, nrmZ p n m k qs x = 0) := Lib.hid (fun x => by simp [nrmZ, hs])
    have Hq : Hid (eachQs (turQ n.toNat m.toNat k.toNat) p n m k qs = [] ∧ nrmCode p n m k qs = 1) := Lib.hid (by simp [eachQs, nrmCode, hs])
    clear hs
    go_enter Try.func6, Try.ntmps6
    go_wp2_with (first | (refine wpList_abs2 ?_; intro W hsz hB h0 h1) | (refine wpList_load_all rfl 28 _ rfl w.heap.size rfl _ _ _ h0 Try.underlying28 rfl 5 (by kernel_rfl) rfl ?_))
    refine (HI.out _ (hr.keep hB)).mono ?_
    rintro e w1 ⟨rfl, b1⟩
    rw [Hs.out]
    replace h1 := h1.after b1
    replace hB := below_after hB b1
    clear b1 hsz h0
    go_wp2_with (refine wpList_store_all rfl 28 _ _ rfl rfl (w.heap.size + 1) rfl _ rfl _ _ h1 5 (by kernel_rfl) rfl rfl (by simp [Value.oneCell']) ?_; intro W2 p2)
    refine bodyPost_ret (results_at2 rfl _ _ (w.heap.size + 1) _ _ _ rfl _ rfl p2.at_ Try.underlying28 rfl 5 (by kernel_rfl) rfl) rfl ?_
    exact ⟨.slice none 0 0, by rw [Hz.out, Hz.out, Hz.out, Hz.out, Hq.out.2]; rfl, by rw [Hq.out.1]; exact Own.nil _ _, p2.below hB (by omega)⟩
  | true =>
    have h3 := sizesB_parts (schemeB_sizes hs)
    have hn := sizeB_in h3.2.1
    have hm := sizeB_in h3.2.2.1
    have hk := sizeB_in h3.2.2.2
    have hz : ∀ x, nrmZ p n m k qs x = x := fun x => by simp [nrmZ, hs]
    have hq : eachQs (turQ n.toNat m.toNat k.toNat) p n m k qs = qs.map (turQ n.toNat m.toNat k.toNat) := by simp [eachQs, hs]
    have hc : nrmCode p n m k qs = 0 := by simp [nrmCode, hs]
    rw [hz, hz, hz, hz, hq, hc]
    have h := specTurnScheme_yes p n.toNat m.toNat k.toNat A cap qs w hr (by rw [hn.1, hm.1, hk.1]; exact hs) hn.2 hm.2 hk.2
    rw [hn.1, hm.1, hk.1] at h
    exact h
set_option maxHeartbeats 3200000 in
theorem specTransposeScheme_yes (p : Int) (n m k : Nat) (A : Option Addr) (cap : Nat) (qs : List (List Nat)) (w : World) (hr : Rd w A qs) (hs : schemeB p n m k qs = true) (hn : 1 ≤ n ∧ n ≤ 3) (hm : 1 ≤ m ∧ m ≤ 3) (hk : 1 ≤ k ∧ k ≤ 3) :
    Calls Try.prog 12 #[.agg #[.int .i64 p, .int .i64 n, .int .i64 m, .int .i64 k, .slice A qs.length cap]] w (ResS w p k m n (qs.map (traQ n m k)) 0) := by
  obtain ⟨n1, n3⟩ := hn
  obtain ⟨m1, m3⟩ := hm
  obtain ⟨k1, k3⟩ := hk
  have h30 := schemeB_len hs
  have HI := Lib.hid (fun w hr => l01Is_c p n m k A cap qs w hr (by omega))
  have Hs := Lib.hid hs
  have hlen : qs.length ≤ 1000 := by omega
  clear hs
  go_enter Try.func12, Try.ntmps12
  go_wp2_with (first | (refine wpList_abs2 ?_; intro W hsz hB h0 h1) | (refine wpList_load_all rfl 28 _ rfl w.heap.size rfl _ _ _ h0 Try.underlying28 rfl 5 (by kernel_rfl) rfl ?_))
  refine (HI.out _ (hr.keep hB)).mono ?_
  rintro e w2 ⟨rfl, b1⟩
  rw [Hs.out]
  have z1 : w.heap.size + 1 + 1 ≤ w2.heap.size := size_after (Nat.le_of_eq hsz.symm) b1
  replace h0 := h0.after b1
  replace h1 := h1.after b1
  replace hB := below_after hB b1
  clear b1 hsz
  have o0 : Own (w2.alloc (.cells #[] 40 (0, 0))) w2.heap.size (.slice (some ⟨w2.heap.size, 0, none⟩) 0 0) [] := ⟨by simp [u8s], .inr ⟨w2.heap.size, 0, #[], rfl, Nat.le_refl _, al1_0 _ _, by simp, by simp, by simp, by simp [u8s]⟩⟩
  have b0 := below1 w2 (.cells #[] 40 (0, 0))
  have bx := below1 (w2.alloc (.cells #[] 40 (0, 0))) (.cells #[.int .i64 p, .int .i64 k, .int .i64 m, .int .i64 n, .slice (some ⟨w2.heap.size, 0, none⟩) 0 0] 28 (0, 0))
  have hK0 : KB w (w.heap.size + 1 + 1) (w2.heap.size + 1) p k m n ((qs.take 0).map (traQ n m k)) (.slice (some ⟨w2.heap.size, 0, none⟩) 0 0) ((w2.alloc (.cells #[] 40 (0, 0))).alloc (.cells #[.int .i64 p, .int .i64 k, .int .i64 m, .int .i64 n, .slice (some ⟨w2.heap.size, 0, none⟩) 0 0] 28 (0, 0))) := ⟨below_after (below_after hB b0) bx, (o0.below bx).mono z1, al2_1 _ _ _, by omega, by omega⟩
  have g0 := (h0.after b0).after bx
  have g1 := (h1.after b0).after bx
  have k0 : (w2.alloc (.cells #[] 40 (0, 0))).cell? ⟨w.heap.size, 0, none⟩ = some (.int .i64 p) := (h0.after b0).at_ 0
  have c0 : w2.cell? ⟨w.heap.size, 0, none⟩ = some (.int .i64 p) := h0.at_ 0
  have c1 : w2.cell? ⟨w.heap.size, 1, none⟩ = some (.int .i64 n) := h0.at_ 1
  have c2 : w2.cell? ⟨w.heap.size, 2, none⟩ = some (.int .i64 m) := h0.at_ 2
  have c3 : w2.cell? ⟨w.heap.size, 3, none⟩ = some (.int .i64 k) := h0.at_ 3
  clear o0 b0 bx hB
  go_wp2_with fail
  go_loopw [5] (fun i wr => ∃ (j : Nat) (v : Value), j ≤ qs.length ∧ i = .int .i64 j ∧ KB w (w.heap.size + 1 + 1) (w2.heap.size + 1) p k m n ((qs.take j).map (traQ n m k)) v wr ∧ At wr w.heap.size (.cells #[.int .i64 p, .int .i64 n, .int .i64 m, .int .i64 k, .slice A qs.length cap] 28 (0, 0)) ∧ At wr (w.heap.size + 1) (.cells #[.int .i64 0, .int .i64 0, .int .i64 0, .int .i64 0, .slice none 0 0] 28 (0, 0))) (fun i _ => qs.length - (intOf i).toNat)
  case atStart => exact ⟨0, _, by omega, rfl, hK0, g0, g1⟩
  case round =>
    clear hK0 g0 g1 h0 h1 k0 c0 c1 c2 c3
    obtain ⟨j, v, hj, rfl, hK, h0, h1⟩ := hrel
    have c4 : wr.cell? ⟨w.heap.size, 4, none⟩ = some (.slice A qs.length cap) := h0.at_ 4
    by_cases hlt : j < qs.length
    · have e0 : IntKind.i64.wrap ((j : Int) + 1) = (j : Int) + 1 := IntWalk.i64_in _ (by omega)
      obtain ⟨b, off, rfl, _⟩ := hr.at_ hlt
      have hqj := hr.good _ (List.getElem_mem hlt)
      have Hcj := Lib.hid (Rd.cells27 (hr.keep hK.below) hlt)
      have HT : Hid ((qs.take (j + 1)).map (traQ n m k) = (qs.take j).map (traQ n m k) ++ [traQ n m k qs[j]]) := Lib.hid (by rw [List.take_succ_eq_append_getElem hlt, List.map_append]; rfl)
      have hlj : ((qs.take j).map (traQ n m k)).length ≤ 1000 := by simp; omega
      have naw := hK.own.away_new
      have lK := hK.box.lt
      have l1 := h1.lt
      generalize qs[j] = q at *
      obtain ⟨QA, QB, QC, rfl, hQA, hQB, hQC⟩ := parts3 hqj
      replace HT : Hid ((qs.take (j + 1)).map (traQ n m k) = (qs.take j).map (traQ n m k) ++ [cat3 (trF m k QB) (trF n m QA) (trF n k QC)]) := Lib.hid (by rw [HT.out]; unfold traQ; rw [segm_a hQA.len, segm_b hQA.len hQB.len, segm_c hQA.len hQB.len hQC.len])
      have l27 : 27 ≤ (cat3 QA QB QC).length := by rw [hqj.len]; exact Nat.le_refl _
      have HB := Lib.hid (fun w => l04Transposed_c QB m k hQB w (by omega) (by omega) (by omega) (by omega))
      have hFB := trF_bytes m k hQB
      generalize trF m k QB = FB at *
      have HA := Lib.hid (fun w => l04Transposed_c QA n m hQA w (by omega) (by omega) (by omega) (by omega))
      have hFA := trF_bytes n m hQA
      generalize trF n m QA = FA at *
      have HC := Lib.hid (fun w => l04Transposed_c QC n k hQC w (by omega) (by omega) (by omega) (by omega))
      have hFC := trF_bytes n k hQC
      generalize trF n k QC = FC at *
      have hR := bytes3 hFB hFA hFC
      go_wp2_with (first | (refine wpList_load_cells rfl 40 _ rfl b (off + j * 27) rfl (cat3 QA QB QC) _ 27 Hcj.out Try.underlying40 rfl (by kernel_rfl) hqj.len ?_) | (refine wpList_abs1 ?_; intro W2 hsz2 hB2 s2; replace s2 : At W2 wr.heap.size (.cells (u8s (List.replicate 27 0)) 40 (0, 0)) := s2; replace h0 := h0.after hB2; replace h1 := h1.after hB2; replace hK := hK.after hB2) | (refine wpList_store_u8s rfl 40 _ _ rfl rfl wr.heap.size 0 rfl (cat3 QA QB QC) rfl _ _ s2 27 (by kernel_rfl) hqj.len (by simp) ?_; intro W3 p3; replace h0 := p3.other h0 (by omega); replace h1 := p3.other h1 (by omega); replace hK := hK.other p3 (by omega) naw (by omega); have hq := p3.at_; rw [over_all (by rw [hqj.len]; simp)] at hq; clear p3 s2 hsz2 hB2))
      refine wp_region_z (z := 27) (S := fun w' => At w' (w2.heap.size + 1) (.cells #[.int .i64 p, .int .i64 k, .int .i64 m, .int .i64 n, v] 28 (0, 0)) ∧ At w' w.heap.size (.cells #[.int .i64 p, .int .i64 n, .int .i64 m, .int .i64 k, .slice (some ⟨b, off, none⟩) qs.length cap] 28 (0, 0)) ∧ At w' wr.heap.size (.cells (u8s (cat3 QA QB QC)) 40 (0, 0))) (by kernel_rfl) ?_
      change wpAnyZ _ _ _ _ _ _ _ _ _ (World.drew _)
      generalize hwdc : World.drew _ = wdc
      replace hK : KB w (w.heap.size + 1 + 1) (w2.heap.size + 1) p k m n ((qs.take j).map (traQ n m k)) v wdc := by rw [← hwdc]; exact hK.drew
      replace h0 : At wdc w.heap.size (.cells #[.int .i64 p, .int .i64 n, .int .i64 m, .int .i64 k, .slice (some ⟨b, off, none⟩) qs.length cap] 28 (0, 0)) := by rw [← hwdc]; exact h0
      replace h1 : At wdc (w.heap.size + 1) (.cells #[.int .i64 0, .int .i64 0, .int .i64 0, .int .i64 0, .slice none 0 0] 28 (0, 0)) := by rw [← hwdc]; exact h1
      replace hq : At wdc wr.heap.size (.cells (u8s (cat3 QA QB QC)) 40 (0, 0)) := by rw [← hwdc]; exact hq
      clear hwdc
      refine z_yield 0 (some 33) (.pointer (some ⟨w2.heap.size + 1, 4, none⟩)) rfl (by kernel_rfl) (by kernel_rfl) (by kernel_rfl) (by kernel_rfl) (fun _ _ _ h => h) rfl rfl ⟨hK.box, h0, hq⟩ (fun w' h' => exec_fieldAddr 28 _ 4 rfl _ (by kernel_rfl)) ?_
      go_frame
      refine z_yield 1 (some 34) (v) rfl (by kernel_rfl) (by kernel_rfl) (by kernel_rfl) (by kernel_rfl) (fun _ _ _ h => h) rfl rfl ⟨hK.box, h0, hq⟩ (fun w' h' => exec_load_one 26 _ rfl (w2.heap.size + 1) 4 rfl _ _ Try.underlying26 rfl (h'.1.at_ 4)) ?_
      go_frame
      refine z_yield 2 (some 35) (.pointer (some ⟨wr.heap.size, 9, none⟩)) rfl (by kernel_rfl) (by kernel_rfl) (by kernel_rfl) (by kernel_rfl) (fun _ _ _ h => h) rfl rfl ⟨hK.box, h0, hq⟩ (fun w' h' => exec_fieldAddr 40 _ 1 rfl _ (by kernel_rfl)) ?_
      go_frame
      refine z_yield 3 (some 36) (.agg (u8s QB)) rfl (by kernel_rfl) (by kernel_rfl) (by kernel_rfl) (by kernel_rfl) (fun _ _ _ h => h) rfl rfl ⟨hK.box, h0, hq⟩ (fun w' h' => exec_load_seg 38 _ rfl wr.heap.size 9 rfl _ (cat3 QA QB QC) _ 9 h'.2.2 Try.underlying38 rfl (by kernel_rfl) (by omega) _ (segm_b hQA.len hQB.len)) ?_
      go_frame
      refine z_yield 4 (some 37) (.pointer (some ⟨w.heap.size, 2, none⟩)) rfl (by kernel_rfl) (by kernel_rfl) (by kernel_rfl) (by kernel_rfl) (fun _ _ _ h => h) rfl rfl ⟨hK.box, h0, hq⟩ (fun w' h' => exec_fieldAddr 28 _ 2 rfl _ (by kernel_rfl)) ?_
      go_frame
      refine z_yield 5 (some 38) (.int .i64 m) rfl (by kernel_rfl) (by kernel_rfl) (by kernel_rfl) (by kernel_rfl) (fun _ _ _ h => h) rfl rfl ⟨hK.box, h0, hq⟩ (fun w' h' => exec_load_one 2 _ rfl w.heap.size 2 rfl _ _ Try.underlying2 rfl (h'.2.1.at_ 2)) ?_
      go_frame
      refine z_yield 6 (some 39) (.pointer (some ⟨w.heap.size, 3, none⟩)) rfl (by kernel_rfl) (by kernel_rfl) (by kernel_rfl) (by kernel_rfl) (fun _ _ _ h => h) rfl rfl ⟨hK.box, h0, hq⟩ (fun w' h' => exec_fieldAddr 28 _ 3 rfl _ (by kernel_rfl)) ?_
      go_frame
      refine z_yield 7 (some 40) (.int .i64 k) rfl (by kernel_rfl) (by kernel_rfl) (by kernel_rfl) (by kernel_rfl) (fun _ _ _ h => h) rfl rfl ⟨hK.box, h0, hq⟩ (fun w' h' => exec_load_one 2 _ rfl w.heap.size 3 rfl _ _ Try.underlying2 rfl (h'.2.1.at_ 3)) ?_
      go_frame
      refine z_yield 9 (some 42) (.pointer (some ⟨wr.heap.size, 0, none⟩)) rfl (by kernel_rfl) (by kernel_rfl) (by kernel_rfl) (by kernel_rfl) (fun _ _ _ h => h) rfl rfl ⟨hK.box, h0, hq⟩ (fun w' h' => exec_fieldAddr 40 _ 0 rfl _ (by kernel_rfl)) ?_
      go_frame
      refine z_yield 10 (some 43) (.agg (u8s QA)) rfl (by kernel_rfl) (by kernel_rfl) (by kernel_rfl) (by kernel_rfl) (fun _ _ _ h => h) rfl rfl ⟨hK.box, h0, hq⟩ (fun w' h' => exec_load_seg 38 _ rfl wr.heap.size 0 rfl _ (cat3 QA QB QC) _ 9 h'.2.2 Try.underlying38 rfl (by kernel_rfl) (by omega) _ (segm_a hQA.len)) ?_
      go_frame
      refine z_yield 11 (some 44) (.pointer (some ⟨w.heap.size, 1, none⟩)) rfl (by kernel_rfl) (by kernel_rfl) (by kernel_rfl) (by kernel_rfl) (fun _ _ _ h => h) rfl rfl ⟨hK.box, h0, hq⟩ (fun w' h' => exec_fieldAddr 28 _ 1 rfl _ (by kernel_rfl)) ?_
      go_frame
      refine z_yield 12 (some 45) (.int .i64 n) rfl (by kernel_rfl) (by kernel_rfl) (by kernel_rfl) (by kernel_rfl) (fun _ _ _ h => h) rfl rfl ⟨hK.box, h0, hq⟩ (fun w' h' => exec_load_one 2 _ rfl w.heap.size 1 rfl _ _ Try.underlying2 rfl (h'.2.1.at_ 1)) ?_
      go_frame
      refine z_yield 13 (some 46) (.pointer (some ⟨w.heap.size, 2, none⟩)) rfl (by kernel_rfl) (by kernel_rfl) (by kernel_rfl) (by kernel_rfl) (fun _ _ _ h => h) rfl rfl ⟨hK.box, h0, hq⟩ (fun w' h' => exec_fieldAddr 28 _ 2 rfl _ (by kernel_rfl)) ?_
      go_frame
      refine z_yield 14 (some 47) (.int .i64 m) rfl (by kernel_rfl) (by kernel_rfl) (by kernel_rfl) (by kernel_rfl) (fun _ _ _ h => h) rfl rfl ⟨hK.box, h0, hq⟩ (fun w' h' => exec_load_one 2 _ rfl w.heap.size 2 rfl _ _ Try.underlying2 rfl (h'.2.1.at_ 2)) ?_
      go_frame
      refine z_yield 16 (some 49) (.pointer (some ⟨wr.heap.size, 18, none⟩)) rfl (by kernel_rfl) (by kernel_rfl) (by kernel_rfl) (by kernel_rfl) (fun _ _ _ h => h) rfl rfl ⟨hK.box, h0, hq⟩ (fun w' h' => exec_fieldAddr 40 _ 2 rfl _ (by kernel_rfl)) ?_
      go_frame
      refine z_yield 17 (some 50) (.agg (u8s QC)) rfl (by kernel_rfl) (by kernel_rfl) (by kernel_rfl) (by kernel_rfl) (fun _ _ _ h => h) rfl rfl ⟨hK.box, h0, hq⟩ (fun w' h' => exec_load_seg 38 _ rfl wr.heap.size 18 rfl _ (cat3 QA QB QC) _ 9 h'.2.2 Try.underlying38 rfl (by kernel_rfl) (by omega) _ (segm_c hQA.len hQB.len hQC.len)) ?_
      go_frame
      refine z_yield 18 (some 51) (.pointer (some ⟨w.heap.size, 1, none⟩)) rfl (by kernel_rfl) (by kernel_rfl) (by kernel_rfl) (by kernel_rfl) (fun _ _ _ h => h) rfl rfl ⟨hK.box, h0, hq⟩ (fun w' h' => exec_fieldAddr 28 _ 1 rfl _ (by kernel_rfl)) ?_
      go_frame
      refine z_yield 19 (some 52) (.int .i64 n) rfl (by kernel_rfl) (by kernel_rfl) (by kernel_rfl) (by kernel_rfl) (fun _ _ _ h => h) rfl rfl ⟨hK.box, h0, hq⟩ (fun w' h' => exec_load_one 2 _ rfl w.heap.size 1 rfl _ _ Try.underlying2 rfl (h'.2.1.at_ 1)) ?_
      go_frame
      refine z_yield 20 (some 53) (.pointer (some ⟨w.heap.size, 3, none⟩)) rfl (by kernel_rfl) (by kernel_rfl) (by kernel_rfl) (by kernel_rfl) (fun _ _ _ h => h) rfl rfl ⟨hK.box, h0, hq⟩ (fun w' h' => exec_fieldAddr 28 _ 3 rfl _ (by kernel_rfl)) ?_
      go_frame
      refine z_yield 21 (some 54) (.int .i64 k) rfl (by kernel_rfl) (by kernel_rfl) (by kernel_rfl) (by kernel_rfl) (fun _ _ _ h => h) rfl rfl ⟨hK.box, h0, hq⟩ (fun w' h' => exec_load_one 2 _ rfl w.heap.size 3 rfl _ _ Try.underlying2 rfl (h'.2.1.at_ 3)) ?_
      go_frame
      refine z_oper 8 (by kernel_rfl) rfl rfl (fun K' hK' => ?_)
      refine wp_call3 (some 41) rfl 16 _ _ _ _ rfl (fun args w => by kernel_rfl) _ _ _ rfl rfl rfl _ (HB.out _) (fun e wnc1 h => ?_)
      obtain ⟨rfl, bc2⟩ := h
      replace hK := hK.after bc2
      replace h0 := h0.after bc2
      replace h1 := h1.after bc2
      replace hq := hq.after bc2
      clear bc2
      refine ⟨_, rfl, hK' _ _ (fun _ => ⟨hK.box, h0, hq⟩) ?_⟩
      clear hK' K'
      go_frame
      refine z_oper 15 (by kernel_rfl) rfl rfl (fun K' hK' => ?_)
      refine wp_call3 (some 48) rfl 16 _ _ _ _ rfl (fun args w => by kernel_rfl) _ _ _ rfl rfl rfl _ (HA.out _) (fun e wnc3 h => ?_)
      obtain ⟨rfl, bc4⟩ := h
      replace hK := hK.after bc4
      replace h0 := h0.after bc4
      replace h1 := h1.after bc4
      replace hq := hq.after bc4
      clear bc4
      refine ⟨_, rfl, hK' _ _ (fun _ => ⟨hK.box, h0, hq⟩) ?_⟩
      clear hK' K'
      go_frame
      refine z_oper 22 (by kernel_rfl) rfl rfl (fun K' hK' => ?_)
      refine wp_call3 (some 55) rfl 16 _ _ _ _ rfl (fun args w => by kernel_rfl) _ _ _ rfl rfl rfl _ (HC.out _) (fun e wnc5 h => ?_)
      obtain ⟨rfl, bc6⟩ := h
      replace hK := hK.after bc6
      replace h0 := h0.after bc6
      replace h1 := h1.after bc6
      replace hq := hq.after bc6
      clear bc6
      refine ⟨_, rfl, hK' _ _ (fun _ => ⟨hK.box, h0, hq⟩) ?_⟩
      clear hK' K'
      go_frame
      refine z_yield 23 (some 56) (.agg (u8s (cat3 FB FA FC))) rfl (by kernel_rfl) (by kernel_rfl) (by kernel_rfl) (by kernel_rfl) (fun _ _ _ h => h) rfl rfl ⟨hK.box, h0, hq⟩ (fun w' h' => exec_prod _ _ _ rfl FB FA FC rfl rfl rfl hFB.len hFA.len hFC.len) ?_
      go_frame
      refine z_oper 24 (by kernel_rfl) rfl rfl (fun K' hK' => ?_)
      refine wp_slice1 (some 57) rfl 26 40 _ rfl (cat3 FB FA FC) rfl Try.underlying26 infoProd hR.len (fun wsc7 nnc8 => ?_)
      have bc9 := nnc8.below (Below.refl _ _) (Nat.le_refl _)
      have hRq := Rd.one nnc8 hR
      replace hK := hK.after bc9
      replace h0 := h0.after bc9
      replace h1 := h1.after bc9
      replace hq := hq.after bc9
      refine hK' _ _ (fun _ => ⟨hK.box, h0, hq⟩) ?_
      clear hK' K' bc9 nnc8
      go_frame
      refine z_oper 25 (by kernel_rfl) rfl rfl (fun K' hK' => ?_)
      refine wp_append_rd (some 58) rfl _ _ rfl v ((qs.take j).map (traQ n m k)) [cat3 FB FA FC] rfl hK.own (some ⟨_, 0, none⟩) 1 rfl hRq (by simp) (by simp; omega) (by have := hK.box.lt; omega) (fun v8 wsc10 ho8 gr => ?_)
      have G := hK.grow2 gr ho8
      replace h0 := h0.grown gr (hK.own.off h0 (by decide))
      replace h1 := h1.grown gr (hK.own.off h1 (by decide))
      replace hq := hq.grown gr naw
      refine hK' _ _ (fun _ => ⟨G.2.2, h0, hq⟩) ?_
      clear hK' K' gr hRq
      go_frame
      refine z_yield 26 (some 59) (.pointer (some ⟨w2.heap.size + 1, 4, none⟩)) rfl (by kernel_rfl) (by kernel_rfl) (by kernel_rfl) (by kernel_rfl) (fun _ _ _ h => h) rfl rfl ⟨G.2.2, h0, hq⟩ (fun w' h' => exec_fieldAddr 28 _ 4 rfl _ (by kernel_rfl)) ?_
      go_frame
      refine z_oper 27 (by kernel_rfl) rfl rfl (fun K' hK' => ?_)
      have hv8 := ho8.shp.cells
      refine wp_store_one 26 _ _ rfl rfl (w2.heap.size + 1) 4 rfl v8 rfl hv8.1 hv8.2 _ _ G.2.2 (by kernel_rfl) (by simp) (fun wsc11 pc12 => ?_)
      replace h0 := pc12.other h0 (by omega)
      replace h1 := pc12.other h1 (by omega)
      have hK2 := KB.put G (by omega) (by omega) (by exact pc12)
      refine hK' _ _ (fun h => absurd rfl h) ?_
      clear hK' K' pc12
      refine z_done (by kernel_rfl) ?_ _
      go_wp2_with fail
      go_roundw
      case rel => exact ⟨j + 1, v8, by omega, by go_num, by rw [HT.out]; exact hK2, h0, h1⟩
      case measure => simp [intOf]; omega
    · obtain rfl : j = qs.length := by omega
      rw [List.take_length] at hK
      have hv := hK.own.shp.cells
      have n1 := hK.own.off h1 (by decide)
      go_wp2_with (first | (refine wpList_load_all rfl 28 _ rfl (w2.heap.size + 1) rfl _ _ _ hK.box Try.underlying28 rfl 5 (by kernel_rfl) rfl ?_) | (refine wpList_store_all rfl 28 _ _ rfl rfl (w.heap.size + 1) rfl _ rfl _ _ h1 5 (by kernel_rfl) rfl rfl (by intro x hx; simp at hx; rcases hx with rfl | rfl | rfl | rfl | rfl <;> first | rfl | exact hv.2) ?_; intro w3 p3))
      refine bodyPost_ret (results_at2 rfl _ _ (w.heap.size + 1) _ _ _ rfl _ rfl p3.at_ Try.underlying28 rfl 5 (by kernel_rfl) rfl) rfl ?_
      exact ⟨v, rfl, (hK.own.put p3 n1).mono (by omega), p3.below hK.below (by omega)⟩
set_option maxHeartbeats 800000 in
theorem specTransposeScheme_c (p n m k : Int) (A : Option Addr) (cap : Nat) (qs : List (List Nat)) (w : World) (hr : Rd w A qs) (hlen : qs.length ≤ 1048576) :
    Calls Try.prog 12 #[.agg #[.int .i64 p, .int .i64 n, .int .i64 m, .int .i64 k, .slice A qs.length cap]] w
      (ResS w (nrmZ p n m k qs p) (nrmZ p n m k qs k) (nrmZ p n m k qs m) (nrmZ p n m k qs n) (eachQs (traQ n.toNat m.toNat k.toNat) p n m k qs) (nrmCode p n m k qs)) := by
  cases hs : schemeB p n m k qs with
  | false =>
    have Hs := Lib.hid hs
    have HI := Lib.hid (fun w hr => l01Is_c p n m k A cap qs w hr hlen)
    have Hz : Hid (∀ x, nrmZ p n m k qs x = 0) := Lib.hid (fun x => by simp [nrmZ, hs])
    have Hq : Hid (eachQs (traQ n.toNat m.toNat k.toNat) p n m k qs = [] ∧ nrmCode p n m k qs = 1) := Lib.hid (by simp [eachQs, nrmCode, hs])
    clear hs
    go_enter Try.func12, Try.ntmps12
    go_wp2_with (first | (refine wpList_abs2 ?_; intro W hsz hB h0 h1) | (refine wpList_load_all rfl 28 _ rfl w.heap.size rfl _ _ _ h0 Try.underlying28 rfl 5 (by kernel_rfl) rfl ?_))
    refine (HI.out _ (hr.keep hB)).mono ?_
    rintro e w1 ⟨rfl, b1⟩
    rw [Hs.out]
    replace h1 := h1.after b1
    replace hB := below_after hB b1
    clear b1 hsz h0
    go_wp2_with (refine wpList_store_all rfl 28 _ _ rfl rfl (w.heap.size + 1) rfl _ rfl _ _ h1 5 (by kernel_rfl) rfl rfl (by simp [Value.oneCell']) ?_; intro W2 p2)
    refine bodyPost_ret (results_at2 rfl _ _ (w.heap.size + 1) _ _ _ rfl _ rfl p2.at_ Try.underlying28 rfl 5 (by kernel_rfl) rfl) rfl ?_
    exact ⟨.slice none 0 0, by rw [Hz.out, Hz.out, Hz.out, Hz.out, Hq.out.2]; rfl, by rw [Hq.out.1]; exact Own.nil _ _, p2.below hB (by omega)⟩
  | true =>
    have h3 := sizesB_parts (schemeB_sizes hs)
    have hn := sizeB_in h3.2.1
    have hm := sizeB_in h3.2.2.1
    have hk := sizeB_in h3.2.2.2
    have hz : ∀ x, nrmZ p n m k qs x = x := fun x => by simp [nrmZ, hs]
    have hq : eachQs (traQ n.toNat m.toNat k.toNat) p n m k qs = qs.map (traQ n.toNat m.toNat k.toNat) := by simp [eachQs, hs]
    have hc : nrmCode p n m k qs = 0 := by simp [nrmCode, hs]
    rw [hz, hz, hz, hz, hq, hc]
    have h := specTransposeScheme_yes p n.toNat m.toNat k.toNat A cap qs w hr (by rw [hn.1, hm.1, hk.1]; exact hs) hn.2 hm.2 hk.2
    rw [hn.1, hm.1, hk.1] at h
    exact h
end Go.Proofs.Ytolbkaojhkgidaa
