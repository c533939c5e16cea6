/-
  spec.l03AllNormal. (Made by mknrm3.py.)
-/
import Derived.Test.YtemkhlokpinecaaNrm0
namespace Go.Proofs.Ytemkhlokpinecaa
open Go.RowKit
set_option maxRecDepth 100000
set_option maxHeartbeats 3200000 in
theorem l03AllNormal_c (p n m k : Int) (A : Option Addr) (cap : Nat) (qs : List (List Nat)) (w : World) (hr : Rd w A qs) (hlen : qs.length ≤ 1000) (hp : primeB p = true) (hL : ∀ q ∈ qs, LeadOk p q) :
    Calls Try.prog 54 #[.agg #[.int .i64 p, .int .i64 n, .int .i64 m, .int .i64 k, .slice A qs.length cap]] w
      fun e w' => ∃ v, e = .returned (.agg #[.int .i64 p, .int .i64 n, .int .i64 m, .int .i64 k, v]) ∧ Own w' w.heap.size v (qs.map (normQ p)) ∧ Below w.heap.size w w' := by
  have HL := Lib.hid hL
  clear hL
  go_enter Try.func54, Try.ntmps54
  go_wp2_with (first | (refine wpList_load_all rfl 28 _ rfl w.heap.size rfl _ _ _ (al2_0 _ _ _) Try.underlying28 rfl 5 (by kernel_rfl) rfl ?_))
  refine (l01Empty_c p n m k _ _).mono ?_
  rintro e w3 ⟨v6, rfl, ho, b3⟩
  have h0 : At w3 w.heap.size (.cells #[.int .i64 p, .int .i64 n, .int .i64 m, .int .i64 k, .slice A qs.length cap] 28 (0, 0)) := At.after (al2_0 _ _ _) b3
  have h1 : At w3 (w.heap.size + 1) (.cells #[.int .i64 0, .int .i64 0, .int .i64 0, .int .i64 0, .slice none 0 0] 28 (0, 0)) := At.after (al2_1 _ _ _) b3
  have hB := below_after (below2 w _ _) b3
  have l3 := b3.size
  rw [size_al2] at ho l3
  have bx := below1 w3 (.cells #[.int .i64 p, .int .i64 n, .int .i64 m, .int .i64 k, v6] 28 (0, 0))
  have hK0 : KB w (w.heap.size + 1 + 1) w3.heap.size p n m k ((qs.take 0).map (normQ p)) v6 (w3.alloc (.cells #[.int .i64 p, .int .i64 n, .int .i64 m, .int .i64 k, v6] 28 (0, 0))) := by
    exact ⟨below_after hB bx, ho.below bx, al1_0 _ _, by omega, by omega⟩
  replace h0 := h0.after bx
  replace h1 := h1.after bx
  have hgw : w.heap.size + 1 + 1 ≤ w3.heap.size := by omega
  clear b3 bx hB ho
  obtain ⟨A6, c6, hv6, _⟩ := hK0.own.rd (by simp)
  subst hv6
  go_wp2_with fail
  go_loopw [4] (fun i wr => ∃ (j : Nat) (v : Value), j ≤ qs.length ∧ i = .int .i64 j ∧ KB w (w.heap.size + 1 + 1) w3.heap.size p n m k ((qs.take j).map (normQ p)) v wr ∧ At wr w.heap.size (.cells #[.int .i64 p, .int .i64 n, .int .i64 m, .int .i64 k, .slice A qs.length cap] 28 (0, 0)) ∧ At wr (w.heap.size + 1) (.cells #[.int .i64 0, .int .i64 0, .int .i64 0, .int .i64 0, .slice none 0 0] 28 (0, 0))) (fun i _ => qs.length - (intOf i).toNat)
  case atStart => exact ⟨0, _, by omega, rfl, hK0, h0, h1⟩
  case round =>
    clear hK0 h0 h1
    obtain ⟨j, v, hj, rfl, hK, h0, h1⟩ := hrel
    have c4 : wr.cell? ⟨w.heap.size, 4, none⟩ = some (.slice A qs.length cap) := h0.at_ 4
    by_cases hlt : j < qs.length
    · have e0 : IntKind.i64.wrap ((j : Int) + 1) = (j : Int) + 1 := IntWalk.i64_in _ (by omega)
      obtain ⟨b, off, rfl, _⟩ := hr.at_ hlt
      have hqj := hr.good _ (List.getElem_mem hlt)
      have HN := Lib.hid (fun w => l03Normal_c p qs[j] hqj w hp (HL.out _ (List.getElem_mem hlt)))
      have hnj := normQ_bytes qs[j] hp
      have HT : Hid ((qs.take (j + 1)).map (normQ p) = (qs.take j).map (normQ p) ++ [normQ p qs[j]]) := Lib.hid (by rw [List.take_succ_eq_append_getElem hlt, List.map_append]; rfl)
      have hlo := hK.below.size
      have hlj : ((qs.take j).map (normQ p)).length ≤ 1000 := by simp; omega
      go_wp2_with fail
      refine wp_region_z (z := 13) (S := fun w' => At w' w3.heap.size (.cells #[.int .i64 p, .int .i64 n, .int .i64 m, .int .i64 k, v] 28 (0, 0)) ∧ At w' w.heap.size (.cells #[.int .i64 p, .int .i64 n, .int .i64 m, .int .i64 k, .slice (some ⟨b, off, none⟩) qs.length cap] 28 (0, 0)) ∧ ∀ j', j' < 27 → w'.cell? ⟨b, off + j * 27 + j', none⟩ = some (.int .u8 ((qs[j][j']?.getD 0 : Nat) : Int))) (by kernel_rfl) ?_
      change wpAnyZ _ _ _ _ _ _ _ _ _ (World.drew _)
      generalize hwd : World.drew _ = wd
      replace hK : KB w (w.heap.size + 1 + 1) w3.heap.size p n m k ((qs.take j).map (normQ p)) v wd := by rw [← hwd]; exact hK.drew
      replace h0 : At wd w.heap.size (.cells #[.int .i64 p, .int .i64 n, .int .i64 m, .int .i64 k, .slice (some ⟨b, off, none⟩) qs.length cap] 28 (0, 0)) := by rw [← hwd]; exact h0
      replace h1 : At wd (w.heap.size + 1) (.cells #[.int .i64 0, .int .i64 0, .int .i64 0, .int .i64 0, .slice none 0 0] 28 (0, 0)) := by rw [← hwd]; exact h1
      clear hwd
      refine z_yield 0 (some 14) (.pointer (some ⟨w3.heap.size, 4, none⟩)) rfl (by kernel_rfl) (by kernel_rfl) (by kernel_rfl) (by kernel_rfl) (fun _ _ _ h => h) rfl rfl ⟨hK.box, h0, Rd.cells27 (hr.keep hK.below) hlt⟩ (fun w' h' => exec_fieldAddr 28 _ 4 rfl _ (by kernel_rfl)) ?_
      go_frame
      refine z_yield 1 (some 15) (v) rfl (by kernel_rfl) (by kernel_rfl) (by kernel_rfl) (by kernel_rfl) (fun _ _ _ h => h) rfl rfl ⟨hK.box, h0, Rd.cells27 (hr.keep hK.below) hlt⟩ (fun w' h' => exec_load_one 26 _ rfl w3.heap.size 4 rfl _ _ Try.underlying26 rfl (h'.1.at_ 4)) ?_
      go_frame
      refine z_yield 2 (some 16) (.pointer (some ⟨w.heap.size, 0, none⟩)) rfl (by kernel_rfl) (by kernel_rfl) (by kernel_rfl) (by kernel_rfl) (fun _ _ _ h => h) rfl rfl ⟨hK.box, h0, Rd.cells27 (hr.keep hK.below) hlt⟩ (fun w' h' => exec_fieldAddr 28 _ 0 rfl _ (by kernel_rfl)) ?_
      go_frame
      refine z_yield 3 (some 17) (.int .i64 p) rfl (by kernel_rfl) (by kernel_rfl) (by kernel_rfl) (by kernel_rfl) (fun _ _ _ h => h) rfl rfl ⟨hK.box, h0, Rd.cells27 (hr.keep hK.below) hlt⟩ (fun w' h' => exec_load_one 2 _ rfl w.heap.size 0 rfl _ _ Try.underlying2 rfl (h'.2.1.at_ 0)) ?_
      go_frame
      refine z_yield 4 (some 18) (.pointer (some ⟨w.heap.size, 4, none⟩)) rfl (by kernel_rfl) (by kernel_rfl) (by kernel_rfl) (by kernel_rfl) (fun _ _ _ h => h) rfl rfl ⟨hK.box, h0, Rd.cells27 (hr.keep hK.below) hlt⟩ (fun w' h' => exec_fieldAddr 28 _ 4 rfl _ (by kernel_rfl)) ?_
      go_frame
      refine z_yield 5 (some 19) (.slice (some ⟨b, off, none⟩) qs.length cap) rfl (by kernel_rfl) (by kernel_rfl) (by kernel_rfl) (by kernel_rfl) (fun _ _ _ h => h) rfl rfl ⟨hK.box, h0, Rd.cells27 (hr.keep hK.below) hlt⟩ (fun w' h' => exec_load_one 26 _ rfl w.heap.size 4 rfl _ _ Try.underlying26 rfl (h'.2.1.at_ 4)) ?_
      go_frame
      refine z_yield 6 (some 20) (.int .i64 j) rfl (by kernel_rfl) (by kernel_rfl) (by kernel_rfl) (by kernel_rfl) (fun _ _ _ h => h) rfl rfl ⟨hK.box, h0, Rd.cells27 (hr.keep hK.below) hlt⟩ (fun w' h' => exec_move _ rfl (.int .i64 j) rfl) ?_
      go_frame
      refine z_yield 7 (some 21) (.pointer (some ⟨b, off + j * 27, none⟩)) rfl (by kernel_rfl) (by kernel_rfl) (by kernel_rfl) (by kernel_rfl) (fun _ _ _ h => h) rfl rfl ⟨hK.box, h0, Rd.cells27 (hr.keep hK.below) hlt⟩ (fun w' h' => exec_index_slice _ 53 _ _ rfl b off qs.length cap j 27 rfl rfl Try.underlying26 (by kernel_rfl) hlt) ?_
      go_frame
      refine z_yield 8 (some 22) (.agg (u8s qs[j])) rfl (by kernel_rfl) (by kernel_rfl) (by kernel_rfl) (by kernel_rfl) (fun _ _ _ h => h) rfl rfl ⟨hK.box, h0, Rd.cells27 (hr.keep hK.below) hlt⟩ (fun w' h' => exec_load_cells 53 _ rfl b (off + j * 27) rfl qs[j] _ 27 h'.2.2 Try.underlying53 rfl (by kernel_rfl) hqj.len) ?_
      go_frame
      refine z_oper 9 (by kernel_rfl) rfl rfl (fun K' hK' => ?_)
      refine wp_call2 (some 23) rfl 85 _ _ _ rfl (fun args w => by kernel_rfl) _ _ rfl rfl _ (HN.out _) (fun e wn h => ?_)
      obtain ⟨rfl, b1⟩ := h
      replace hK := hK.after b1
      replace h0 := h0.after b1
      replace h1 := h1.after b1
      clear b1
      refine ⟨_, rfl, hK' _ _ (fun _ => ⟨hK.box, h0, Rd.cells27 (hr.keep hK.below) hlt⟩) ?_⟩
      clear hK' K'
      go_frame
      refine z_oper 10 (by kernel_rfl) rfl rfl (fun K' hK' => ?_)
      refine wp_slice1 (some 24) rfl 26 53 _ rfl (normQ p qs[j]) rfl Try.underlying26 infoProd hnj.len (fun ws n7 => ?_)
      have nq := hK.own.away_new
      have hRq := Rd.one n7 hnj
      have b7 := n7.below (Below.refl _ _) (Nat.le_refl _)
      replace hK := hK.after b7
      replace h0 := h0.after b7
      replace h1 := h1.after b7
      have lw := hK.below.size
      refine hK' _ _ (fun _ => ⟨hK.box, h0, Rd.cells27 (hr.keep hK.below) hlt⟩) ?_
      clear b7 n7
      clear hK' K'
      go_frame
      refine z_oper 11 (by kernel_rfl) rfl rfl (fun K' hK' => ?_)
      refine wp_append_rd (some 25) rfl _ _ rfl v ((qs.take j).map (normQ p)) [normQ p qs[j]] rfl hK.own (some ⟨_, 0, none⟩) 1 rfl hRq (by simp) (by simp; omega) (by have := hK.box.lt; omega) (fun v8 w8 ho8 gr => ?_)
      have G := hK.grow2 gr ho8
      have hRd := hr.keep G.1
      replace h0 := h0.grown gr (hK.own.off h0 (by decide))
      replace h1 := h1.grown gr (hK.own.off h1 (by decide))
      refine hK' _ _ (fun _ => ⟨G.2.2, h0, Rd.cells27 hRd hlt⟩) ?_
      clear hRq nq gr hRd
      clear hK' K'
      go_frame
      refine z_yield 12 (some 26) (.pointer (some ⟨w3.heap.size, 4, none⟩)) rfl (by kernel_rfl) (by kernel_rfl) (by kernel_rfl) (by kernel_rfl) (fun _ _ _ h => h) rfl rfl ⟨G.2.2, h0, Rd.cells27 (hr.keep G.1) hlt⟩ (fun w' h' => exec_fieldAddr 28 _ 4 rfl _ (by kernel_rfl)) ?_
      go_frame
      refine z_oper 13 (by kernel_rfl) rfl rfl (fun K' hK' => ?_)
      have hv8 := ho8.shp.cells
      refine wp_store_one 26 _ _ rfl rfl w3.heap.size 4 rfl v8 rfl hv8.1 hv8.2 _ _ G.2.2 (by kernel_rfl) (by simp) (fun w9 p9 => ?_)
      replace h0 := p9.other h0 (by omega)
      replace h1 := p9.other h1 (by omega)
      have hK2 := KB.put G (by omega) (by omega) (by exact p9)
      refine hK' _ _ (fun h => absurd rfl h) ?_
      clear hK' K'
      refine z_done (by kernel_rfl) ?_ _
      go_wp2_with fail
      go_roundw
      case rel => exact ⟨j + 1, v8, by omega, by go_num, by rw [HT.out]; exact hK2, h0, h1⟩
      case measure => simp [intOf]; omega
    · obtain rfl : j = qs.length := by omega
      rw [List.take_length] at hK
      have hv := hK.own.shp.cells
      have n1 := hK.own.off h1 (by decide)
      go_wp2_with (first | (refine wpList_load_all rfl 28 _ rfl w3.heap.size rfl _ _ _ hK.box Try.underlying28 rfl 5 (by kernel_rfl) rfl ?_) | (refine wpList_store_all rfl 28 _ _ rfl rfl (w.heap.size + 1) rfl _ rfl _ _ h1 5 (by kernel_rfl) rfl rfl (by intro x hx; simp at hx; rcases hx with rfl | rfl | rfl | rfl | rfl <;> first | rfl | exact hv.2) ?_; intro w3 p3))
      refine bodyPost_ret (results_at rfl _ _ (w.heap.size + 1) _ _ _ rfl p3.at_ Try.underlying28 rfl 5 (by kernel_rfl) rfl) rfl ?_
      exact ⟨v, rfl, (hK.own.put p3 n1).mono (by omega), p3.below hK.below (by omega)⟩
end Go.Proofs.Ytemkhlokpinecaa
