/-
  spec.l05Of, spec.TensorOfScheme. (Made by mktos.py.)
-/
import Derived.Test.YtcmpeoijedddjaaTenA
import Derived.Test.YtcmpeoijedddjaaTenK
import Derived.Test.YtcmpeoijedddjaaLeft2
namespace Go.Proofs.Ytcmpeoijedddjaa
open Go.RowKit
set_option maxRecDepth 100000
/-- The numbers of the tensor of a scheme. -/
def tosL (p : Int) (n0 n1 n2 : Nat) (qs : List (List Nat)) : List Int := genL n1 n2 p (fun i j k => ((sumN qs i j k : Nat) : Int)) (n0 * n1 * n2)
theorem tosL_len (p : Int) (n0 n1 n2 : Nat) (qs : List (List Nat)) : (tosL p n0 n1 n2 qs).length = n0 * n1 * n2 := genL_len _ _ _ _ _
theorem size_n {n : Nat} (h : 1 ≤ n ∧ n ≤ 3) : sizeB n = true := by
  simp only [sizeB, Bool.and_eq_true, decide_eq_true_eq]
  omega
set_option maxHeartbeats 3200000 in
theorem l05Of_c (P n m k : Nat) (A : Option Addr) (cap : Nat) (qs : List (List Nat)) (w : World) (hr : Rd w A qs) (h30 : qs.length ≤ 30) (hP : 2 ≤ P ∧ P ≤ 5) (hn : 1 ≤ n ∧ n ≤ 3) (hm : 1 ≤ m ∧ m ≤ 3) (hk : 1 ≤ k ∧ k ≤ 3) :
    Calls Try.prog 44 #[.agg #[.int .i64 P, .int .i64 n, .int .i64 m, .int .i64 k, .slice A qs.length cap]] w
      fun e w' => ∃ v, e = .returned (.agg #[.int .i64 P, .int .i64 (n * m : Nat), .int .i64 (m * k : Nat), .int .i64 (n * k : Nat), v]) ∧ OwnI w' w.heap.size v (tosL P (n * m) (m * k) (n * k) qs) ∧ Below w.heap.size w w' := by
  obtain ⟨N0, hN0⟩ : ∃ N, N = n * m := ⟨_, rfl⟩
  obtain ⟨N1, hN1⟩ : ∃ N, N = m * k := ⟨_, rfl⟩
  obtain ⟨N2, hN2⟩ : ∃ N, N = n * k := ⟨_, rfl⟩
  have l0 : N0 ≤ 9 := by rw [hN0]; exact Nat.mul_le_mul hn.2 hm.2
  have l1 : N1 ≤ 9 := by rw [hN1]; exact Nat.mul_le_mul hm.2 hk.2
  have l2 : N2 ≤ 9 := by rw [hN2]; exact Nat.mul_le_mul hn.2 hk.2
  have HI0 : Hid ((n : Int) * (m : Int) = (N0 : Int)) := Lib.hid (by rw [hN0]; simp)
  have HI1 : Hid ((m : Int) * (k : Int) = (N1 : Int)) := Lib.hid (by rw [hN1]; simp)
  have HI2 : Hid ((n : Int) * (k : Int) = (N2 : Int)) := Lib.hid (by rw [hN2]; simp)
  rw [← hN0, ← hN1, ← hN2]
  have HLn := Lib.hid (fun w => l01Lengths_c P n m k (.slice A qs.length cap) w (size_n hn) (size_n hm) (size_n hk))
  have HE := Lib.hid (fun w => l05Empty_c P N0 N1 N2 w l0 l1 l2)
  obtain ⟨F, hF⟩ : ∃ F : Nat → Int, F = gen N1 N2 P (fun i j k => ((sumN qs i j k : Nat) : Int)) := ⟨_, rfl⟩
  have HFat : Hid (∀ (i j k : Nat), j < N1 → k < N2 → F ((i * N1 + j) * N2 + k) = ((sumN qs i j k : Nat) : Int) % (P : Int)) := Lib.hid (fun i j k hj hk => by rw [hF]; exact gen_at hj hk)
  have hN : N0 * N1 * N2 ≤ 729 := places_729 l0 l1 l2
  have HPl : Hid (∀ (i j k : Nat), i < N0 → j < N1 → k < N2 → (i * N1 + j) * N2 + k < N0 * N1 * N2) := Lib.hid (fun _ _ _ hi hj hk => place_lt hi hj hk)
  have HEnd : Hid (seqP F (N0 * N1 * N2) (N0 * N1 * N2) = tosL P N0 N1 N2 qs) := Lib.hid (by rw [seqP_end, hF]; rfl)
  have HSumN := Lib.hid (fun a b c w' (ha : a < 9) (hb : b < 9) (hc : c < 9) (h : Below w.heap.size w w') => l01Sum_c P n m k A cap qs a b c w' (by omega) (hr.keep h) h30 ha hb hc)
  clear hr hN0 hN1 hN2 hF
  obtain ⟨N, HNe⟩ : ∃ N : Nat, Hid (N0 * N1 * N2 = N) := ⟨_, Lib.hid rfl⟩
  rw [HNe.out] at hN HPl HEnd
  have HZ := Lib.hid (seqP_zero F N)
  go_enter Try.func44, Try.ntmps44
  go_wp2_with (first | (refine wpList_abs2 ?_; intro W hsz hB h1 h2; have z0 : W.heap.size = w.heap.size + 1 + 1 := hsz; clear hsz) | (refine wpList_load_all rfl 40 _ rfl w.heap.size rfl _ _ _ h1 Try.underlying40 rfl 5 (by kernel_rfl) rfl ?_))
  refine (HLn.out _).mono ?_
  rintro e w1 ⟨rfl, b1⟩
  rw [HI0.out, HI1.out, HI2.out]
  replace hB := below_after hB b1
  replace h1 := h1.after b1
  replace h2 := h2.after b1
  have z9 : w.heap.size + 1 + 1 ≤ w1.heap.size := by have := b1.size; omega
  have x0 : w1.cell? ⟨w.heap.size, 0, none⟩ = some (.int .i64 P) := h1.at_ 0
  clear b1 z0
  go_wp2_with fail
  refine (HE.out _).mono ?_
  rintro e w4 ⟨g, rfl, hg, hL, b4⟩
  rw [HNe.out, ← HZ.out] at hL
  have z1 : w.heap.size + 1 + 1 ≤ g := by omega
  have z2 : g < w4.heap.size := hL.lt
  replace hB := below_after hB b4
  replace h1 := h1.after b4
  replace h2 := h2.after b4
  clear b4 x0 hg z9
  rw [HNe.out]
  go_wp2_with (first | (refine wpList_abs1 ?_; intro W2 hsz2 hB2 h3; have z3 : W2.heap.size = w4.heap.size + 1 := hsz2; replace h1 := h1.after hB2; replace h2 := h2.after hB2; replace hL := hL.after hB2; replace hB := below_after hB hB2; clear hsz2 hB2) | (refine wpList_store_all rfl 26 _ _ rfl rfl w4.heap.size rfl _ rfl _ _ h3 5 (by kernel_rfl) rfl rfl (by simp [Value.oneCell']) ?_; intro W3 p3; replace h1 := p3.other h1 (by omega); replace h2 := p3.other h2 (by omega); replace hL := p3.other hL (by omega); replace hB := p3.below hB (by omega); replace h3 := p3.at_; clear p3 z3))
  obtain ⟨b3, hb3⟩ : ∃ b3, b3 = w4.heap.size := ⟨_, rfl⟩
  rw [← hb3] at h3 z2 ⊢
  clear hb3
  go_loopw [7] (fun i wr => ∃ a : Nat, a ≤ N0 ∧ i = .int .i64 a ∧ Below w.heap.size w wr ∧ At wr w.heap.size (.cells #[.int .i64 P, .int .i64 n, .int .i64 m, .int .i64 k, .slice A qs.length cap] 40 (0, 0)) ∧ At wr (w.heap.size + 1) (.cells #[.int .i64 0, .int .i64 0, .int .i64 0, .int .i64 0, .slice none 0 0] 26 (0, 0)) ∧ At wr b3 (.cells #[.int .i64 P, .int .i64 N0, .int .i64 N1, .int .i64 N2, .slice (some ⟨g, 0, none⟩) N N] 26 (0, 0)) ∧ At wr g (.cells (iar (seqP F N (a * N1 * N2))) 2 (0, 0))) (fun i _ => N0 - (intOf i).toNat)
  case atStart => exact ⟨0, by omega, rfl, hB, h1, h2, h3, by rw [Nat.zero_mul, Nat.zero_mul]; exact hL⟩
  case round =>
    clear hB h1 h2 h3 hL
    obtain ⟨a, ha, rfl, hB, h1, h2, h3, hL⟩ := hrel
    obtain ⟨wa, rfl⟩ : ∃ x : World, x = wr := ⟨_, rfl⟩
    by_cases hlt : a < N0
    · have hlt' : (a : Int) < (N0 : Int) := by omega
      have e0 : IntKind.i64.wrap ((a : Int) + 1) = (a : Int) + 1 := IntWalk.i64_in _ (by omega)
      go_wp2_with fail
      go_loopw [8] (fun i wr => ∃ b : Nat, b ≤ N1 ∧ i = .int .i64 b ∧ Below w.heap.size w wr ∧ At wr w.heap.size (.cells #[.int .i64 P, .int .i64 n, .int .i64 m, .int .i64 k, .slice A qs.length cap] 40 (0, 0)) ∧ At wr (w.heap.size + 1) (.cells #[.int .i64 0, .int .i64 0, .int .i64 0, .int .i64 0, .slice none 0 0] 26 (0, 0)) ∧ At wr b3 (.cells #[.int .i64 P, .int .i64 N0, .int .i64 N1, .int .i64 N2, .slice (some ⟨g, 0, none⟩) N N] 26 (0, 0)) ∧ At wr g (.cells (iar (seqP F N ((a * N1 + b) * N2))) 2 (0, 0))) (fun i _ => N1 - (intOf i).toNat)
      case atStart => exact ⟨0, by omega, rfl, hB, h1, h2, h3, by rw [Nat.add_zero]; exact hL⟩
      case round =>
        clear hB h1 h2 h3 hL
        obtain ⟨b, hb, rfl, hB, h1, h2, h3, hL⟩ := hrel
        obtain ⟨wb, rfl⟩ : ∃ x : World, x = wr := ⟨_, rfl⟩
        by_cases hlt2 : b < N1
        · have hlt2' : (b : Int) < (N1 : Int) := by omega
          have e1 : IntKind.i64.wrap ((b : Int) + 1) = (b : Int) + 1 := IntWalk.i64_in _ (by omega)
          go_wp2_with fail
          go_loopw [9] (fun i wr => ∃ c : Nat, c ≤ N2 ∧ i = .int .i64 c ∧ Below w.heap.size w wr ∧ At wr w.heap.size (.cells #[.int .i64 P, .int .i64 n, .int .i64 m, .int .i64 k, .slice A qs.length cap] 40 (0, 0)) ∧ At wr (w.heap.size + 1) (.cells #[.int .i64 0, .int .i64 0, .int .i64 0, .int .i64 0, .slice none 0 0] 26 (0, 0)) ∧ At wr b3 (.cells #[.int .i64 P, .int .i64 N0, .int .i64 N1, .int .i64 N2, .slice (some ⟨g, 0, none⟩) N N] 26 (0, 0)) ∧ At wr g (.cells (iar (seqP F N ((a * N1 + b) * N2 + c))) 2 (0, 0))) (fun i _ => N2 - (intOf i).toNat)
          case atStart => exact ⟨0, by omega, rfl, hB, h1, h2, h3, by rw [Nat.add_zero]; exact hL⟩
          case round =>
            clear hB h1 h2 h3 hL
            obtain ⟨c, hc, rfl, hB, h1, h2, h3, hL⟩ := hrel
            obtain ⟨wc, rfl⟩ : ∃ x : World, x = wr := ⟨_, rfl⟩
            by_cases hlt3 : c < N2
            · have hlt3' : (c : Int) < (N2 : Int) := by omega
              have e2 : IntKind.i64.wrap ((c : Int) + 1) = (c : Int) + 1 := IntWalk.i64_in _ (by omega)
              have hDN := HPl.out a b c hlt hlt2 hlt3
              have HFv := Lib.hid (HFat.out a b c hlt2 hlt3)
              have HSum := Lib.hid (fun w' => HSumN.out a b c w' (by omega) (by omega) (by omega))
              have HStep := Lib.hid (seqP_step F N ((a * N1 + b) * N2 + c))
              have HLen := Lib.hid (seqP_len F N ((a * N1 + b) * N2 + c))
              obtain ⟨D, hD⟩ : ∃ D : Nat, D = (a * N1 + b) * N2 + c := ⟨_, rfl⟩
              obtain ⟨D3, hD3⟩ : ∃ D : Nat, D = (a * N1 + b) * N2 := ⟨_, rfl⟩
              obtain ⟨D2, hD2⟩ : ∃ D : Nat, D = a * N1 + b := ⟨_, rfl⟩
              obtain ⟨D1, hD1⟩ : ∃ D : Nat, D = a * N1 := ⟨_, rfl⟩
              have q1 : a * N1 ≤ 81 := Nat.mul_le_mul (show a ≤ 9 by omega) l1
              have HD1 : Hid (IntKind.i64.wrap ((a : Int) * (N1 : Int)) = (D1 : Int)) := Lib.hid (by rw [← Int.natCast_mul, ← hD1]; exact IntWalk.i64_in _ (by omega))
              have HD2 : Hid (IntKind.i64.wrap ((D1 : Int) + (b : Int)) = (D2 : Int)) := Lib.hid (by rw [hD1, ← Int.natCast_add, ← hD2]; exact IntWalk.i64_in _ (by omega))
              have HD3 : Hid (IntKind.i64.wrap ((D2 : Int) * (N2 : Int)) = (D3 : Int)) := Lib.hid (by rw [hD2, ← Int.natCast_mul, ← hD3]; exact IntWalk.i64_in _ (by omega))
              have HD : Hid (IntKind.i64.wrap ((D3 : Int) + (c : Int)) = (D : Int)) := Lib.hid (by rw [hD3, ← Int.natCast_add, ← hD]; exact IntWalk.i64_in _ (by omega))
              rw [← hD] at HStep hDN HFv
              have HDN := Lib.hid hDN
              obtain ⟨L2, hL2⟩ : ∃ L2, L2 = seqP F N ((a * N1 + b) * N2 + c + 1) := ⟨_, rfl⟩
              have HL2 := Lib.hid hL2
              rw [← hD, ← HStep.out] at hL2
              generalize ((sumN qs a b c : Nat) : Int) % (P : Int) = V at *
              have HSet : Hid ((seqP F N D).set D V = L2) := Lib.hid (by rw [hL2, HFv.out])
              rw [← hD] at HLen hL
              generalize seqP F N D = L at *
              clear hD hD1 hD2 hD3 q1 hL2
              go_wp2_with fail
              go_upto_region 12 with (fail)
              refine wp_region_y (zs := []) (S := fun w' => Below w.heap.size w w' ∧ At w' b3 (.cells #[.int .i64 P, .int .i64 N0, .int .i64 N1, .int .i64 N2, .slice (some ⟨g, 0, none⟩) N N] 26 (0, 0)) ∧ At w' w.heap.size (.cells #[.int .i64 P, .int .i64 n, .int .i64 m, .int .i64 k, .slice A qs.length cap] 40 (0, 0))) (S2 := fun w' => True) (by kernel_rfl) ?_
              change wpAnyY _ _ _ _ _ _ _ _ _ _ (World.drew _)
              generalize hwdz1 : World.drew _ = wdz1
              replace hB : Below w.heap.size w wdz1 := by rw [← hwdz1]; exact hB.drew
              replace h1 : At wdz1 w.heap.size (.cells #[.int .i64 P, .int .i64 n, .int .i64 m, .int .i64 k, .slice A qs.length cap] 40 (0, 0)) := by rw [← hwdz1]; exact h1
              replace h2 : At wdz1 (w.heap.size + 1) (.cells #[.int .i64 0, .int .i64 0, .int .i64 0, .int .i64 0, .slice none 0 0] 26 (0, 0)) := by rw [← hwdz1]; exact h2
              replace h3 : At wdz1 b3 (.cells #[.int .i64 P, .int .i64 N0, .int .i64 N1, .int .i64 N2, .slice (some ⟨g, 0, none⟩) N N] 26 (0, 0)) := by rw [← hwdz1]; exact h3
              replace hL : At wdz1 g (.cells (iar L) 2 (0, 0)) := by rw [← hwdz1]; exact hL
              clear hwdz1
              refine y_yield 0 (some 37) (.pointer (some ⟨b3, 4, none⟩)) rfl (by kernel_rfl) (by kernel_rfl) (by kernel_rfl) (fun _ _ _ h => h) rfl rfl ⟨hB, h3, h1⟩ (fun w' h' => exec_fieldAddr 26 _ 4 rfl _ (by kernel_rfl)) ?_
              go_frame
              refine y_yield 1 (some 38) (.slice (some ⟨g, 0, none⟩) N N) rfl (by kernel_rfl) (by kernel_rfl) (by kernel_rfl) (fun _ _ _ h => h) rfl rfl ⟨hB, h3, h1⟩ (fun w' h' => exec_load_one 22 _ rfl b3 4 rfl (.slice (some ⟨g, 0, none⟩) N N) _ Try.underlying22 rfl (h'.2.1.at_ 4)) ?_
              go_frame
              refine y_yield 2 (some 39) (.int .i64 a) rfl (by kernel_rfl) (by kernel_rfl) (by kernel_rfl) (fun _ _ _ h => h) rfl rfl ⟨hB, h3, h1⟩ (fun w' h' => exec_move _ rfl (.int .i64 a) rfl) ?_
              go_frame
              refine y_yield 3 (some 40) (.int .i64 N1) rfl (by kernel_rfl) (by kernel_rfl) (by kernel_rfl) (fun _ _ _ h => h) rfl rfl ⟨hB, h3, h1⟩ (fun w' h' => exec_move _ rfl (.int .i64 N1) rfl) ?_
              go_frame
              refine y_yield 4 (some 41) (.int .i64 D1) rfl (by kernel_rfl) (by kernel_rfl) (by kernel_rfl) (fun _ _ _ h => h) rfl rfl ⟨hB, h3, h1⟩ (fun w' h' => exec_mul _ _ _ _ rfl a N1 D1 rfl rfl HD1.out) ?_
              go_frame
              refine y_yield 5 (some 42) (.int .i64 b) rfl (by kernel_rfl) (by kernel_rfl) (by kernel_rfl) (fun _ _ _ h => h) rfl rfl ⟨hB, h3, h1⟩ (fun w' h' => exec_move _ rfl (.int .i64 b) rfl) ?_
              go_frame
              refine y_yield 6 (some 43) (.int .i64 D2) rfl (by kernel_rfl) (by kernel_rfl) (by kernel_rfl) (fun _ _ _ h => h) rfl rfl ⟨hB, h3, h1⟩ (fun w' h' => exec_add _ _ _ _ rfl D1 b D2 rfl rfl HD2.out) ?_
              go_frame
              refine y_yield 7 (some 44) (.int .i64 N2) rfl (by kernel_rfl) (by kernel_rfl) (by kernel_rfl) (fun _ _ _ h => h) rfl rfl ⟨hB, h3, h1⟩ (fun w' h' => exec_move _ rfl (.int .i64 N2) rfl) ?_
              go_frame
              refine y_yield 8 (some 45) (.int .i64 D3) rfl (by kernel_rfl) (by kernel_rfl) (by kernel_rfl) (fun _ _ _ h => h) rfl rfl ⟨hB, h3, h1⟩ (fun w' h' => exec_mul _ _ _ _ rfl D2 N2 D3 rfl rfl HD3.out) ?_
              go_frame
              refine y_yield 9 (some 46) (.int .i64 c) rfl (by kernel_rfl) (by kernel_rfl) (by kernel_rfl) (fun _ _ _ h => h) rfl rfl ⟨hB, h3, h1⟩ (fun w' h' => exec_move _ rfl (.int .i64 c) rfl) ?_
              go_frame
              refine y_yield 10 (some 47) (.int .i64 D) rfl (by kernel_rfl) (by kernel_rfl) (by kernel_rfl) (fun _ _ _ h => h) rfl rfl ⟨hB, h3, h1⟩ (fun w' h' => exec_add _ _ _ _ rfl D3 c D rfl rfl HD.out) ?_
              go_frame
              refine y_yield 11 (some 48) (.agg #[.int .i64 P, .int .i64 n, .int .i64 m, .int .i64 k, .slice A qs.length cap]) rfl (by kernel_rfl) (by kernel_rfl) (by kernel_rfl) (fun _ _ _ h => h) rfl rfl ⟨hB, h3, h1⟩ (fun w' h' => exec_load_all 40 _ rfl w.heap.size rfl _ _ _ h'.2.2 Try.underlying40 rfl 5 (by kernel_rfl) rfl) ?_
              go_frame
              refine y_yield 12 (some 49) (.int .i64 a) rfl (by kernel_rfl) (by kernel_rfl) (by kernel_rfl) (fun _ _ _ h => h) rfl rfl ⟨hB, h3, h1⟩ (fun w' h' => exec_move _ rfl (.int .i64 a) rfl) ?_
              go_frame
              refine y_yield 13 (some 50) (.int .i64 b) rfl (by kernel_rfl) (by kernel_rfl) (by kernel_rfl) (fun _ _ _ h => h) rfl rfl ⟨hB, h3, h1⟩ (fun w' h' => exec_move _ rfl (.int .i64 b) rfl) ?_
              go_frame
              refine y_yield 14 (some 51) (.int .i64 c) rfl (by kernel_rfl) (by kernel_rfl) (by kernel_rfl) (fun _ _ _ h => h) rfl rfl ⟨hB, h3, h1⟩ (fun w' h' => exec_move _ rfl (.int .i64 c) rfl) ?_
              go_frame
              refine y_oper 15 (by kernel_rfl) rfl rfl (fun K' hK' => ?_)
              have lz4 := hB.size
              have lz5 := h1.lt
              have lz6 := h2.lt
              have lz7 := h3.lt
              have lz8 := hL.lt
              refine wp_call4 (some 52) rfl 63 _ _ _ _ _ rfl (fun args w => by kernel_rfl) _ _ _ _ rfl rfl rfl rfl _ (HSum.out _ hB) (fun e Wz2 h => ?_)
              obtain ⟨rfl, bz3⟩ := h
              replace hB := below_after hB bz3
              replace h1 := h1.after bz3
              replace h2 := h2.after bz3
              replace h3 := h3.after bz3
              replace hL := hL.after bz3
              clear bz3
              refine ⟨_, rfl, ?_⟩
              refine hK' _ _ ⟨hB, h3, h1⟩ (fun _ => trivial) ?_
              clear hK' K'
              go_frame
              refine y_yield 16 (some 53) (.pointer (some ⟨g, D * 1, none⟩)) rfl (by kernel_rfl) (by kernel_rfl) (by kernel_rfl) (fun _ _ _ h => h) rfl rfl ⟨hB, h3, h1⟩ (fun w' h' => exec_ix0 _ 2 _ _ rfl g N N D 1 rfl rfl Try.underlying22 (by kernel_rfl) HDN.out) ?_
              go_frame
              refine y_oper 17 (by kernel_rfl) rfl rfl (fun K' hK' => ?_)
              refine wp_store_one 2 _ _ rfl rfl g (D * 1) rfl (.int .i64 V) rfl rfl rfl _ _ hL (by kernel_rfl) (by rw [iar_size, HLen.out]; omega) (fun Wz9 pz10 => ?_)
              replace hB := pz10.below hB (by omega)
              replace h1 := pz10.other h1 (by omega)
              replace h2 := pz10.other h2 (by omega)
              replace h3 := pz10.other h3 (by omega)
              replace hL : At Wz9 g (.cells (iar L2) 2 (0, 0)) := by have h9 := pz10.at_; rwa [Nat.mul_one, iar_set, HSet.out] at h9
              refine hK' _ _ ⟨hB, h3, h1⟩ (fun _ => trivial) ?_
              clear hK' K' pz10
              refine y_done (by kernel_rfl) ?_ _
              go_wp2_with fail
              go_roundw
              case rel => exact ⟨c + 1, by omega, by go_num, hB, h1, h2, h3, by rw [← Nat.add_assoc, ← HL2.out]; exact hL⟩
              case measure => simp [intOf]; omega
            · obtain rfl : c = N2 := by omega
              go_wp2_with fail
              go_roundw
              case rel => exact ⟨b + 1, by omega, by go_num, hB, h1, h2, h3, by rw [← Nat.add_assoc, Nat.add_mul (a * N1 + b), Nat.one_mul]; exact hL⟩
              case measure => simp [intOf]; omega
        · obtain rfl : b = N1 := by omega
          go_wp2_with fail
          go_roundw
          case rel => exact ⟨a + 1, by omega, by go_num, hB, h1, h2, h3, by rw [Nat.add_mul a 1, Nat.one_mul]; exact hL⟩
          case measure => simp [intOf]; omega
    · obtain rfl : a = N0 := by omega
      rw [HNe.out] at hL
      go_wp2_with (first | (refine wpList_load_all rfl 26 _ rfl b3 rfl _ _ _ h3 Try.underlying26 rfl 5 (by kernel_rfl) rfl ?_) | (refine wpList_store_all rfl 26 _ _ rfl rfl (w.heap.size + 1) rfl _ rfl _ _ h2 5 (by kernel_rfl) rfl rfl (by simp [Value.oneCell']) ?_; intro w7 p7))
      refine bodyPost_ret (results_at rfl _ _ (w.heap.size + 1) _ _ _ rfl p7.at_ Try.underlying26 rfl 5 (by kernel_rfl) rfl) rfl ?_
      have hlen : (seqP F N N).length = N := seqP_len F N N
      have ho := OwnI.of_at (p7.other hL (by omega)) (show w.heap.size ≤ g by omega) (by omega)
      rw [hlen, HEnd.out] at ho
      exact ⟨_, rfl, ho, p7.below hB (by omega)⟩
end Go.Proofs.Ytcmpeoijedddjaa
