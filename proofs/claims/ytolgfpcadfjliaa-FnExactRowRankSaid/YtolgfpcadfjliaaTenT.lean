/-
  spec.l05Turn. (Made by mktent.py.)
-/
import Derived.Test.YtolgfpcadfjliaaTenK
namespace Go.Proofs.Ytolgfpcadfjliaa
open Go.RowKit
set_option maxRecDepth 100000
set_option maxHeartbeats 6400000 in
theorem l05Turn_c (p : Int) (n0 n1 n2 : Nat) (A : Option Addr) (cap : Nat) (xs : List Int) (w : World) (hr : RdI w A xs) (ht : tenB p n0 n1 n2 xs = true) :
    Calls Try.prog 50 #[.agg #[.int .i64 p, .int .i64 n0, .int .i64 n1, .int .i64 n2, .slice A xs.length cap]] w
      fun e w' => ∃ v, e = .returned (.agg #[.int .i64 p, .int .i64 n1, .int .i64 n2, .int .i64 n0, v]) ∧ OwnI w' w.heap.size v (turnL p n0 n1 n2 xs) ∧ Below w.heap.size w w' := by
  obtain ⟨p1, p2, a0, a1, a2, hl, hn⟩ := tenB_n3 ht
  have hN : n1 * n2 * n0 ≤ 729 := places_729 a1.2 a2.2 a0.2
  have HEnd := Lib.hid (turnP_end (n0 := n0) (n1 := n1) (n2 := n2) (p := p) (xs := xs) (by omega) (by omega) (by omega) hn)
  have HE := Lib.hid (fun w => l05Empty_c p n1 n2 n0 w a1.2 a2.2 a0.2)
  have HAtN := Lib.hid (fun a b c w' (ha : a < n0) (hb : b < n1) (hc : c < n2) (h : Below w.heap.size w w') => l05At_n p n0 n1 n2 A cap xs a b c w' (hr.keep h) hl a0.2 a1.2 a2.2 ha hb hc)
  have HP := Lib.hid (fun i j k (hi : i < n0) (hj : j < n1) (hk : k < n2) => turnP_step (xs := xs) hi hj hk)
  have HPl := Lib.hid (fun i j k (hj : j < n1) (hk : k < n2) (hi : i < n0) => place_lt hj hk hi)
  have HLenN := Lib.hid (turnP_len n0 n1 n2 xs)
  have HZ := Lib.hid (turnP_zero n0 n1 n2 xs)
  clear ht hn hl hr
  obtain ⟨N, HNe⟩ : ∃ N : Nat, Hid (n1 * n2 * n0 = N) := ⟨_, Lib.hid rfl⟩
  rw [HNe.out] at hN HZ
  go_enter Try.func50, Try.ntmps50
  go_wp2_with (refine wpList_abs2 ?_; intro W hsz hB h1 h2; have z0 : W.heap.size = w.heap.size + 1 + 1 := hsz; clear hsz; have x0 : W.cell? ⟨w.heap.size, 0, none⟩ = some (.int .i64 p) := h1.at_ 0; have x1 : W.cell? ⟨w.heap.size, 1, none⟩ = some (.int .i64 n0) := h1.at_ 1; have x2 : W.cell? ⟨w.heap.size, 2, none⟩ = some (.int .i64 n1) := h1.at_ 2; have x3 : W.cell? ⟨w.heap.size, 3, none⟩ = some (.int .i64 n2) := h1.at_ 3)
  refine (HE.out _).mono ?_
  rintro e w1 ⟨g, rfl, hg, hL, b1⟩
  rw [HNe.out, ← HZ.out] at hL
  have z1 : w.heap.size + 1 + 1 ≤ g := by omega
  have z2 : g < w1.heap.size := hL.lt
  replace hB := below_after hB b1
  replace h1 := h1.after b1
  replace h2 := h2.after b1
  clear b1 x0 x1 x2 x3 hg z0
  rw [HNe.out]
  go_wp2_with (first | (refine wpList_abs1 ?_; intro W2 hsz2 hB2 h3; have z3 : W2.heap.size = w1.heap.size + 1 := hsz2; replace h1 := h1.after hB2; replace h2 := h2.after hB2; replace hL := hL.after hB2; replace hB := below_after hB hB2; clear hsz2 hB2) | (refine wpList_store_all rfl 29 _ _ rfl rfl w1.heap.size rfl _ rfl _ _ h3 5 (by kernel_rfl) rfl rfl (by simp [Value.oneCell']) ?_; intro W3 p3; replace h1 := p3.other h1 (by omega); replace h2 := p3.other h2 (by omega); replace hL := p3.other hL (by omega); replace hB := p3.below hB (by omega); replace h3 := p3.at_; clear p3 z3))
  obtain ⟨b3, hb3⟩ : ∃ b3, b3 = w1.heap.size := ⟨_, rfl⟩
  rw [← hb3] at h3 z2 ⊢
  clear hb3
  go_loopw [4] (fun i wr => ∃ a : Nat, a ≤ n0 ∧ i = .int .i64 a ∧ Below w.heap.size w wr ∧ At wr w.heap.size (.cells #[.int .i64 p, .int .i64 n0, .int .i64 n1, .int .i64 n2, .slice A xs.length cap] 29 (0, 0)) ∧ At wr (w.heap.size + 1) (.cells #[.int .i64 0, .int .i64 0, .int .i64 0, .int .i64 0, .slice none 0 0] 29 (0, 0)) ∧ At wr b3 (.cells #[.int .i64 p, .int .i64 n1, .int .i64 n2, .int .i64 n0, .slice (some ⟨g, 0, none⟩) N N] 29 (0, 0)) ∧ At wr g (.cells (iar (turnP n0 n1 n2 xs (a * n1 * n2))) 2 (0, 0))) (fun i _ => n0 - (intOf i).toNat)
  case atStart => exact ⟨0, by omega, rfl, hB, h1, h2, h3, by rw [Nat.zero_mul, Nat.zero_mul]; exact hL⟩
  case round =>
    clear hB h1 h2 h3 hL
    obtain ⟨a, ha, rfl, hB, h1, h2, h3, hL⟩ := hrel
    obtain ⟨wa, rfl⟩ : ∃ x : World, x = wr := ⟨_, rfl⟩
    have c1 : wa.cell? ⟨w.heap.size, 1, none⟩ = some (.int .i64 n0) := h1.at_ 1
    by_cases hlt : a < n0
    · have hlt' : (a : Int) < (n0 : Int) := by omega
      have e0 : IntKind.i64.wrap ((a : Int) + 1) = (a : Int) + 1 := IntWalk.i64_in _ (by omega)
      go_wp2_with fail
      clear c1
      go_loopw [5] (fun i wr => ∃ b : Nat, b ≤ n1 ∧ i = .int .i64 b ∧ Below w.heap.size w wr ∧ At wr w.heap.size (.cells #[.int .i64 p, .int .i64 n0, .int .i64 n1, .int .i64 n2, .slice A xs.length cap] 29 (0, 0)) ∧ At wr (w.heap.size + 1) (.cells #[.int .i64 0, .int .i64 0, .int .i64 0, .int .i64 0, .slice none 0 0] 29 (0, 0)) ∧ At wr b3 (.cells #[.int .i64 p, .int .i64 n1, .int .i64 n2, .int .i64 n0, .slice (some ⟨g, 0, none⟩) N N] 29 (0, 0)) ∧ At wr g (.cells (iar (turnP n0 n1 n2 xs ((a * n1 + b) * n2))) 2 (0, 0))) (fun i _ => n1 - (intOf i).toNat)
      case atStart => exact ⟨0, by omega, rfl, hB, h1, h2, h3, by rw [Nat.add_zero]; exact hL⟩
      case round =>
        clear hB h1 h2 h3 hL
        obtain ⟨b, hb, rfl, hB, h1, h2, h3, hL⟩ := hrel
        obtain ⟨wb, rfl⟩ : ∃ x : World, x = wr := ⟨_, rfl⟩
        have c2 : wb.cell? ⟨w.heap.size, 2, none⟩ = some (.int .i64 n1) := h1.at_ 2
        by_cases hlt2 : b < n1
        · have hlt2' : (b : Int) < (n1 : Int) := by omega
          have e1 : IntKind.i64.wrap ((b : Int) + 1) = (b : Int) + 1 := IntWalk.i64_in _ (by omega)
          go_wp2_with fail
          clear c2
          go_loopw [6] (fun i wr => ∃ c : Nat, c ≤ n2 ∧ i = .int .i64 c ∧ Below w.heap.size w wr ∧ At wr w.heap.size (.cells #[.int .i64 p, .int .i64 n0, .int .i64 n1, .int .i64 n2, .slice A xs.length cap] 29 (0, 0)) ∧ At wr (w.heap.size + 1) (.cells #[.int .i64 0, .int .i64 0, .int .i64 0, .int .i64 0, .slice none 0 0] 29 (0, 0)) ∧ At wr b3 (.cells #[.int .i64 p, .int .i64 n1, .int .i64 n2, .int .i64 n0, .slice (some ⟨g, 0, none⟩) N N] 29 (0, 0)) ∧ At wr g (.cells (iar (turnP n0 n1 n2 xs ((a * n1 + b) * n2 + c))) 2 (0, 0))) (fun i _ => n2 - (intOf i).toNat)
          case atStart => exact ⟨0, by omega, rfl, hB, h1, h2, h3, by rw [Nat.add_zero]; exact hL⟩
          case round =>
            clear hB h1 h2 h3 hL
            obtain ⟨c, hc, rfl, hB, h1, h2, h3, hL⟩ := hrel
            obtain ⟨wc, rfl⟩ : ∃ x : World, x = wr := ⟨_, rfl⟩
            have c3 : wc.cell? ⟨w.heap.size, 3, none⟩ = some (.int .i64 n2) := h1.at_ 3
            by_cases hlt3 : c < n2
            · have hlt3' : (c : Int) < (n2 : Int) := by omega
              have e2 : IntKind.i64.wrap ((c : Int) + 1) = (c : Int) + 1 := IntWalk.i64_in _ (by omega)
              have hDN := HPl.out a b c hlt2 hlt3 hlt
              rw [HNe.out] at hDN
              have HSet := Lib.hid (HP.out a b c hlt hlt2 hlt3)
              have HAt := Lib.hid (fun w' => HAtN.out a b c w' hlt hlt2 hlt3)
              have HLen := Lib.hid (HLenN.out ((a * n1 + b) * n2 + c))
              rw [HNe.out] at HLen
              obtain ⟨D, hD⟩ : ∃ D : Nat, D = (b * n2 + c) * n0 + a := ⟨_, rfl⟩
              obtain ⟨D3, hD3⟩ : ∃ D : Nat, D = (b * n2 + c) * n0 := ⟨_, rfl⟩
              obtain ⟨D2, hD2⟩ : ∃ D : Nat, D = b * n2 + c := ⟨_, rfl⟩
              obtain ⟨D1, hD1⟩ : ∃ D : Nat, D = b * n2 := ⟨_, rfl⟩
              have q1 : b * n2 ≤ 81 := Nat.mul_le_mul (show b ≤ 9 by omega) a2.2
              have HD1 : Hid (IntKind.i64.wrap ((b : Int) * (n2 : Int)) = (D1 : Int)) := Lib.hid (by rw [← Int.natCast_mul, ← hD1]; exact IntWalk.i64_in _ (by omega))
              have HD2 : Hid (IntKind.i64.wrap ((D1 : Int) + (c : Int)) = (D2 : Int)) := Lib.hid (by rw [hD1, ← Int.natCast_add, ← hD2]; exact IntWalk.i64_in _ (by omega))
              have HD3 : Hid (IntKind.i64.wrap ((D2 : Int) * (n0 : Int)) = (D3 : Int)) := Lib.hid (by rw [hD2, ← Int.natCast_mul, ← hD3]; exact IntWalk.i64_in _ (by omega))
              have HD : Hid (IntKind.i64.wrap ((D3 : Int) + (a : Int)) = (D : Int)) := Lib.hid (by rw [hD3, ← Int.natCast_add, ← hD]; exact IntWalk.i64_in _ (by omega))
              rw [← hD] at HSet hDN
              have HDN := Lib.hid hDN
              rw [show nthI xs (((a * n1 + b) * n2 + c : Nat) : Int) = at3 n1 n2 xs a b c from rfl] at HSet
              generalize at3 n1 n2 xs a b c = X at *
              obtain ⟨L2, hL2⟩ : ∃ L2, L2 = turnP n0 n1 n2 xs ((a * n1 + b) * n2 + c + 1) := ⟨_, rfl⟩
              rw [← hL2] at HSet
              have HL2 := Lib.hid hL2
              clear hL2
              generalize turnP n0 n1 n2 xs ((a * n1 + b) * n2 + c) = L at *
              clear hD hD1 hD2 hD3 q1
              go_wp2_with fail
              go_upto_region 11 with (fail)
              refine wp_region_y (zs := []) (S := fun w' => Below w.heap.size w w' ∧ At w' b3 (.cells #[.int .i64 p, .int .i64 n1, .int .i64 n2, .int .i64 n0, .slice (some ⟨g, 0, none⟩) N N] 29 (0, 0)) ∧ At w' w.heap.size (.cells #[.int .i64 p, .int .i64 n0, .int .i64 n1, .int .i64 n2, .slice A xs.length cap] 29 (0, 0))) (S2 := fun w' => True) (by kernel_rfl) ?_
              change wpAnyY _ _ _ _ _ _ _ _ _ _ (World.drew _)
              generalize hwdz1 : World.drew _ = wdz1
              replace hB : Below w.heap.size w wdz1 := by rw [← hwdz1]; exact hB.drew
              replace h1 : At wdz1 w.heap.size (.cells #[.int .i64 p, .int .i64 n0, .int .i64 n1, .int .i64 n2, .slice A xs.length cap] 29 (0, 0)) := by rw [← hwdz1]; exact h1
              replace h2 : At wdz1 (w.heap.size + 1) (.cells #[.int .i64 0, .int .i64 0, .int .i64 0, .int .i64 0, .slice none 0 0] 29 (0, 0)) := by rw [← hwdz1]; exact h2
              replace h3 : At wdz1 b3 (.cells #[.int .i64 p, .int .i64 n1, .int .i64 n2, .int .i64 n0, .slice (some ⟨g, 0, none⟩) N N] 29 (0, 0)) := by rw [← hwdz1]; exact h3
              replace hL : At wdz1 g (.cells (iar L) 2 (0, 0)) := by rw [← hwdz1]; exact hL
              clear hwdz1
              refine y_yield 0 (some 34) (.pointer (some ⟨b3, 4, none⟩)) rfl (by kernel_rfl) (by kernel_rfl) (by kernel_rfl) (fun _ _ _ h => h) rfl rfl ⟨hB, h3, h1⟩ (fun w' h' => exec_fieldAddr 29 _ 4 rfl _ (by kernel_rfl)) ?_
              go_frame
              refine y_yield 1 (some 35) (.slice (some ⟨g, 0, none⟩) N N) rfl (by kernel_rfl) (by kernel_rfl) (by kernel_rfl) (fun _ _ _ h => h) rfl rfl ⟨hB, h3, h1⟩ (fun w' h' => exec_load_one 22 _ rfl b3 4 rfl (.slice (some ⟨g, 0, none⟩) N N) _ Try.underlying22 rfl (h'.2.1.at_ 4)) ?_
              go_frame
              refine y_yield 2 (some 36) (.int .i64 b) rfl (by kernel_rfl) (by kernel_rfl) (by kernel_rfl) (fun _ _ _ h => h) rfl rfl ⟨hB, h3, h1⟩ (fun w' h' => exec_move _ rfl (.int .i64 b) rfl) ?_
              go_frame
              refine y_yield 3 (some 37) (.pointer (some ⟨w.heap.size, 3, none⟩)) rfl (by kernel_rfl) (by kernel_rfl) (by kernel_rfl) (fun _ _ _ h => h) rfl rfl ⟨hB, h3, h1⟩ (fun w' h' => exec_fieldAddr 29 _ 3 rfl _ (by kernel_rfl)) ?_
              go_frame
              refine y_yield 4 (some 38) (.int .i64 n2) rfl (by kernel_rfl) (by kernel_rfl) (by kernel_rfl) (fun _ _ _ h => h) rfl rfl ⟨hB, h3, h1⟩ (fun w' h' => exec_load_one 2 _ rfl w.heap.size 3 rfl (.int .i64 n2) _ Try.underlying2 rfl (h'.2.2.at_ 3)) ?_
              go_frame
              refine y_yield 5 (some 39) (.int .i64 D1) rfl (by kernel_rfl) (by kernel_rfl) (by kernel_rfl) (fun _ _ _ h => h) rfl rfl ⟨hB, h3, h1⟩ (fun w' h' => exec_mul _ _ _ _ rfl b n2 D1 rfl rfl HD1.out) ?_
              go_frame
              refine y_yield 6 (some 40) (.int .i64 c) rfl (by kernel_rfl) (by kernel_rfl) (by kernel_rfl) (fun _ _ _ h => h) rfl rfl ⟨hB, h3, h1⟩ (fun w' h' => exec_move _ rfl (.int .i64 c) rfl) ?_
              go_frame
              refine y_yield 7 (some 41) (.int .i64 D2) rfl (by kernel_rfl) (by kernel_rfl) (by kernel_rfl) (fun _ _ _ h => h) rfl rfl ⟨hB, h3, h1⟩ (fun w' h' => exec_add _ _ _ _ rfl D1 c D2 rfl rfl HD2.out) ?_
              go_frame
              refine y_yield 8 (some 42) (.pointer (some ⟨w.heap.size, 1, none⟩)) rfl (by kernel_rfl) (by kernel_rfl) (by kernel_rfl) (fun _ _ _ h => h) rfl rfl ⟨hB, h3, h1⟩ (fun w' h' => exec_fieldAddr 29 _ 1 rfl _ (by kernel_rfl)) ?_
              go_frame
              refine y_yield 9 (some 43) (.int .i64 n0) rfl (by kernel_rfl) (by kernel_rfl) (by kernel_rfl) (fun _ _ _ h => h) rfl rfl ⟨hB, h3, h1⟩ (fun w' h' => exec_load_one 2 _ rfl w.heap.size 1 rfl (.int .i64 n0) _ Try.underlying2 rfl (h'.2.2.at_ 1)) ?_
              go_frame
              refine y_yield 10 (some 44) (.int .i64 D3) rfl (by kernel_rfl) (by kernel_rfl) (by kernel_rfl) (fun _ _ _ h => h) rfl rfl ⟨hB, h3, h1⟩ (fun w' h' => exec_mul _ _ _ _ rfl D2 n0 D3 rfl rfl HD3.out) ?_
              go_frame
              refine y_yield 11 (some 45) (.int .i64 a) rfl (by kernel_rfl) (by kernel_rfl) (by kernel_rfl) (fun _ _ _ h => h) rfl rfl ⟨hB, h3, h1⟩ (fun w' h' => exec_move _ rfl (.int .i64 a) rfl) ?_
              go_frame
              refine y_yield 12 (some 46) (.int .i64 D) rfl (by kernel_rfl) (by kernel_rfl) (by kernel_rfl) (fun _ _ _ h => h) rfl rfl ⟨hB, h3, h1⟩ (fun w' h' => exec_add _ _ _ _ rfl D3 a D rfl rfl HD.out) ?_
              go_frame
              refine y_yield 13 (some 47) (.agg #[.int .i64 p, .int .i64 n0, .int .i64 n1, .int .i64 n2, .slice A xs.length cap]) rfl (by kernel_rfl) (by kernel_rfl) (by kernel_rfl) (fun _ _ _ h => h) rfl rfl ⟨hB, h3, h1⟩ (fun w' h' => exec_load_all 29 _ rfl w.heap.size rfl _ _ _ h'.2.2 Try.underlying29 rfl 5 (by kernel_rfl) rfl) ?_
              go_frame
              refine y_yield 14 (some 48) (.int .i64 a) rfl (by kernel_rfl) (by kernel_rfl) (by kernel_rfl) (fun _ _ _ h => h) rfl rfl ⟨hB, h3, h1⟩ (fun w' h' => exec_move _ rfl (.int .i64 a) rfl) ?_
              go_frame
              refine y_yield 15 (some 49) (.int .i64 b) rfl (by kernel_rfl) (by kernel_rfl) (by kernel_rfl) (fun _ _ _ h => h) rfl rfl ⟨hB, h3, h1⟩ (fun w' h' => exec_move _ rfl (.int .i64 b) rfl) ?_
              go_frame
              refine y_yield 16 (some 50) (.int .i64 c) rfl (by kernel_rfl) (by kernel_rfl) (by kernel_rfl) (fun _ _ _ h => h) rfl rfl ⟨hB, h3, h1⟩ (fun w' h' => exec_move _ rfl (.int .i64 c) rfl) ?_
              go_frame
              refine y_oper 17 (by kernel_rfl) rfl rfl (fun K' hK' => ?_)
              have lz4 := hB.size
              have lz5 := h1.lt
              have lz6 := h2.lt
              have lz7 := h3.lt
              have lz8 := hL.lt
              refine wp_call4 (some 51) rfl 37 _ _ _ _ _ rfl (fun args w => by kernel_rfl) _ _ _ _ rfl rfl rfl rfl _ (HAt.out _ hB) (fun e Wz2 h => ?_)
              obtain ⟨rfl, bz3⟩ := h
              replace hB := below_after hB bz3
              replace h1 := h1.after bz3
              replace h2 := h2.after bz3
              replace h3 := h3.after bz3
              replace hL := hL.after bz3
              clear bz3
              refine ⟨_, rfl, ?_⟩
              refine hK' _ _ ⟨hB, h3, h1⟩ (fun _ => trivial) ?_
              clear hK' K'
              go_frame
              refine y_yield 18 (some 52) (.pointer (some ⟨g, D * 1, none⟩)) rfl (by kernel_rfl) (by kernel_rfl) (by kernel_rfl) (fun _ _ _ h => h) rfl rfl ⟨hB, h3, h1⟩ (fun w' h' => exec_ix0 _ 2 _ _ rfl g N N D 1 rfl rfl Try.underlying22 (by kernel_rfl) HDN.out) ?_
              go_frame
              refine y_oper 19 (by kernel_rfl) rfl rfl (fun K' hK' => ?_)
              refine wp_store_one 2 _ _ rfl rfl g (D * 1) rfl (.int .i64 X) rfl rfl rfl _ _ hL (by kernel_rfl) (by rw [iar_size, HLen.out]; omega) (fun Wz9 pz10 => ?_)
              replace hB := pz10.below hB (by omega)
              replace h1 := pz10.other h1 (by omega)
              replace h2 := pz10.other h2 (by omega)
              replace h3 := pz10.other h3 (by omega)
              replace hL : At Wz9 g (.cells (iar L2) 2 (0, 0)) := by have h9 := pz10.at_; rwa [Nat.mul_one, iar_set, HSet.out] at h9
              refine hK' _ _ ⟨hB, h3, h1⟩ (fun _ => trivial) ?_
              clear hK' K' pz10
              refine y_done (by kernel_rfl) ?_ _
              go_wp2_with fail
              go_roundw
              case rel => exact ⟨c + 1, by omega, by go_num, hB, h1, h2, h3, by rw [← Nat.add_assoc, ← HL2.out]; exact hL⟩
              case measure => simp [intOf]; omega
            · obtain rfl : c = n2 := by omega
              go_wp2_with fail
              go_roundw
              case rel => exact ⟨b + 1, by omega, by go_num, hB, h1, h2, h3, by rw [← Nat.add_assoc, Nat.add_mul (a * n1 + b), Nat.one_mul]; exact hL⟩
              case measure => simp [intOf]; omega
        · obtain rfl : b = n1 := by omega
          go_wp2_with fail
          go_roundw
          case rel => exact ⟨a + 1, by omega, by go_num, hB, h1, h2, h3, by rw [Nat.add_mul a 1, Nat.one_mul]; exact hL⟩
          case measure => simp [intOf]; omega
    · obtain rfl : a = n0 := by omega
      rw [HEnd.out] at hL
      go_wp2_with (first | (refine wpList_load_all rfl 29 _ rfl b3 rfl _ _ _ h3 Try.underlying29 rfl 5 (by kernel_rfl) rfl ?_) | (refine wpList_store_all rfl 29 _ _ rfl rfl (w.heap.size + 1) rfl _ rfl _ _ h2 5 (by kernel_rfl) rfl rfl (by simp [Value.oneCell']) ?_; intro w7 p7))
      refine bodyPost_ret (results_at rfl _ _ (w.heap.size + 1) _ _ _ rfl p7.at_ Try.underlying29 rfl 5 (by kernel_rfl) rfl) rfl ?_
      have hlen : (turnL p a n1 n2 xs).length = N := by rw [turnL_len]; exact HNe.out
      have ho := OwnI.of_at (p7.other hL (by omega)) (show w.heap.size ≤ g by omega) (by omega)
      rw [hlen] at ho
      exact ⟨_, rfl, ho, p7.below hB (by omega)⟩
end Go.Proofs.Ytolgfpcadfjliaa
