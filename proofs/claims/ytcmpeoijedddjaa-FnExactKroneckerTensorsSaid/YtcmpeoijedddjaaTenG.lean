/-
  spec.l05Kronecker. (Made by mkteng.py.)
-/
import Derived.Test.YtcmpeoijedddjaaTenFKro
namespace Go.Proofs.Ytcmpeoijedddjaa
open Go.RowKit
set_option maxRecDepth 100000
set_option maxHeartbeats 3200000 in
theorem l05Kronecker_c (p : Int) (n0 n1 n2 d0 d1 d2 M0 M1 M2 : Nat) (A : Option Addr) (cap : Nat) (xs : List Int) (B : Option Addr) (cap2 : Nat) (ys : List Int) (w : World) (hr : RdI w A xs) (hs : RdI w B ys)
    (htx : tenB p n0 n1 n2 xs = true) (hty : tenB p d0 d1 d2 ys = true) (hM0 : M0 = n0 * d0) (hM1 : M1 = n1 * d1) (hM2 : M2 = n2 * d2) (l0 : 1 ≤ M0 ∧ M0 ≤ 9) (l1 : 1 ≤ M1 ∧ M1 ≤ 9) (l2 : 1 ≤ M2 ∧ M2 ≤ 9) :
    Calls Try.prog 26 #[.agg #[.int .i64 p, .int .i64 n0, .int .i64 n1, .int .i64 n2, .slice A xs.length cap], .agg #[.int .i64 p, .int .i64 d0, .int .i64 d1, .int .i64 d2, .slice B ys.length cap2]] w
      fun e w' => ∃ v, e = .returned (.agg #[.int .i64 p, .int .i64 M0, .int .i64 M1, .int .i64 M2, v]) ∧ OwnI w' w.heap.size v (genL M1 M2 p (kroF n1 n2 d0 d1 d2 xs ys) (M0 * M1 * M2)) ∧ Below w.heap.size w w' := by
  obtain ⟨p1, p2, a0, a1, a2, hlx, hx⟩ := tenB_n3 htx
  obtain ⟨_, _, c0, c1, c2, hly, hy⟩ := tenB_n3 hty
  have w0 : IntKind.i64.wrap ((n0 : Int) * (d0 : Int)) = (M0 : Int) := by rw [← Int.natCast_mul, ← hM0]; exact IntWalk.i64_in _ (by omega)
  have w1' : IntKind.i64.wrap ((n1 : Int) * (d1 : Int)) = (M1 : Int) := by rw [← Int.natCast_mul, ← hM1]; exact IntWalk.i64_in _ (by omega)
  have w2' : IntKind.i64.wrap ((n2 : Int) * (d2 : Int)) = (M2 : Int) := by rw [← Int.natCast_mul, ← hM2]; exact IntWalk.i64_in _ (by omega)
  have HE := Lib.hid (fun w => l05Empty_c p M0 M1 M2 w l0.2 l1.2 l2.2)
  obtain ⟨F, hF⟩ : ∃ F : Nat → Int, F = gen M1 M2 p (kroF n1 n2 d0 d1 d2 xs ys) := ⟨_, rfl⟩
  have HFat : Hid (∀ (i j k : Nat), j < M1 → k < M2 → F ((i * M1 + j) * M2 + k) = kroF n1 n2 d0 d1 d2 xs ys i j k % p) := Lib.hid (fun i j k hj hk => by rw [hF]; exact gen_at hj hk)
  have hN : M0 * M1 * M2 ≤ 729 := places_729 l0.2 l1.2 l2.2
  have HPl : Hid (∀ (i j k : Nat), i < M0 → j < M1 → k < M2 → (i * M1 + j) * M2 + k < M0 * M1 * M2) := Lib.hid (fun _ _ _ hi hj hk => place_lt hi hj hk)
  have HEnd : Hid (seqP F (M0 * M1 * M2) (M0 * M1 * M2) = genL M1 M2 p (kroF n1 n2 d0 d1 d2 xs ys) (M0 * M1 * M2)) := Lib.hid (by rw [seqP_end, hF]; rfl)
  have HBX : Hid (∀ i j k : Nat, 0 ≤ at3 n1 n2 xs i j k ∧ at3 n1 n2 xs i j k < p) := Lib.hid (fun i j k => numsB_nth hx (by omega) _)
  have HBY : Hid (∀ i j k : Nat, 0 ≤ at3 d1 d2 ys i j k ∧ at3 d1 d2 ys i j k < p) := Lib.hid (fun i j k => numsB_nth hy (by omega) _)
  have HRx := Lib.hid hr
  have HRy := Lib.hid hs
  have HLx := Lib.hid hlx
  have HLy := Lib.hid hly
  have HM0 := Lib.hid hM0
  have HM1 := Lib.hid hM1
  have HM2 := Lib.hid hM2
  clear htx hty hx hy hr hs hF hlx hly hM0 hM1 hM2
  obtain ⟨N, HNe⟩ : ∃ N : Nat, Hid (M0 * M1 * M2 = N) := ⟨_, Lib.hid rfl⟩
  rw [HNe.out] at hN HPl HEnd
  have HZ := Lib.hid (seqP_zero F N)
  go_enter Try.func26, Try.ntmps26
  go_wp2_with (refine wpList_abs3 ?_; intro W hsz hB h0 h1 h2; have z0 : W.heap.size = w.heap.size + 1 + 1 + 1 := hsz; clear hsz; have x0 : W.cell? ⟨w.heap.size, 0, none⟩ = some (.int .i64 p) := h0.at_ 0; have x1 : W.cell? ⟨w.heap.size, 1, none⟩ = some (.int .i64 n0) := h0.at_ 1; have x2 : W.cell? ⟨w.heap.size, 2, none⟩ = some (.int .i64 n1) := h0.at_ 2; have x3 : W.cell? ⟨w.heap.size, 3, none⟩ = some (.int .i64 n2) := h0.at_ 3; have y1 : W.cell? ⟨w.heap.size + 1, 1, none⟩ = some (.int .i64 d0) := h1.at_ 1; have y2 : W.cell? ⟨w.heap.size + 1, 2, none⟩ = some (.int .i64 d1) := h1.at_ 2; have y3 : W.cell? ⟨w.heap.size + 1, 3, none⟩ = some (.int .i64 d2) := h1.at_ 3)
  refine (HE.out _).mono ?_
  rintro e w4 ⟨g, rfl, hg, hL, b4⟩
  rw [HNe.out, ← HZ.out] at hL
  have z1 : w.heap.size + 1 + 1 + 1 ≤ g := by omega
  have z2 : g < w4.heap.size := hL.lt
  replace hB := below_after hB b4
  replace h0 := h0.after b4
  replace h1 := h1.after b4
  replace h2 := h2.after b4
  clear b4 x0 x1 x2 x3 y1 y2 y3 hg z0
  rw [HNe.out]
  go_wp2_with (first | (refine wpList_abs1 ?_; intro W2 hsz2 hB2 h3; have z3 : W2.heap.size = w4.heap.size + 1 := hsz2; replace h0 := h0.after hB2; replace h1 := h1.after hB2; replace h2 := h2.after hB2; replace hL := hL.after hB2; replace hB := below_after hB hB2; clear hsz2 hB2) | (refine wpList_store_all rfl 26 _ _ rfl rfl w4.heap.size rfl _ rfl _ _ h3 5 (by kernel_rfl) rfl rfl (by simp [Value.oneCell']) ?_; intro W3 p3; replace h0 := p3.other h0 (by omega); replace h1 := p3.other h1 (by omega); replace h2 := p3.other h2 (by omega); replace hL := p3.other hL (by omega); replace hB := p3.below hB (by omega); replace h3 := p3.at_; clear p3 z3))
  obtain ⟨b3, hb3⟩ : ∃ b3, b3 = w4.heap.size := ⟨_, rfl⟩
  rw [← hb3] at h3 z2 ⊢
  clear hb3
  go_loopw [6] (fun i wr => ∃ a : Nat, a ≤ M0 ∧ i = .int .i64 a ∧ Below w.heap.size w wr ∧ At wr w.heap.size (.cells #[.int .i64 p, .int .i64 n0, .int .i64 n1, .int .i64 n2, .slice A xs.length cap] 26 (0, 0)) ∧ At wr (w.heap.size + 1) (.cells #[.int .i64 p, .int .i64 d0, .int .i64 d1, .int .i64 d2, .slice B ys.length cap2] 26 (0, 0)) ∧ At wr (w.heap.size + 1 + 1) (.cells #[.int .i64 0, .int .i64 0, .int .i64 0, .int .i64 0, .slice none 0 0] 26 (0, 0)) ∧ At wr b3 (.cells #[.int .i64 p, .int .i64 M0, .int .i64 M1, .int .i64 M2, .slice (some ⟨g, 0, none⟩) N N] 26 (0, 0)) ∧ At wr g (.cells (iar (seqP F N (a * M1 * M2))) 2 (0, 0))) (fun i _ => M0 - (intOf i).toNat)
  case atStart => exact ⟨0, by omega, rfl, hB, h0, h1, h2, h3, by rw [Nat.zero_mul, Nat.zero_mul]; exact hL⟩
  case round =>
    clear hB h0 h1 h2 h3 hL
    obtain ⟨a, ha, rfl, hB, h0, h1, h2, h3, hL⟩ := hrel
    obtain ⟨wa, rfl⟩ : ∃ x : World, x = wr := ⟨_, rfl⟩
    have k1 : wa.cell? ⟨b3, 1, none⟩ = some (.int .i64 M0) := h3.at_ 1
    by_cases hlt : a < M0
    · have hlt' : (a : Int) < (M0 : Int) := by omega
      have e0 : IntKind.i64.wrap ((a : Int) + 1) = (a : Int) + 1 := IntWalk.i64_in _ (by omega)
      go_wp2_with fail
      clear k1
      go_loopw [7] (fun i wr => ∃ b : Nat, b ≤ M1 ∧ i = .int .i64 b ∧ Below w.heap.size w wr ∧ At wr w.heap.size (.cells #[.int .i64 p, .int .i64 n0, .int .i64 n1, .int .i64 n2, .slice A xs.length cap] 26 (0, 0)) ∧ At wr (w.heap.size + 1) (.cells #[.int .i64 p, .int .i64 d0, .int .i64 d1, .int .i64 d2, .slice B ys.length cap2] 26 (0, 0)) ∧ At wr (w.heap.size + 1 + 1) (.cells #[.int .i64 0, .int .i64 0, .int .i64 0, .int .i64 0, .slice none 0 0] 26 (0, 0)) ∧ At wr b3 (.cells #[.int .i64 p, .int .i64 M0, .int .i64 M1, .int .i64 M2, .slice (some ⟨g, 0, none⟩) N N] 26 (0, 0)) ∧ At wr g (.cells (iar (seqP F N ((a * M1 + b) * M2))) 2 (0, 0))) (fun i _ => M1 - (intOf i).toNat)
      case atStart => exact ⟨0, by omega, rfl, hB, h0, h1, h2, h3, by rw [Nat.add_zero]; exact hL⟩
      case round =>
        clear hB h0 h1 h2 h3 hL
        obtain ⟨b, hb, rfl, hB, h0, h1, h2, h3, hL⟩ := hrel
        obtain ⟨wb, rfl⟩ : ∃ x : World, x = wr := ⟨_, rfl⟩
        have k2 : wb.cell? ⟨b3, 2, none⟩ = some (.int .i64 M1) := h3.at_ 2
        by_cases hlt2 : b < M1
        · have hlt2' : (b : Int) < (M1 : Int) := by omega
          have e1 : IntKind.i64.wrap ((b : Int) + 1) = (b : Int) + 1 := IntWalk.i64_in _ (by omega)
          go_wp2_with fail
          clear k2
          go_loopw [8] (fun i wr => ∃ c : Nat, c ≤ M2 ∧ i = .int .i64 c ∧ Below w.heap.size w wr ∧ At wr w.heap.size (.cells #[.int .i64 p, .int .i64 n0, .int .i64 n1, .int .i64 n2, .slice A xs.length cap] 26 (0, 0)) ∧ At wr (w.heap.size + 1) (.cells #[.int .i64 p, .int .i64 d0, .int .i64 d1, .int .i64 d2, .slice B ys.length cap2] 26 (0, 0)) ∧ At wr (w.heap.size + 1 + 1) (.cells #[.int .i64 0, .int .i64 0, .int .i64 0, .int .i64 0, .slice none 0 0] 26 (0, 0)) ∧ At wr b3 (.cells #[.int .i64 p, .int .i64 M0, .int .i64 M1, .int .i64 M2, .slice (some ⟨g, 0, none⟩) N N] 26 (0, 0)) ∧ At wr g (.cells (iar (seqP F N ((a * M1 + b) * M2 + c))) 2 (0, 0))) (fun i _ => M2 - (intOf i).toNat)
          case atStart => exact ⟨0, by omega, rfl, hB, h0, h1, h2, h3, by rw [Nat.add_zero]; exact hL⟩
          case round =>
            clear hB h0 h1 h2 h3 hL
            obtain ⟨c, hc, rfl, hB, h0, h1, h2, h3, hL⟩ := hrel
            obtain ⟨wc, rfl⟩ : ∃ x : World, x = wr := ⟨_, rfl⟩
            have k3 : wc.cell? ⟨b3, 3, none⟩ = some (.int .i64 M2) := h3.at_ 3
            by_cases hlt3 : c < M2
            · have hlt3' : (c : Int) < (M2 : Int) := by omega
              have e2 : IntKind.i64.wrap ((c : Int) + 1) = (c : Int) + 1 := IntWalk.i64_in _ (by omega)
              have hDN := HPl.out a b c hlt hlt2 hlt3
              have HFv := Lib.hid (HFat.out a b c hlt2 hlt3)
              have HStep := Lib.hid (seqP_step F N ((a * M1 + b) * M2 + c))
              have HLen := Lib.hid (seqP_len F N ((a * M1 + b) * M2 + c))
              obtain ⟨D, hD⟩ : ∃ D : Nat, D = (a * M1 + b) * M2 + c := ⟨_, rfl⟩
              obtain ⟨D3, hD3⟩ : ∃ D : Nat, D = (a * M1 + b) * M2 := ⟨_, rfl⟩
              obtain ⟨D2, hD2⟩ : ∃ D : Nat, D = a * M1 + b := ⟨_, rfl⟩
              obtain ⟨D1, hD1⟩ : ∃ D : Nat, D = a * M1 := ⟨_, rfl⟩
              have q1 : a * M1 ≤ 81 := Nat.mul_le_mul (show a ≤ 9 by omega) l1.2
              have HD1 : Hid (IntKind.i64.wrap ((a : Int) * (M1 : Int)) = (D1 : Int)) := Lib.hid (by rw [← Int.natCast_mul, ← hD1]; exact IntWalk.i64_in _ (by omega))
              have HD2 : Hid (IntKind.i64.wrap ((D1 : Int) + (b : Int)) = (D2 : Int)) := Lib.hid (by rw [hD1, ← Int.natCast_add, ← hD2]; exact IntWalk.i64_in _ (by omega))
              have HD3 : Hid (IntKind.i64.wrap ((D2 : Int) * (M2 : Int)) = (D3 : Int)) := Lib.hid (by rw [hD2, ← Int.natCast_mul, ← hD3]; exact IntWalk.i64_in _ (by omega))
              have HD : Hid (IntKind.i64.wrap ((D3 : Int) + (c : Int)) = (D : Int)) := Lib.hid (by rw [hD3, ← Int.natCast_add, ← hD]; exact IntWalk.i64_in _ (by omega))
              rw [← hD] at HStep hDN HFv
              have HDN := Lib.hid hDN
              obtain ⟨L2, hL2⟩ : ∃ L2, L2 = seqP F N ((a * M1 + b) * M2 + c + 1) := ⟨_, rfl⟩
              have HL2 := Lib.hid hL2
              rw [← hD, ← HStep.out] at hL2
              have q0 : a / d0 < n0 := Nat.div_lt_of_lt_mul (by rw [Nat.mul_comm, ← HM0.out]; exact hlt)
              have q1' : b / d1 < n1 := Nat.div_lt_of_lt_mul (by rw [Nat.mul_comm, ← HM1.out]; exact hlt2)
              have q2 : c / d2 < n2 := Nat.div_lt_of_lt_mul (by rw [Nat.mul_comm, ← HM2.out]; exact hlt3)
              have r0 : a % d0 < d0 := Nat.mod_lt _ (by omega)
              have r1 : b % d1 < d1 := Nat.mod_lt _ (by omega)
              have r2 : c % d2 < d2 := Nat.mod_lt _ (by omega)
              have HN1 := Lib.hid (fun w' (hb : Below w.heap.size w w') => l05At_n p n0 n1 n2 A cap xs (a / d0) (b / d1) (c / d2) w' (HRx.out.keep hb) HLx.out a0.2 a1.2 a2.2 q0 q1' q2)
              have HN2 := Lib.hid (fun w' (hb : Below w.heap.size w w') => l05At_n p d0 d1 d2 B cap2 ys (a % d0) (b % d1) (c % d2) w' (HRy.out.keep hb) HLy.out c0.2 c1.2 c2.2 r0 r1 r2)
              have bx := HBX.out (a / d0) (b / d1) (c / d2)
              have by_ := HBY.out (a % d0) (b % d1) (c % d2)
              have bm := mul_small bx by_ p2
              rw [kroF] at HFv
              have HQ0 := Lib.hid (wrap_quo a d0 (by omega))
              have HQ1 := Lib.hid (wrap_quo b d1 (by omega))
              have HQ2 := Lib.hid (wrap_quo c d2 (by omega))
              have HR0 := Lib.hid (nat_rem a d0)
              have HR1 := Lib.hid (nat_rem b d1)
              have HR2 := Lib.hid (nat_rem c d2)
              generalize at3 n1 n2 xs (a / d0) (b / d1) (c / d2) = X at *
              generalize at3 d1 d2 ys (a % d0) (b % d1) (c % d2) = Y at *
              generalize a / d0 = Q0 at *
              generalize b / d1 = Q1 at *
              generalize c / d2 = Q2 at *
              generalize a % d0 = R0 at *
              generalize b % d1 = R1 at *
              generalize c % d2 = R2 at *
              obtain ⟨V, hV⟩ : ∃ V, V = X * Y % p := ⟨_, rfl⟩
              have HV : Hid ((X * Y).tmod p = V) := Lib.hid (by rw [hV]; exact Int.tmod_eq_emod_of_nonneg (by omega))
              have HSet : Hid ((seqP F N D).set D V = L2) := Lib.hid (by rw [hL2, HFv.out, hV])
              rw [← hD] at HLen hL
              generalize seqP F N D = L at *
              clear hD hD1 hD2 hD3 q1 hL2 hV q0 q1' q2 r0 r1 r2
              go_wp2_with fail
              go_upto_region 11 with (fail)
              refine wp_region_y (zs := []) (S := fun w' => Below w.heap.size w w' ∧ At w' b3 (.cells #[.int .i64 p, .int .i64 M0, .int .i64 M1, .int .i64 M2, .slice (some ⟨g, 0, none⟩) N N] 26 (0, 0)) ∧ At w' w.heap.size (.cells #[.int .i64 p, .int .i64 n0, .int .i64 n1, .int .i64 n2, .slice A xs.length cap] 26 (0, 0)) ∧ At w' (w.heap.size + 1) (.cells #[.int .i64 p, .int .i64 d0, .int .i64 d1, .int .i64 d2, .slice B ys.length cap2] 26 (0, 0))) (S2 := fun w' => True) (by kernel_rfl) ?_
              change wpAnyY _ _ _ _ _ _ _ _ _ _ (World.drew _)
              generalize hwdz1 : World.drew _ = wdz1
              replace hB : Below w.heap.size w wdz1 := by rw [← hwdz1]; exact hB.drew
              replace h0 : At wdz1 w.heap.size (.cells #[.int .i64 p, .int .i64 n0, .int .i64 n1, .int .i64 n2, .slice A xs.length cap] 26 (0, 0)) := by rw [← hwdz1]; exact h0
              replace h1 : At wdz1 (w.heap.size + 1) (.cells #[.int .i64 p, .int .i64 d0, .int .i64 d1, .int .i64 d2, .slice B ys.length cap2] 26 (0, 0)) := by rw [← hwdz1]; exact h1
              replace h2 : At wdz1 (w.heap.size + 1 + 1) (.cells #[.int .i64 0, .int .i64 0, .int .i64 0, .int .i64 0, .slice none 0 0] 26 (0, 0)) := by rw [← hwdz1]; exact h2
              replace h3 : At wdz1 b3 (.cells #[.int .i64 p, .int .i64 M0, .int .i64 M1, .int .i64 M2, .slice (some ⟨g, 0, none⟩) N N] 26 (0, 0)) := by rw [← hwdz1]; exact h3
              replace hL : At wdz1 g (.cells (iar L) 2 (0, 0)) := by rw [← hwdz1]; exact hL
              clear hwdz1
              refine y_yield 0 (some 45) (.pointer (some ⟨b3, 4, none⟩)) rfl (by kernel_rfl) (by kernel_rfl) (by kernel_rfl) (fun _ _ _ h => h) rfl rfl ⟨hB, h3, h0, h1⟩ (fun w' h' => exec_fieldAddr 26 _ 4 rfl _ (by kernel_rfl)) ?_
              go_frame
              refine y_yield 1 (some 46) (.slice (some ⟨g, 0, none⟩) N N) rfl (by kernel_rfl) (by kernel_rfl) (by kernel_rfl) (fun _ _ _ h => h) rfl rfl ⟨hB, h3, h0, h1⟩ (fun w' h' => exec_load_one 22 _ rfl b3 4 rfl (.slice (some ⟨g, 0, none⟩) N N) _ Try.underlying22 rfl (h'.2.1.at_ 4)) ?_
              go_frame
              refine y_yield 2 (some 47) (.int .i64 a) rfl (by kernel_rfl) (by kernel_rfl) (by kernel_rfl) (fun _ _ _ h => h) rfl rfl ⟨hB, h3, h0, h1⟩ (fun w' h' => exec_move _ rfl (.int .i64 a) rfl) ?_
              go_frame
              refine y_yield 3 (some 48) (.pointer (some ⟨b3, 2, none⟩)) rfl (by kernel_rfl) (by kernel_rfl) (by kernel_rfl) (fun _ _ _ h => h) rfl rfl ⟨hB, h3, h0, h1⟩ (fun w' h' => exec_fieldAddr 26 _ 2 rfl _ (by kernel_rfl)) ?_
              go_frame
              refine y_yield 4 (some 49) (.int .i64 M1) rfl (by kernel_rfl) (by kernel_rfl) (by kernel_rfl) (fun _ _ _ h => h) rfl rfl ⟨hB, h3, h0, h1⟩ (fun w' h' => exec_load_one 2 _ rfl b3 2 rfl (.int .i64 M1) _ Try.underlying2 rfl (h'.2.1.at_ 2)) ?_
              go_frame
              refine y_yield 5 (some 50) (.int .i64 D1) rfl (by kernel_rfl) (by kernel_rfl) (by kernel_rfl) (fun _ _ _ h => h) rfl rfl ⟨hB, h3, h0, h1⟩ (fun w' h' => exec_mul _ _ _ _ rfl a M1 D1 rfl rfl HD1.out) ?_
              go_frame
              refine y_yield 6 (some 51) (.int .i64 b) rfl (by kernel_rfl) (by kernel_rfl) (by kernel_rfl) (fun _ _ _ h => h) rfl rfl ⟨hB, h3, h0, h1⟩ (fun w' h' => exec_move _ rfl (.int .i64 b) rfl) ?_
              go_frame
              refine y_yield 7 (some 52) (.int .i64 D2) rfl (by kernel_rfl) (by kernel_rfl) (by kernel_rfl) (fun _ _ _ h => h) rfl rfl ⟨hB, h3, h0, h1⟩ (fun w' h' => exec_add _ _ _ _ rfl D1 b D2 rfl rfl HD2.out) ?_
              go_frame
              refine y_yield 8 (some 53) (.pointer (some ⟨b3, 3, none⟩)) rfl (by kernel_rfl) (by kernel_rfl) (by kernel_rfl) (fun _ _ _ h => h) rfl rfl ⟨hB, h3, h0, h1⟩ (fun w' h' => exec_fieldAddr 26 _ 3 rfl _ (by kernel_rfl)) ?_
              go_frame
              refine y_yield 9 (some 54) (.int .i64 M2) rfl (by kernel_rfl) (by kernel_rfl) (by kernel_rfl) (fun _ _ _ h => h) rfl rfl ⟨hB, h3, h0, h1⟩ (fun w' h' => exec_load_one 2 _ rfl b3 3 rfl (.int .i64 M2) _ Try.underlying2 rfl (h'.2.1.at_ 3)) ?_
              go_frame
              refine y_yield 10 (some 55) (.int .i64 D3) rfl (by kernel_rfl) (by kernel_rfl) (by kernel_rfl) (fun _ _ _ h => h) rfl rfl ⟨hB, h3, h0, h1⟩ (fun w' h' => exec_mul _ _ _ _ rfl D2 M2 D3 rfl rfl HD3.out) ?_
              go_frame
              refine y_yield 11 (some 56) (.int .i64 c) rfl (by kernel_rfl) (by kernel_rfl) (by kernel_rfl) (fun _ _ _ h => h) rfl rfl ⟨hB, h3, h0, h1⟩ (fun w' h' => exec_move _ rfl (.int .i64 c) rfl) ?_
              go_frame
              refine y_yield 12 (some 57) (.int .i64 D) rfl (by kernel_rfl) (by kernel_rfl) (by kernel_rfl) (fun _ _ _ h => h) rfl rfl ⟨hB, h3, h0, h1⟩ (fun w' h' => exec_add _ _ _ _ rfl D3 c D rfl rfl HD.out) ?_
              go_frame
              refine y_yield 13 (some 58) (.agg #[.int .i64 p, .int .i64 n0, .int .i64 n1, .int .i64 n2, .slice A xs.length cap]) rfl (by kernel_rfl) (by kernel_rfl) (by kernel_rfl) (fun _ _ _ h => h) rfl rfl ⟨hB, h3, h0, h1⟩ (fun w' h' => exec_load_all 26 _ rfl w.heap.size rfl _ _ _ h'.2.2.1 Try.underlying26 rfl 5 (by kernel_rfl) rfl) ?_
              go_frame
              refine y_yield 14 (some 59) (.int .i64 a) rfl (by kernel_rfl) (by kernel_rfl) (by kernel_rfl) (fun _ _ _ h => h) rfl rfl ⟨hB, h3, h0, h1⟩ (fun w' h' => exec_move _ rfl (.int .i64 a) rfl) ?_
              go_frame
              refine y_yield 15 (some 60) (.pointer (some ⟨w.heap.size + 1, 1, none⟩)) rfl (by kernel_rfl) (by kernel_rfl) (by kernel_rfl) (fun _ _ _ h => h) rfl rfl ⟨hB, h3, h0, h1⟩ (fun w' h' => exec_fieldAddr 26 _ 1 rfl _ (by kernel_rfl)) ?_
              go_frame
              refine y_yield 16 (some 61) (.int .i64 d0) rfl (by kernel_rfl) (by kernel_rfl) (by kernel_rfl) (fun _ _ _ h => h) rfl rfl ⟨hB, h3, h0, h1⟩ (fun w' h' => exec_load_one 2 _ rfl (w.heap.size + 1) 1 rfl (.int .i64 d0) _ Try.underlying2 rfl (h'.2.2.2.at_ 1)) ?_
              go_frame
              refine y_yield 17 (some 62) (.int .i64 Q0) rfl (by kernel_rfl) (by kernel_rfl) (by kernel_rfl) (fun _ _ _ h => h) rfl rfl ⟨hB, h3, h0, h1⟩ (fun w' h' => exec_quo _ _ _ _ rfl a d0 Q0 rfl rfl (by omega) HQ0.out) ?_
              go_frame
              refine y_yield 18 (some 63) (.int .i64 b) rfl (by kernel_rfl) (by kernel_rfl) (by kernel_rfl) (fun _ _ _ h => h) rfl rfl ⟨hB, h3, h0, h1⟩ (fun w' h' => exec_move _ rfl (.int .i64 b) rfl) ?_
              go_frame
              refine y_yield 19 (some 64) (.pointer (some ⟨w.heap.size + 1, 2, none⟩)) rfl (by kernel_rfl) (by kernel_rfl) (by kernel_rfl) (fun _ _ _ h => h) rfl rfl ⟨hB, h3, h0, h1⟩ (fun w' h' => exec_fieldAddr 26 _ 2 rfl _ (by kernel_rfl)) ?_
              go_frame
              refine y_yield 20 (some 65) (.int .i64 d1) rfl (by kernel_rfl) (by kernel_rfl) (by kernel_rfl) (fun _ _ _ h => h) rfl rfl ⟨hB, h3, h0, h1⟩ (fun w' h' => exec_load_one 2 _ rfl (w.heap.size + 1) 2 rfl (.int .i64 d1) _ Try.underlying2 rfl (h'.2.2.2.at_ 2)) ?_
              go_frame
              refine y_yield 21 (some 66) (.int .i64 Q1) rfl (by kernel_rfl) (by kernel_rfl) (by kernel_rfl) (fun _ _ _ h => h) rfl rfl ⟨hB, h3, h0, h1⟩ (fun w' h' => exec_quo _ _ _ _ rfl b d1 Q1 rfl rfl (by omega) HQ1.out) ?_
              go_frame
              refine y_yield 22 (some 67) (.int .i64 c) rfl (by kernel_rfl) (by kernel_rfl) (by kernel_rfl) (fun _ _ _ h => h) rfl rfl ⟨hB, h3, h0, h1⟩ (fun w' h' => exec_move _ rfl (.int .i64 c) rfl) ?_
              go_frame
              refine y_yield 23 (some 68) (.pointer (some ⟨w.heap.size + 1, 3, none⟩)) rfl (by kernel_rfl) (by kernel_rfl) (by kernel_rfl) (fun _ _ _ h => h) rfl rfl ⟨hB, h3, h0, h1⟩ (fun w' h' => exec_fieldAddr 26 _ 3 rfl _ (by kernel_rfl)) ?_
              go_frame
              refine y_yield 24 (some 69) (.int .i64 d2) rfl (by kernel_rfl) (by kernel_rfl) (by kernel_rfl) (fun _ _ _ h => h) rfl rfl ⟨hB, h3, h0, h1⟩ (fun w' h' => exec_load_one 2 _ rfl (w.heap.size + 1) 3 rfl (.int .i64 d2) _ Try.underlying2 rfl (h'.2.2.2.at_ 3)) ?_
              go_frame
              refine y_yield 25 (some 70) (.int .i64 Q2) rfl (by kernel_rfl) (by kernel_rfl) (by kernel_rfl) (fun _ _ _ h => h) rfl rfl ⟨hB, h3, h0, h1⟩ (fun w' h' => exec_quo _ _ _ _ rfl c d2 Q2 rfl rfl (by omega) HQ2.out) ?_
              go_frame
              refine y_yield 27 (some 72) (.agg #[.int .i64 p, .int .i64 d0, .int .i64 d1, .int .i64 d2, .slice B ys.length cap2]) rfl (by kernel_rfl) (by kernel_rfl) (by kernel_rfl) (fun _ _ _ h => h) rfl rfl ⟨hB, h3, h0, h1⟩ (fun w' h' => exec_load_all 26 _ rfl (w.heap.size + 1) rfl _ _ _ h'.2.2.2 Try.underlying26 rfl 5 (by kernel_rfl) rfl) ?_
              go_frame
              refine y_yield 28 (some 73) (.int .i64 a) rfl (by kernel_rfl) (by kernel_rfl) (by kernel_rfl) (fun _ _ _ h => h) rfl rfl ⟨hB, h3, h0, h1⟩ (fun w' h' => exec_move _ rfl (.int .i64 a) rfl) ?_
              go_frame
              refine y_yield 29 (some 74) (.pointer (some ⟨w.heap.size + 1, 1, none⟩)) rfl (by kernel_rfl) (by kernel_rfl) (by kernel_rfl) (fun _ _ _ h => h) rfl rfl ⟨hB, h3, h0, h1⟩ (fun w' h' => exec_fieldAddr 26 _ 1 rfl _ (by kernel_rfl)) ?_
              go_frame
              refine y_yield 30 (some 75) (.int .i64 d0) rfl (by kernel_rfl) (by kernel_rfl) (by kernel_rfl) (fun _ _ _ h => h) rfl rfl ⟨hB, h3, h0, h1⟩ (fun w' h' => exec_load_one 2 _ rfl (w.heap.size + 1) 1 rfl (.int .i64 d0) _ Try.underlying2 rfl (h'.2.2.2.at_ 1)) ?_
              go_frame
              refine y_yield 31 (some 76) (.int .i64 R0) rfl (by kernel_rfl) (by kernel_rfl) (by kernel_rfl) (fun _ _ _ h => h) rfl rfl ⟨hB, h3, h0, h1⟩ (fun w' h' => exec_rem _ _ _ _ rfl a d0 R0 rfl rfl (by omega) HR0.out) ?_
              go_frame
              refine y_yield 32 (some 77) (.int .i64 b) rfl (by kernel_rfl) (by kernel_rfl) (by kernel_rfl) (fun _ _ _ h => h) rfl rfl ⟨hB, h3, h0, h1⟩ (fun w' h' => exec_move _ rfl (.int .i64 b) rfl) ?_
              go_frame
              refine y_yield 33 (some 78) (.pointer (some ⟨w.heap.size + 1, 2, none⟩)) rfl (by kernel_rfl) (by kernel_rfl) (by kernel_rfl) (fun _ _ _ h => h) rfl rfl ⟨hB, h3, h0, h1⟩ (fun w' h' => exec_fieldAddr 26 _ 2 rfl _ (by kernel_rfl)) ?_
              go_frame
              refine y_yield 34 (some 79) (.int .i64 d1) rfl (by kernel_rfl) (by kernel_rfl) (by kernel_rfl) (fun _ _ _ h => h) rfl rfl ⟨hB, h3, h0, h1⟩ (fun w' h' => exec_load_one 2 _ rfl (w.heap.size + 1) 2 rfl (.int .i64 d1) _ Try.underlying2 rfl (h'.2.2.2.at_ 2)) ?_
              go_frame
              refine y_yield 35 (some 80) (.int .i64 R1) rfl (by kernel_rfl) (by kernel_rfl) (by kernel_rfl) (fun _ _ _ h => h) rfl rfl ⟨hB, h3, h0, h1⟩ (fun w' h' => exec_rem _ _ _ _ rfl b d1 R1 rfl rfl (by omega) HR1.out) ?_
              go_frame
              refine y_yield 36 (some 81) (.int .i64 c) rfl (by kernel_rfl) (by kernel_rfl) (by kernel_rfl) (fun _ _ _ h => h) rfl rfl ⟨hB, h3, h0, h1⟩ (fun w' h' => exec_move _ rfl (.int .i64 c) rfl) ?_
              go_frame
              refine y_yield 37 (some 82) (.pointer (some ⟨w.heap.size + 1, 3, none⟩)) rfl (by kernel_rfl) (by kernel_rfl) (by kernel_rfl) (fun _ _ _ h => h) rfl rfl ⟨hB, h3, h0, h1⟩ (fun w' h' => exec_fieldAddr 26 _ 3 rfl _ (by kernel_rfl)) ?_
              go_frame
              refine y_yield 38 (some 83) (.int .i64 d2) rfl (by kernel_rfl) (by kernel_rfl) (by kernel_rfl) (fun _ _ _ h => h) rfl rfl ⟨hB, h3, h0, h1⟩ (fun w' h' => exec_load_one 2 _ rfl (w.heap.size + 1) 3 rfl (.int .i64 d2) _ Try.underlying2 rfl (h'.2.2.2.at_ 3)) ?_
              go_frame
              refine y_yield 39 (some 84) (.int .i64 R2) rfl (by kernel_rfl) (by kernel_rfl) (by kernel_rfl) (fun _ _ _ h => h) rfl rfl ⟨hB, h3, h0, h1⟩ (fun w' h' => exec_rem _ _ _ _ rfl c d2 R2 rfl rfl (by omega) HR2.out) ?_
              go_frame
              refine y_yield 42 (some 87) (.pointer (some ⟨w.heap.size, 0, none⟩)) rfl (by kernel_rfl) (by kernel_rfl) (by kernel_rfl) (fun _ _ _ h => h) rfl rfl ⟨hB, h3, h0, h1⟩ (fun w' h' => exec_fieldAddr 26 _ 0 rfl _ (by kernel_rfl)) ?_
              go_frame
              refine y_yield 43 (some 88) (.int .i64 p) rfl (by kernel_rfl) (by kernel_rfl) (by kernel_rfl) (fun _ _ _ h => h) rfl rfl ⟨hB, h3, h0, h1⟩ (fun w' h' => exec_load_one 2 _ rfl w.heap.size 0 rfl (.int .i64 p) _ Try.underlying2 rfl (h'.2.2.1.at_ 0)) ?_
              go_frame
              refine y_oper 26 (by kernel_rfl) rfl rfl (fun K' hK' => ?_)
              have lz4 := hB.size
              have lz5 := h0.lt
              have lz6 := h1.lt
              have lz7 := h2.lt
              have lz8 := h3.lt
              have lz9 := hL.lt
              refine wp_call4 (some 71) rfl 39 _ _ _ _ _ rfl (fun args w => by kernel_rfl) _ _ _ _ rfl rfl rfl rfl _ (HN1.out _ hB) (fun e Wz2 h => ?_)
              obtain ⟨rfl, bz3⟩ := h
              replace hB := below_after hB bz3
              replace h0 := h0.after bz3
              replace h1 := h1.after bz3
              replace h2 := h2.after bz3
              replace h3 := h3.after bz3
              replace hL := hL.after bz3
              clear bz3
              refine ⟨_, rfl, ?_⟩
              refine hK' _ _ ⟨hB, h3, h0, h1⟩ (fun _ => trivial) ?_
              clear hK' K'
              go_frame
              refine y_oper 40 (by kernel_rfl) rfl rfl (fun K' hK' => ?_)
              have lz12 := hB.size
              have lz13 := h0.lt
              have lz14 := h1.lt
              have lz15 := h2.lt
              have lz16 := h3.lt
              have lz17 := hL.lt
              refine wp_call4 (some 85) rfl 39 _ _ _ _ _ rfl (fun args w => by kernel_rfl) _ _ _ _ rfl rfl rfl rfl _ (HN2.out _ hB) (fun e Wz10 h => ?_)
              obtain ⟨rfl, bz11⟩ := h
              replace hB := below_after hB bz11
              replace h0 := h0.after bz11
              replace h1 := h1.after bz11
              replace h2 := h2.after bz11
              replace h3 := h3.after bz11
              replace hL := hL.after bz11
              clear bz11
              refine ⟨_, rfl, ?_⟩
              refine hK' _ _ ⟨hB, h3, h0, h1⟩ (fun _ => trivial) ?_
              clear hK' K'
              go_frame
              refine y_yield 41 (some 86) (.int .i64 (X * Y)) rfl (by kernel_rfl) (by kernel_rfl) (by kernel_rfl) (fun _ _ _ h => h) rfl rfl ⟨hB, h3, h0, h1⟩ (fun w' h' => exec_mul _ _ _ _ rfl X Y (X * Y) rfl rfl (IntWalk.i64_in _ (by omega))) ?_
              go_frame
              refine y_yield 44 (some 89) (.int .i64 V) rfl (by kernel_rfl) (by kernel_rfl) (by kernel_rfl) (fun _ _ _ h => h) rfl rfl ⟨hB, h3, h0, h1⟩ (fun w' h' => exec_rem _ _ _ _ rfl (X * Y) p V rfl rfl (by omega) HV.out) ?_
              go_frame
              refine y_yield 45 (some 90) (.pointer (some ⟨g, D * 1, none⟩)) rfl (by kernel_rfl) (by kernel_rfl) (by kernel_rfl) (fun _ _ _ h => h) rfl rfl ⟨hB, h3, h0, h1⟩ (fun w' h' => exec_ix0 _ 2 _ _ rfl g N N D 1 rfl rfl Try.underlying22 (by kernel_rfl) HDN.out) ?_
              go_frame
              refine y_oper 46 (by kernel_rfl) rfl rfl (fun K' hK' => ?_)
              refine wp_store_one 2 _ _ rfl rfl g (D * 1) rfl (.int .i64 V) rfl rfl rfl _ _ hL (by kernel_rfl) (by rw [iar_size, HLen.out]; omega) (fun Wz18 pz19 => ?_)
              replace hB := pz19.below hB (by omega)
              replace h0 := pz19.other h0 (by omega)
              replace h1 := pz19.other h1 (by omega)
              replace h2 := pz19.other h2 (by omega)
              replace h3 := pz19.other h3 (by omega)
              replace hL : At Wz18 g (.cells (iar L2) 2 (0, 0)) := by have h9 := pz19.at_; rwa [Nat.mul_one, iar_set, HSet.out] at h9
              refine hK' _ _ ⟨hB, h3, h0, h1⟩ (fun _ => trivial) ?_
              clear hK' K' pz19
              refine y_done (by kernel_rfl) ?_ _
              go_wp2_with fail
              go_roundw
              case rel => exact ⟨c + 1, by omega, by go_num, hB, h0, h1, h2, h3, by rw [← Nat.add_assoc, ← HL2.out]; exact hL⟩
              case measure => simp [intOf]; omega
            · obtain rfl : c = M2 := by omega
              go_wp2_with fail
              go_roundw
              case rel => exact ⟨b + 1, by omega, by go_num, hB, h0, h1, h2, h3, by rw [← Nat.add_assoc, Nat.add_mul (a * M1 + b), Nat.one_mul]; exact hL⟩
              case measure => simp [intOf]; omega
        · obtain rfl : b = M1 := by omega
          go_wp2_with fail
          go_roundw
          case rel => exact ⟨a + 1, by omega, by go_num, hB, h0, h1, h2, h3, by rw [Nat.add_mul a 1, Nat.one_mul]; exact hL⟩
          case measure => simp [intOf]; omega
    · obtain rfl : a = M0 := by omega
      rw [HNe.out] at hL
      go_wp2_with (first | (refine wpList_load_all rfl 26 _ rfl b3 rfl _ _ _ h3 Try.underlying26 rfl 5 (by kernel_rfl) rfl ?_) | (refine wpList_store_all rfl 26 _ _ rfl rfl (w.heap.size + 1 + 1) rfl _ rfl _ _ h2 5 (by kernel_rfl) rfl rfl (by simp [Value.oneCell']) ?_; intro w7 p7))
      refine bodyPost_ret (results_at rfl _ _ (w.heap.size + 1 + 1) _ _ _ rfl p7.at_ Try.underlying26 rfl 5 (by kernel_rfl) rfl) rfl ?_
      rw [HEnd.out] at hL
      have ho := OwnI.of_at (p7.other hL (by omega)) (show w.heap.size ≤ g by omega) (by rw [genL_len]; omega)
      rw [genL_len] at ho
      exact ⟨_, rfl, by rw [HNe.out]; exact ho, p7.below hB (by omega)⟩
end Go.Proofs.Ytcmpeoijedddjaa
