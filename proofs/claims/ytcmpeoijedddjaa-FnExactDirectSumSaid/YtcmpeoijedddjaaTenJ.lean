/-
  spec.DirectSum. (Made by mktenh.py.)
-/
import Derived.Test.YtcmpeoijedddjaaTenM
import Derived.Test.YtcmpeoijedddjaaTenI
namespace Go.Proofs.Ytcmpeoijedddjaa
open Go.RowKit
set_option maxRecDepth 100000
theorem hasB_mk {a b c i j k : Int} (h : 0 ≤ i ∧ i < a ∧ 0 ≤ j ∧ j < b ∧ 0 ≤ k ∧ k < c) : hasB a b c i j k = true := by
  simp only [hasB, Bool.and_eq_true, inB_iff]
  omega
set_option maxHeartbeats 12800000 in
theorem specDs_y (p : Int) (n0 n1 n2 d0 d1 d2 : Nat) (A : Option Addr) (cap : Nat) (xs : List Int) (B : Option Addr) (cap2 : Nat) (ys : List Int) (w : World) (hr : RdI w A xs) (hn : xs.length ≤ 1048576) (hs : RdI w B ys) (hm : ys.length ≤ 1048576)
    (htx : tenB p n0 n1 n2 xs = true) (hty : tenB p d0 d1 d2 ys = true) (hok : (sideB ((n0 : Int) + d0) && sideB ((n1 : Int) + d1) && sideB ((n2 : Int) + d2)) = true) :
    Calls Try.prog 14 #[.agg #[.int .i64 p, .int .i64 n0, .int .i64 n1, .int .i64 n2, .slice A xs.length cap], .agg #[.int .i64 p, .int .i64 d0, .int .i64 d1, .int .i64 d2, .slice B ys.length cap2]] w (ResT w (dsZ p n0 n1 n2 xs p d0 d1 d2 ys p) (dsZ p n0 n1 n2 xs p d0 d1 d2 ys (n0 + d0)) (dsZ p n0 n1 n2 xs p d0 d1 d2 ys (n1 + d1)) (dsZ p n0 n1 n2 xs p d0 d1 d2 ys (n2 + d2)) (dsR p n0 n1 n2 xs p d0 d1 d2 ys) (dsCode p n0 n1 n2 xs p d0 d1 d2 ys)) := by
  obtain ⟨p1, p2, a0, a1, a2, hlx, hx⟩ := tenB_n3 htx
  obtain ⟨_, _, c0, c1, c2, hly, hy⟩ := tenB_n3 hty
  have hck : ckCode p n0 n1 n2 xs p d0 d1 d2 ys = 0 := by unfold ckCode; rw [if_pos htx, if_pos hty, if_pos rfl]
  have HCk := Lib.hid (fun w' (hb : Below w.heap.size w w') => l05Two_c p n0 n1 n2 A cap xs p d0 d1 d2 B cap2 ys w' (hr.keep hb) hn (hs.keep hb) hm)
  obtain ⟨M0, hM0⟩ : ∃ M, M = n0 + d0 := ⟨_, rfl⟩
  obtain ⟨M1, hM1⟩ : ∃ M, M = n1 + d1 := ⟨_, rfl⟩
  obtain ⟨M2, hM2⟩ : ∃ M, M = n2 + d2 := ⟨_, rfl⟩
  have HI0 : Hid ((n0 : Int) + (d0 : Int) = (M0 : Int)) := Lib.hid (by rw [hM0]; simp)
  have HI1 : Hid ((n1 : Int) + (d1 : Int) = (M1 : Int)) := Lib.hid (by rw [hM1]; simp)
  have HI2 : Hid ((n2 : Int) + (d2 : Int) = (M2 : Int)) := Lib.hid (by rw [hM2]; simp)
  have hM09 : 1 ≤ M0 ∧ M0 ≤ 81 := by omega
  have hM19 : 1 ≤ M1 ∧ M1 ≤ 81 := by omega
  have hM29 : 1 ≤ M2 ∧ M2 ≤ 81 := by omega
  obtain ⟨m0, hm0⟩ : ∃ m : Int, m = (M0 : Int) := ⟨_, rfl⟩
  obtain ⟨m1, hm1⟩ : ∃ m : Int, m = (M1 : Int) := ⟨_, rfl⟩
  obtain ⟨m2, hm2⟩ : ∃ m : Int, m = (M2 : Int) := ⟨_, rfl⟩
  have w0 : IntKind.i64.wrap ((n0 : Int) + (d0 : Int)) = m0 := by rw [HI0.out, hm0]; exact IntWalk.i64_in _ (by omega)
  have w1' : IntKind.i64.wrap ((n1 : Int) + (d1 : Int)) = m1 := by rw [HI1.out, hm1]; exact IntWalk.i64_in _ (by omega)
  have w2' : IntKind.i64.wrap ((n2 : Int) + (d2 : Int)) = m2 := by rw [HI2.out, hm2]; exact IntWalk.i64_in _ (by omega)
  obtain ⟨mx, hmx⟩ : ∃ mx, (if (if m0 < m1 then m1 else m0) < m2 then m2 else (if m0 < m1 then m1 else m0)) = mx := ⟨_, rfl⟩
  have hd : decide ((9 : Int) < mx) = false := by
    rw [← hmx]
    have h1 := sideB_in (n := M0) (by simp only [Bool.and_eq_true] at hok; rw [← HI0.out]; exact hok.1.1)
    have h2 := sideB_in (n := M1) (by simp only [Bool.and_eq_true] at hok; rw [← HI1.out]; exact hok.1.2)
    have h3 := sideB_in (n := M2) (by simp only [Bool.and_eq_true] at hok; rw [← HI2.out]; exact hok.2)
    simp only [decide_eq_false_iff_not]
    split <;> split <;> omega
  have Hck := Lib.hid hck
  have Hcode : Hid (dsCode p n0 n1 n2 xs p d0 d1 d2 ys = 0) := Lib.hid (by unfold dsCode; rw [if_pos hck, if_pos hok])
  have Hz : Hid (∀ x, dsZ p n0 n1 n2 xs p d0 d1 d2 ys x = x) := Lib.hid (fun x => by simp [dsZ, Hcode.out])
  have Hr : Hid (dsR p n0 n1 n2 xs p d0 d1 d2 ys = genL M1 M2 p (dsF n0 n1 n2 d0 d1 d2 xs ys) (M0 * M1 * M2)) := Lib.hid (by unfold dsR; rw [if_pos Hcode.out, HI0.out, HI1.out, HI2.out]; simp only [Int.toNat_natCast])
  have l0 : 1 ≤ M0 ∧ M0 ≤ 9 := (by have := sideB_in (n := M0) (by simp only [Bool.and_eq_true] at hok; rw [← HI0.out]; exact hok.1.1); omega)
  have l1 : 1 ≤ M1 ∧ M1 ≤ 9 := (by have := sideB_in (n := M1) (by simp only [Bool.and_eq_true] at hok; rw [← HI1.out]; exact hok.1.2); omega)
  have l2 : 1 ≤ M2 ∧ M2 ≤ 9 := (by have := sideB_in (n := M2) (by simp only [Bool.and_eq_true] at hok; rw [← HI2.out]; exact hok.2); omega)
  have HE := Lib.hid (fun w => l05Empty_c p M0 M1 M2 w l0.2 l1.2 l2.2)
  obtain ⟨F, hF⟩ : ∃ F : Nat → Int, F = gen M1 M2 p (dsF n0 n1 n2 d0 d1 d2 xs ys) := ⟨_, rfl⟩
  have HFat : Hid (∀ (i j k : Nat), j < M1 → k < M2 → F ((i * M1 + j) * M2 + k) = dsF n0 n1 n2 d0 d1 d2 xs ys i j k % p) := Lib.hid (fun i j k hj hk => by rw [hF]; exact gen_at hj hk)
  have HDp : Hid (∀ i j k : Nat, 0 ≤ dsF n0 n1 n2 d0 d1 d2 xs ys i j k ∧ dsF n0 n1 n2 d0 d1 d2 xs ys i j k < p) := Lib.hid (fun i j k => dsF_nonneg hx hy (by omega) i j k)
  have hN : M0 * M1 * M2 ≤ 729 := places_729 l0.2 l1.2 l2.2
  have HPl : Hid (∀ (i j k : Nat), i < M0 → j < M1 → k < M2 → (i * M1 + j) * M2 + k < M0 * M1 * M2) := Lib.hid (fun _ _ _ hi hj hk => place_lt hi hj hk)
  have HEnd : Hid (seqP F (M0 * M1 * M2) (M0 * M1 * M2) = genL M1 M2 p (dsF n0 n1 n2 d0 d1 d2 xs ys) (M0 * M1 * M2)) := Lib.hid (by rw [seqP_end, hF]; rfl)
  have HRx := Lib.hid hr
  have HRy := Lib.hid hs
  have HLx := Lib.hid hlx
  have HLy := Lib.hid hly
  have Hm0 := Lib.hid hm0
  have Hm1 := Lib.hid hm1
  have Hm2 := Lib.hid hm2
  have hsum0 : M0 = n0 + d0 := hM0
  have hsum1 : M1 = n1 + d1 := hM1
  have hsum2 : M2 = n2 + d2 := hM2
  have HS0 := Lib.hid hsum0
  have HS1 := Lib.hid hsum1
  have HS2 := Lib.hid hsum2
  clear hck htx hty hlx hly hx hy hr hs hM0 hM1 hM2 hm0 hm1 hm2 hok hF hsum0 hsum1 hsum2
  obtain ⟨N, HNe⟩ : ∃ N : Nat, Hid (M0 * M1 * M2 = N) := ⟨_, Lib.hid rfl⟩
  rw [HNe.out] at hN HPl HEnd
  have HZ := Lib.hid (seqP_zero F N)
  go_enter Try.func14, Try.ntmps14
  go_wp2_with (first | (refine wpList_abs3 ?_; intro W hsz hB h0 h1 h2; have z0 : W.heap.size = w.heap.size + 1 + 1 + 1 := hsz; clear hsz) | (refine wpList_load_all rfl 26 _ rfl w.heap.size rfl _ _ _ h0 Try.underlying26 rfl 5 (by kernel_rfl) rfl ?_) | (refine wpList_load_all rfl 26 _ rfl (w.heap.size + 1) rfl _ _ _ h1 Try.underlying26 rfl 5 (by kernel_rfl) rfl ?_))
  refine (HCk.out _ hB).mono ?_
  rintro e0 w1 ⟨rfl, b1⟩
  replace hB := below_after hB b1
  replace h0 := h0.after b1
  replace h1 := h1.after b1
  replace h2 := h2.after b1
  have z1 : w.heap.size + 1 + 1 + 1 ≤ w1.heap.size := by have := b1.size; omega
  clear b1 z0
  rw [Hck.out]
  have x0 : w1.cell? ⟨w.heap.size, 0, none⟩ = some (.int .i64 p) := h0.at_ 0
  have x1 : w1.cell? ⟨w.heap.size, 1, none⟩ = some (.int .i64 n0) := h0.at_ 1
  have x2 : w1.cell? ⟨w.heap.size, 2, none⟩ = some (.int .i64 n1) := h0.at_ 2
  have x3 : w1.cell? ⟨w.heap.size, 3, none⟩ = some (.int .i64 n2) := h0.at_ 3
  have y1 : w1.cell? ⟨w.heap.size + 1, 1, none⟩ = some (.int .i64 d0) := h1.at_ 1
  have y2 : w1.cell? ⟨w.heap.size + 1, 2, none⟩ = some (.int .i64 d1) := h1.at_ 2
  have y3 : w1.cell? ⟨w.heap.size + 1, 3, none⟩ = some (.int .i64 d2) := h1.at_ 3
  go_wp2_with (at_builtin; refine wpList_of_exec rfl (exec_max3 _ _ _ 2 rfl m0 m1 m2 rfl rfl rfl mx hmx) ?_)
  obtain rfl := Hm0.out
  obtain rfl := Hm1.out
  obtain rfl := Hm2.out
  refine (HE.out _).mono ?_
  rintro e w4 ⟨g, rfl, hg, hL, b4⟩
  rw [HNe.out, ← HZ.out] at hL
  have z0 : w.heap.size + 1 + 1 + 1 ≤ g := by omega
  have z2 : g < w4.heap.size := hL.lt
  replace hB := below_after hB b4
  replace h0 := h0.after b4
  replace h1 := h1.after b4
  replace h2 := h2.after b4
  clear b4 x0 x1 x2 x3 y1 y2 y3 hg z1
  have z1 := z0
  clear z0
  rw [HNe.out]
  go_wp2_with (first | (refine wpList_abs1 ?_; intro W2 hsz2 hB2 h3; have z3 : W2.heap.size = w4.heap.size + 1 := hsz2; replace h0 := h0.after hB2; replace h1 := h1.after hB2; replace h2 := h2.after hB2; replace hL := hL.after hB2; replace hB := below_after hB hB2; clear hsz2 hB2) | (refine wpList_store_all rfl 26 _ _ rfl rfl w4.heap.size rfl _ rfl _ _ h3 5 (by kernel_rfl) rfl rfl (by simp [Value.oneCell']) ?_; intro W3 p3; replace h0 := p3.other h0 (by omega); replace h1 := p3.other h1 (by omega); replace h2 := p3.other h2 (by omega); replace hL := p3.other hL (by omega); replace hB := p3.below hB (by omega); replace h3 := p3.at_; clear p3 z3))
  obtain ⟨b3, hb3⟩ : ∃ b3, b3 = w4.heap.size := ⟨_, rfl⟩
  rw [← hb3] at h3 z2 ⊢
  clear hb3 w0 w1' w2' hd hmx
  go_loopw [8] (fun i wr => ∃ a : Nat, a ≤ M0 ∧ i = .int .i64 a ∧ Below w.heap.size w wr ∧ At wr w.heap.size (.cells #[.int .i64 p, .int .i64 n0, .int .i64 n1, .int .i64 n2, .slice A xs.length cap] 26 (0, 0)) ∧ At wr (w.heap.size + 1) (.cells #[.int .i64 p, .int .i64 d0, .int .i64 d1, .int .i64 d2, .slice B ys.length cap2] 26 (0, 0)) ∧ At wr (w.heap.size + 1 + 1) (.cells #[.int .i64 0, .int .i64 0, .int .i64 0, .int .i64 0, .slice none 0 0] 26 (0, 0)) ∧ At wr b3 (.cells #[.int .i64 p, .int .i64 M0, .int .i64 M1, .int .i64 M2, .slice (some ⟨g, 0, none⟩) N N] 26 (0, 0)) ∧ At wr g (.cells (iar (seqP F N (a * M1 * M2))) 2 (0, 0))) (fun i _ => M0 - (intOf i).toNat)
  case atStart => exact ⟨0, by omega, rfl, hB, h0, h1, h2, h3, by rw [Nat.zero_mul, Nat.zero_mul]; exact hL⟩
  case round =>
    clear hB h0 h1 h2 h3 hL
    obtain ⟨a, ha, rfl, hB, h0, h1, h2, h3, hL⟩ := hrel
    obtain ⟨wa, rfl⟩ : ∃ x : World, x = wr := ⟨_, rfl⟩
    have k1 : wa.cell? ⟨b3, 1, none⟩ = some (.int .i64 M0) := h3.at_ 1
    by_cases hlt : a < M0
    · have hlt' : (a : Int) < (M0 : Int) := by omega
      have e0 : IntKind.i64.wrap ((a : Int) + 1) = (a : Int) + 1 := IntWalk.i64_in _ (by omega)
      go_wp2_with fail
      clear k1
      go_loopw [9] (fun i wr => ∃ b : Nat, b ≤ M1 ∧ i = .int .i64 b ∧ Below w.heap.size w wr ∧ At wr w.heap.size (.cells #[.int .i64 p, .int .i64 n0, .int .i64 n1, .int .i64 n2, .slice A xs.length cap] 26 (0, 0)) ∧ At wr (w.heap.size + 1) (.cells #[.int .i64 p, .int .i64 d0, .int .i64 d1, .int .i64 d2, .slice B ys.length cap2] 26 (0, 0)) ∧ At wr (w.heap.size + 1 + 1) (.cells #[.int .i64 0, .int .i64 0, .int .i64 0, .int .i64 0, .slice none 0 0] 26 (0, 0)) ∧ At wr b3 (.cells #[.int .i64 p, .int .i64 M0, .int .i64 M1, .int .i64 M2, .slice (some ⟨g, 0, none⟩) N N] 26 (0, 0)) ∧ At wr g (.cells (iar (seqP F N ((a * M1 + b) * M2))) 2 (0, 0))) (fun i _ => M1 - (intOf i).toNat)
      case atStart => exact ⟨0, by omega, rfl, hB, h0, h1, h2, h3, by rw [Nat.add_zero]; exact hL⟩
      case round =>
        clear hB h0 h1 h2 h3 hL
        obtain ⟨b, hb, rfl, hB, h0, h1, h2, h3, hL⟩ := hrel
        obtain ⟨wb, rfl⟩ : ∃ x : World, x = wr := ⟨_, rfl⟩
        have k2 : wb.cell? ⟨b3, 2, none⟩ = some (.int .i64 M1) := h3.at_ 2
        by_cases hlt2 : b < M1
        · have hlt2' : (b : Int) < (M1 : Int) := by omega
          have e1 : IntKind.i64.wrap ((b : Int) + 1) = (b : Int) + 1 := IntWalk.i64_in _ (by omega)
          go_wp2_with fail
          clear k2
          go_loopw [10] (fun i wr => ∃ c : Nat, c ≤ M2 ∧ i = .int .i64 c ∧ Below w.heap.size w wr ∧ At wr w.heap.size (.cells #[.int .i64 p, .int .i64 n0, .int .i64 n1, .int .i64 n2, .slice A xs.length cap] 26 (0, 0)) ∧ At wr (w.heap.size + 1) (.cells #[.int .i64 p, .int .i64 d0, .int .i64 d1, .int .i64 d2, .slice B ys.length cap2] 26 (0, 0)) ∧ At wr (w.heap.size + 1 + 1) (.cells #[.int .i64 0, .int .i64 0, .int .i64 0, .int .i64 0, .slice none 0 0] 26 (0, 0)) ∧ At wr b3 (.cells #[.int .i64 p, .int .i64 M0, .int .i64 M1, .int .i64 M2, .slice (some ⟨g, 0, none⟩) N N] 26 (0, 0)) ∧ At wr g (.cells (iar (seqP F N ((a * M1 + b) * M2 + c))) 2 (0, 0))) (fun i _ => M2 - (intOf i).toNat)
          case atStart => exact ⟨0, by omega, rfl, hB, h0, h1, h2, h3, by rw [Nat.add_zero]; exact hL⟩
          case round =>
            clear hB h0 h1 h2 h3 hL
            obtain ⟨c, hc, rfl, hB, h0, h1, h2, h3, hL⟩ := hrel
            obtain ⟨wc, rfl⟩ : ∃ x : World, x = wr := ⟨_, rfl⟩
            have k3 : wc.cell? ⟨b3, 3, none⟩ = some (.int .i64 M2) := h3.at_ 3
            by_cases hlt3 : c < M2
            · have hlt3' : (c : Int) < (M2 : Int) := by omega
              have e2 : IntKind.i64.wrap ((c : Int) + 1) = (c : Int) + 1 := IntWalk.i64_in _ (by omega)
              have hDN := HPl.out a b c hlt hlt2 hlt3
              have HFv := Lib.hid (HFat.out a b c hlt2 hlt3)
              have HStep := Lib.hid (seqP_step F N ((a * M1 + b) * M2 + c))
              have HLen := Lib.hid (seqP_len F N ((a * M1 + b) * M2 + c))
              obtain ⟨D, hD⟩ : ∃ D : Nat, D = (a * M1 + b) * M2 + c := ⟨_, rfl⟩
              obtain ⟨D3, hD3⟩ : ∃ D : Nat, D = (a * M1 + b) * M2 := ⟨_, rfl⟩
              obtain ⟨D2, hD2⟩ : ∃ D : Nat, D = a * M1 + b := ⟨_, rfl⟩
              obtain ⟨D1, hD1⟩ : ∃ D : Nat, D = a * M1 := ⟨_, rfl⟩
              have q1 : a * M1 ≤ 81 := Nat.mul_le_mul (show a ≤ 9 by omega) l1.2
              have HD1 : Hid (IntKind.i64.wrap ((a : Int) * (M1 : Int)) = (D1 : Int)) := Lib.hid (by rw [← Int.natCast_mul, ← hD1]; exact IntWalk.i64_in _ (by omega))
              have HD2 : Hid (IntKind.i64.wrap ((D1 : Int) + (b : Int)) = (D2 : Int)) := Lib.hid (by rw [hD1, ← Int.natCast_add, ← hD2]; exact IntWalk.i64_in _ (by omega))
              have HD3 : Hid (IntKind.i64.wrap ((D2 : Int) * (M2 : Int)) = (D3 : Int)) := Lib.hid (by rw [hD2, ← Int.natCast_mul, ← hD3]; exact IntWalk.i64_in _ (by omega))
              have HD : Hid (IntKind.i64.wrap ((D3 : Int) + (c : Int)) = (D : Int)) := Lib.hid (by rw [hD3, ← Int.natCast_add, ← hD]; exact IntWalk.i64_in _ (by omega))
              rw [← hD] at HStep hDN HFv
              have HDN := Lib.hid hDN
              obtain ⟨L2, hL2⟩ : ∃ L2, L2 = seqP F N ((a * M1 + b) * M2 + c + 1) := ⟨_, rfl⟩
              have HL2 := Lib.hid hL2
              rw [← hD, ← HStep.out] at hL2
              have s0 : M0 ≤ n0 + d0 ∧ n0 + d0 ≤ M0 := by rw [HS0.out]; exact ⟨Nat.le_refl _, Nat.le_refl _⟩
              have s1 : M1 ≤ n1 + d1 ∧ n1 + d1 ≤ M1 := by rw [HS1.out]; exact ⟨Nat.le_refl _, Nat.le_refl _⟩
              have s2 : M2 ≤ n2 + d2 ∧ n2 + d2 ≤ M2 := by rw [HS2.out]; exact ⟨Nat.le_refl _, Nat.le_refl _⟩
              have HDe := Lib.hid hD
              have k4 : wc.cell? ⟨b3, 2, none⟩ = some (.int .i64 M1) := h3.at_ 2
              have x1 : wc.cell? ⟨w.heap.size, 1, none⟩ = some (.int .i64 n0) := h0.at_ 1
              have x2 : wc.cell? ⟨w.heap.size, 2, none⟩ = some (.int .i64 n1) := h0.at_ 2
              have x3 : wc.cell? ⟨w.heap.size, 3, none⟩ = some (.int .i64 n2) := h0.at_ 3
              have u1 := HD1.out
              have u2 := HD2.out
              have u3 := HD3.out
              have u4 := HD.out
              have hVp := HDp.out a b c
              rw [Int.emod_eq_of_lt hVp.1 hVp.2] at HFv
              rw [← hD] at HLen
              clear hD hD1 hD2 hD3 q1 hVp
              by_cases ta : a < n0
              · by_cases tb : b < n1
                · by_cases tc : c < n2
                  · have dA1 : decide ((a : Int) < (n0 : Int)) = true := by simp only [decide_eq_true_eq]; omega
                    have dA2 : decide ((n0 : Int) ≤ (a : Int)) = false := by simp only [decide_eq_false_iff_not]; omega
                    have dB1 : decide ((b : Int) < (n1 : Int)) = true := by simp only [decide_eq_true_eq]; omega
                    have dB2 : decide ((n1 : Int) ≤ (b : Int)) = false := by simp only [decide_eq_false_iff_not]; omega
                    have dC1 : decide ((c : Int) < (n2 : Int)) = true := by simp only [decide_eq_true_eq]; omega
                    have dC2 : decide ((n2 : Int) ≤ (c : Int)) = false := by simp only [decide_eq_false_iff_not]; omega
                    have hv : dsF n0 n1 n2 d0 d1 d2 xs ys a b c = at3 n1 n2 xs a b c := by unfold dsF; rw [if_pos (hasB_mk (by omega))]
                    have HAt := Lib.hid (fun w' (hb : Below w.heap.size w w') => l05At_n p n0 n1 n2 A cap xs a b c w' (HRx.out.keep hb) HLx.out a0.2 a1.2 a2.2 (by omega) (by omega) (by omega))
                    rw [hv] at HFv
                    generalize at3 n1 n2 xs a b c = V at *
                    have HSet : Hid ((seqP F N D).set D V = L2) := Lib.hid (by rw [hL2, HFv.out])
                    rw [← HDe.out] at hL
                    generalize seqP F N D = L at *
                    clear hv hL2
                    go_wp2_with fail
                    go_upto_region 18 with (fail)
                    refine wp_region_y (zs := []) (S := fun w' => Below w.heap.size w w' ∧ At w' b3 (.cells #[.int .i64 p, .int .i64 M0, .int .i64 M1, .int .i64 M2, .slice (some ⟨g, 0, none⟩) N N] 26 (0, 0)) ∧ At w' w.heap.size (.cells #[.int .i64 p, .int .i64 n0, .int .i64 n1, .int .i64 n2, .slice A xs.length cap] 26 (0, 0))) (S2 := fun w' => True) (by kernel_rfl) ?_
                    change wpAnyY _ _ _ _ _ _ _ _ _ _ (World.drew _)
                    generalize hwdz1 : World.drew _ = wdz1
                    replace hB : Below w.heap.size w wdz1 := by rw [← hwdz1]; exact hB.drew
                    replace h0 : At wdz1 w.heap.size (.cells #[.int .i64 p, .int .i64 n0, .int .i64 n1, .int .i64 n2, .slice A xs.length cap] 26 (0, 0)) := by rw [← hwdz1]; exact h0
                    replace h1 : At wdz1 (w.heap.size + 1) (.cells #[.int .i64 p, .int .i64 d0, .int .i64 d1, .int .i64 d2, .slice B ys.length cap2] 26 (0, 0)) := by rw [← hwdz1]; exact h1
                    replace h2 : At wdz1 (w.heap.size + 1 + 1) (.cells #[.int .i64 0, .int .i64 0, .int .i64 0, .int .i64 0, .slice none 0 0] 26 (0, 0)) := by rw [← hwdz1]; exact h2
                    replace h3 : At wdz1 b3 (.cells #[.int .i64 p, .int .i64 M0, .int .i64 M1, .int .i64 M2, .slice (some ⟨g, 0, none⟩) N N] 26 (0, 0)) := by rw [← hwdz1]; exact h3
                    replace hL : At wdz1 g (.cells (iar L) 2 (0, 0)) := by rw [← hwdz1]; exact hL
                    clear hwdz1
                    refine y_yield 0 (some 101) (.pointer (some ⟨b3, 4, none⟩)) rfl (by kernel_rfl) (by kernel_rfl) (by kernel_rfl) (fun _ _ _ h => h) rfl rfl ⟨hB, h3, h0⟩ (fun w' h' => exec_fieldAddr 26 _ 4 rfl _ (by kernel_rfl)) ?_
                    go_frame
                    refine y_yield 1 (some 102) (.slice (some ⟨g, 0, none⟩) N N) rfl (by kernel_rfl) (by kernel_rfl) (by kernel_rfl) (fun _ _ _ h => h) rfl rfl ⟨hB, h3, h0⟩ (fun w' h' => exec_load_one 22 _ rfl b3 4 rfl (.slice (some ⟨g, 0, none⟩) N N) _ Try.underlying22 rfl (h'.2.1.at_ 4)) ?_
                    go_frame
                    refine y_yield 2 (some 103) (.int .i64 D) rfl (by kernel_rfl) (by kernel_rfl) (by kernel_rfl) (fun _ _ _ h => h) rfl rfl ⟨hB, h3, h0⟩ (fun w' h' => exec_move _ rfl (.int .i64 D) rfl) ?_
                    go_frame
                    refine y_yield 3 (some 104) (.agg #[.int .i64 p, .int .i64 n0, .int .i64 n1, .int .i64 n2, .slice A xs.length cap]) rfl (by kernel_rfl) (by kernel_rfl) (by kernel_rfl) (fun _ _ _ h => h) rfl rfl ⟨hB, h3, h0⟩ (fun w' h' => exec_load_all 26 _ rfl w.heap.size rfl _ _ _ h'.2.2 Try.underlying26 rfl 5 (by kernel_rfl) rfl) ?_
                    go_frame
                    refine y_yield 4 (some 105) (.int .i64 a) rfl (by kernel_rfl) (by kernel_rfl) (by kernel_rfl) (fun _ _ _ h => h) rfl rfl ⟨hB, h3, h0⟩ (fun w' h' => exec_move _ rfl (.int .i64 a) rfl) ?_
                    go_frame
                    refine y_yield 5 (some 106) (.int .i64 b) rfl (by kernel_rfl) (by kernel_rfl) (by kernel_rfl) (fun _ _ _ h => h) rfl rfl ⟨hB, h3, h0⟩ (fun w' h' => exec_move _ rfl (.int .i64 b) rfl) ?_
                    go_frame
                    refine y_yield 6 (some 107) (.int .i64 c) rfl (by kernel_rfl) (by kernel_rfl) (by kernel_rfl) (fun _ _ _ h => h) rfl rfl ⟨hB, h3, h0⟩ (fun w' h' => exec_move _ rfl (.int .i64 c) rfl) ?_
                    go_frame
                    refine y_oper 7 (by kernel_rfl) rfl rfl (fun K' hK' => ?_)
                    have lz4 := hB.size
                    have lz5 := h0.lt
                    have lz6 := h1.lt
                    have lz7 := h2.lt
                    have lz8 := h3.lt
                    have lz9 := hL.lt
                    refine wp_call4 (some 108) rfl 39 _ _ _ _ _ rfl (fun args w => by kernel_rfl) _ _ _ _ rfl rfl rfl rfl _ (HAt.out _ hB) (fun e Wz2 h => ?_)
                    obtain ⟨rfl, bz3⟩ := h
                    replace hB := below_after hB bz3
                    replace h0 := h0.after bz3
                    replace h1 := h1.after bz3
                    replace h2 := h2.after bz3
                    replace h3 := h3.after bz3
                    replace hL := hL.after bz3
                    clear bz3
                    refine ⟨_, rfl, ?_⟩
                    refine hK' _ _ ⟨hB, h3, h0⟩ (fun _ => trivial) ?_
                    clear hK' K'
                    go_frame
                    refine y_yield 8 (some 109) (.pointer (some ⟨g, D * 1, none⟩)) rfl (by kernel_rfl) (by kernel_rfl) (by kernel_rfl) (fun _ _ _ h => h) rfl rfl ⟨hB, h3, h0⟩ (fun w' h' => exec_ix0 _ 2 _ _ rfl g N N D 1 rfl rfl Try.underlying22 (by kernel_rfl) HDN.out) ?_
                    go_frame
                    refine y_oper 9 (by kernel_rfl) rfl rfl (fun K' hK' => ?_)
                    refine wp_store_one 2 _ _ rfl rfl g (D * 1) rfl (.int .i64 V) rfl rfl rfl _ _ hL (by kernel_rfl) (by rw [iar_size, HLen.out]; omega) (fun Wz10 pz11 => ?_)
                    replace hB := pz11.below hB (by omega)
                    replace h0 := pz11.other h0 (by omega)
                    replace h1 := pz11.other h1 (by omega)
                    replace h2 := pz11.other h2 (by omega)
                    replace h3 := pz11.other h3 (by omega)
                    replace hL : At Wz10 g (.cells (iar L2) 2 (0, 0)) := by have h9 := pz11.at_; rwa [Nat.mul_one, iar_set, HSet.out] at h9
                    refine hK' _ _ ⟨hB, h3, h0⟩ (fun _ => trivial) ?_
                    clear hK' K' pz11
                    refine y_done (by kernel_rfl) ?_ _
                    go_wp2_with fail
                    go_roundw
                    case rel => exact ⟨c + 1, by omega, by go_num, hB, h0, h1, h2, h3, by rw [← Nat.add_assoc, ← HL2.out]; exact hL⟩
                    case measure => simp [intOf]; omega
                  · have dA1 : decide ((a : Int) < (n0 : Int)) = true := by simp only [decide_eq_true_eq]; omega
                    have dA2 : decide ((n0 : Int) ≤ (a : Int)) = false := by simp only [decide_eq_false_iff_not]; omega
                    have dB1 : decide ((b : Int) < (n1 : Int)) = true := by simp only [decide_eq_true_eq]; omega
                    have dB2 : decide ((n1 : Int) ≤ (b : Int)) = false := by simp only [decide_eq_false_iff_not]; omega
                    have dC1 : decide ((c : Int) < (n2 : Int)) = false := by simp only [decide_eq_false_iff_not]; omega
                    have dC2 : decide ((n2 : Int) ≤ (c : Int)) = true := by simp only [decide_eq_true_eq]; omega
                    have hv : dsF n0 n1 n2 d0 d1 d2 xs ys a b c = 0 := by unfold dsF; rw [if_neg (fun h => by have := hasB_in h; omega), if_neg (fun h => by have := hasB_in h; omega)]
                    rw [hv] at HFv
                    have HSk := Lib.hid (seqP_skip F N D HFv.out)
                    clear hv hL2
                    go_wp2_with fail
                    go_roundw
                    case rel => exact ⟨c + 1, by omega, by go_num, hB, h0, h1, h2, h3, by rw [← Nat.add_assoc, ← HDe.out, HSk.out, HDe.out]; exact hL⟩
                    case measure => simp [intOf]; omega
                · by_cases tc : c < n2
                  · have dA1 : decide ((a : Int) < (n0 : Int)) = true := by simp only [decide_eq_true_eq]; omega
                    have dA2 : decide ((n0 : Int) ≤ (a : Int)) = false := by simp only [decide_eq_false_iff_not]; omega
                    have dB1 : decide ((b : Int) < (n1 : Int)) = false := by simp only [decide_eq_false_iff_not]; omega
                    have dB2 : decide ((n1 : Int) ≤ (b : Int)) = true := by simp only [decide_eq_true_eq]; omega
                    have dC1 : decide ((c : Int) < (n2 : Int)) = true := by simp only [decide_eq_true_eq]; omega
                    have dC2 : decide ((n2 : Int) ≤ (c : Int)) = false := by simp only [decide_eq_false_iff_not]; omega
                    have hv : dsF n0 n1 n2 d0 d1 d2 xs ys a b c = 0 := by unfold dsF; rw [if_neg (fun h => by have := hasB_in h; omega), if_neg (fun h => by have := hasB_in h; omega)]
                    rw [hv] at HFv
                    have HSk := Lib.hid (seqP_skip F N D HFv.out)
                    clear hv hL2
                    go_wp2_with fail
                    go_roundw
                    case rel => exact ⟨c + 1, by omega, by go_num, hB, h0, h1, h2, h3, by rw [← Nat.add_assoc, ← HDe.out, HSk.out, HDe.out]; exact hL⟩
                    case measure => simp [intOf]; omega
                  · have dA1 : decide ((a : Int) < (n0 : Int)) = true := by simp only [decide_eq_true_eq]; omega
                    have dA2 : decide ((n0 : Int) ≤ (a : Int)) = false := by simp only [decide_eq_false_iff_not]; omega
                    have dB1 : decide ((b : Int) < (n1 : Int)) = false := by simp only [decide_eq_false_iff_not]; omega
                    have dB2 : decide ((n1 : Int) ≤ (b : Int)) = true := by simp only [decide_eq_true_eq]; omega
                    have dC1 : decide ((c : Int) < (n2 : Int)) = false := by simp only [decide_eq_false_iff_not]; omega
                    have dC2 : decide ((n2 : Int) ≤ (c : Int)) = true := by simp only [decide_eq_true_eq]; omega
                    have hv : dsF n0 n1 n2 d0 d1 d2 xs ys a b c = 0 := by unfold dsF; rw [if_neg (fun h => by have := hasB_in h; omega), if_neg (fun h => by have := hasB_in h; omega)]
                    rw [hv] at HFv
                    have HSk := Lib.hid (seqP_skip F N D HFv.out)
                    clear hv hL2
                    go_wp2_with fail
                    go_roundw
                    case rel => exact ⟨c + 1, by omega, by go_num, hB, h0, h1, h2, h3, by rw [← Nat.add_assoc, ← HDe.out, HSk.out, HDe.out]; exact hL⟩
                    case measure => simp [intOf]; omega
              · by_cases tb : b < n1
                · by_cases tc : c < n2
                  · have dA1 : decide ((a : Int) < (n0 : Int)) = false := by simp only [decide_eq_false_iff_not]; omega
                    have dA2 : decide ((n0 : Int) ≤ (a : Int)) = true := by simp only [decide_eq_true_eq]; omega
                    have dB1 : decide ((b : Int) < (n1 : Int)) = true := by simp only [decide_eq_true_eq]; omega
                    have dB2 : decide ((n1 : Int) ≤ (b : Int)) = false := by simp only [decide_eq_false_iff_not]; omega
                    have dC1 : decide ((c : Int) < (n2 : Int)) = true := by simp only [decide_eq_true_eq]; omega
                    have dC2 : decide ((n2 : Int) ≤ (c : Int)) = false := by simp only [decide_eq_false_iff_not]; omega
                    have hv : dsF n0 n1 n2 d0 d1 d2 xs ys a b c = 0 := by unfold dsF; rw [if_neg (fun h => by have := hasB_in h; omega), if_neg (fun h => by have := hasB_in h; omega)]
                    rw [hv] at HFv
                    have HSk := Lib.hid (seqP_skip F N D HFv.out)
                    clear hv hL2
                    go_wp2_with fail
                    go_roundw
                    case rel => exact ⟨c + 1, by omega, by go_num, hB, h0, h1, h2, h3, by rw [← Nat.add_assoc, ← HDe.out, HSk.out, HDe.out]; exact hL⟩
                    case measure => simp [intOf]; omega
                  · have dA1 : decide ((a : Int) < (n0 : Int)) = false := by simp only [decide_eq_false_iff_not]; omega
                    have dA2 : decide ((n0 : Int) ≤ (a : Int)) = true := by simp only [decide_eq_true_eq]; omega
                    have dB1 : decide ((b : Int) < (n1 : Int)) = true := by simp only [decide_eq_true_eq]; omega
                    have dB2 : decide ((n1 : Int) ≤ (b : Int)) = false := by simp only [decide_eq_false_iff_not]; omega
                    have dC1 : decide ((c : Int) < (n2 : Int)) = false := by simp only [decide_eq_false_iff_not]; omega
                    have dC2 : decide ((n2 : Int) ≤ (c : Int)) = true := by simp only [decide_eq_true_eq]; omega
                    have hv : dsF n0 n1 n2 d0 d1 d2 xs ys a b c = 0 := by unfold dsF; rw [if_neg (fun h => by have := hasB_in h; omega), if_neg (fun h => by have := hasB_in h; omega)]
                    rw [hv] at HFv
                    have HSk := Lib.hid (seqP_skip F N D HFv.out)
                    clear hv hL2
                    go_wp2_with fail
                    go_roundw
                    case rel => exact ⟨c + 1, by omega, by go_num, hB, h0, h1, h2, h3, by rw [← Nat.add_assoc, ← HDe.out, HSk.out, HDe.out]; exact hL⟩
                    case measure => simp [intOf]; omega
                · by_cases tc : c < n2
                  · have dA1 : decide ((a : Int) < (n0 : Int)) = false := by simp only [decide_eq_false_iff_not]; omega
                    have dA2 : decide ((n0 : Int) ≤ (a : Int)) = true := by simp only [decide_eq_true_eq]; omega
                    have dB1 : decide ((b : Int) < (n1 : Int)) = false := by simp only [decide_eq_false_iff_not]; omega
                    have dB2 : decide ((n1 : Int) ≤ (b : Int)) = true := by simp only [decide_eq_true_eq]; omega
                    have dC1 : decide ((c : Int) < (n2 : Int)) = true := by simp only [decide_eq_true_eq]; omega
                    have dC2 : decide ((n2 : Int) ≤ (c : Int)) = false := by simp only [decide_eq_false_iff_not]; omega
                    have hv : dsF n0 n1 n2 d0 d1 d2 xs ys a b c = 0 := by unfold dsF; rw [if_neg (fun h => by have := hasB_in h; omega), if_neg (fun h => by have := hasB_in h; omega)]
                    rw [hv] at HFv
                    have HSk := Lib.hid (seqP_skip F N D HFv.out)
                    clear hv hL2
                    go_wp2_with fail
                    go_roundw
                    case rel => exact ⟨c + 1, by omega, by go_num, hB, h0, h1, h2, h3, by rw [← Nat.add_assoc, ← HDe.out, HSk.out, HDe.out]; exact hL⟩
                    case measure => simp [intOf]; omega
                  · have dA1 : decide ((a : Int) < (n0 : Int)) = false := by simp only [decide_eq_false_iff_not]; omega
                    have dA2 : decide ((n0 : Int) ≤ (a : Int)) = true := by simp only [decide_eq_true_eq]; omega
                    have dB1 : decide ((b : Int) < (n1 : Int)) = false := by simp only [decide_eq_false_iff_not]; omega
                    have dB2 : decide ((n1 : Int) ≤ (b : Int)) = true := by simp only [decide_eq_true_eq]; omega
                    have dC1 : decide ((c : Int) < (n2 : Int)) = false := by simp only [decide_eq_false_iff_not]; omega
                    have dC2 : decide ((n2 : Int) ≤ (c : Int)) = true := by simp only [decide_eq_true_eq]; omega
                    have hv : dsF n0 n1 n2 d0 d1 d2 xs ys a b c = nthI ys ((((a : Int) - n0) * d1 + ((b : Int) - n1)) * d2 + ((c : Int) - n2)) := by unfold dsF; rw [if_neg (fun h => by have := hasB_in h; omega), if_pos (hasB_mk (by omega))]
                    have HAt := Lib.hid (fun w' (hb : Below w.heap.size w w') => l05At_c p d0 d1 d2 B cap2 ys ((a : Int) - n0) ((b : Int) - n1) ((c : Int) - n2) w' (HRy.out.keep hb) (by rw [HLy.out]; simp) (by omega) (by omega) (by omega) (by omega) (by omega) (by omega) (by omega) (by omega) (by omega))
                    rw [hv] at HFv
                    generalize nthI ys ((((a : Int) - n0) * d1 + ((b : Int) - n1)) * d2 + ((c : Int) - n2)) = V at *
                    have HSet : Hid ((seqP F N D).set D V = L2) := Lib.hid (by rw [hL2, HFv.out])
                    rw [← HDe.out] at hL
                    generalize seqP F N D = L at *
                    clear hv hL2
                    go_wp2_with fail
                    go_upto_region 20 with (fail)
                    refine wp_region_y (zs := []) (S := fun w' => Below w.heap.size w w' ∧ At w' b3 (.cells #[.int .i64 p, .int .i64 M0, .int .i64 M1, .int .i64 M2, .slice (some ⟨g, 0, none⟩) N N] 26 (0, 0)) ∧ At w' (w.heap.size + 1) (.cells #[.int .i64 p, .int .i64 d0, .int .i64 d1, .int .i64 d2, .slice B ys.length cap2] 26 (0, 0)) ∧ At w' w.heap.size (.cells #[.int .i64 p, .int .i64 n0, .int .i64 n1, .int .i64 n2, .slice A xs.length cap] 26 (0, 0))) (S2 := fun w' => True) (by kernel_rfl) ?_
                    change wpAnyY _ _ _ _ _ _ _ _ _ _ (World.drew _)
                    generalize hwdz1 : World.drew _ = wdz1
                    replace hB : Below w.heap.size w wdz1 := by rw [← hwdz1]; exact hB.drew
                    replace h0 : At wdz1 w.heap.size (.cells #[.int .i64 p, .int .i64 n0, .int .i64 n1, .int .i64 n2, .slice A xs.length cap] 26 (0, 0)) := by rw [← hwdz1]; exact h0
                    replace h1 : At wdz1 (w.heap.size + 1) (.cells #[.int .i64 p, .int .i64 d0, .int .i64 d1, .int .i64 d2, .slice B ys.length cap2] 26 (0, 0)) := by rw [← hwdz1]; exact h1
                    replace h2 : At wdz1 (w.heap.size + 1 + 1) (.cells #[.int .i64 0, .int .i64 0, .int .i64 0, .int .i64 0, .slice none 0 0] 26 (0, 0)) := by rw [← hwdz1]; exact h2
                    replace h3 : At wdz1 b3 (.cells #[.int .i64 p, .int .i64 M0, .int .i64 M1, .int .i64 M2, .slice (some ⟨g, 0, none⟩) N N] 26 (0, 0)) := by rw [← hwdz1]; exact h3
                    replace hL : At wdz1 g (.cells (iar L) 2 (0, 0)) := by rw [← hwdz1]; exact hL
                    clear hwdz1
                    refine y_yield 0 (some 127) (.pointer (some ⟨b3, 4, none⟩)) rfl (by kernel_rfl) (by kernel_rfl) (by kernel_rfl) (fun _ _ _ h => h) rfl rfl ⟨hB, h3, h1, h0⟩ (fun w' h' => exec_fieldAddr 26 _ 4 rfl _ (by kernel_rfl)) ?_
                    go_frame
                    refine y_yield 1 (some 128) (.slice (some ⟨g, 0, none⟩) N N) rfl (by kernel_rfl) (by kernel_rfl) (by kernel_rfl) (fun _ _ _ h => h) rfl rfl ⟨hB, h3, h1, h0⟩ (fun w' h' => exec_load_one 22 _ rfl b3 4 rfl (.slice (some ⟨g, 0, none⟩) N N) _ Try.underlying22 rfl (h'.2.1.at_ 4)) ?_
                    go_frame
                    refine y_yield 2 (some 129) (.int .i64 D) rfl (by kernel_rfl) (by kernel_rfl) (by kernel_rfl) (fun _ _ _ h => h) rfl rfl ⟨hB, h3, h1, h0⟩ (fun w' h' => exec_move _ rfl (.int .i64 D) rfl) ?_
                    go_frame
                    refine y_yield 3 (some 130) (.agg #[.int .i64 p, .int .i64 d0, .int .i64 d1, .int .i64 d2, .slice B ys.length cap2]) rfl (by kernel_rfl) (by kernel_rfl) (by kernel_rfl) (fun _ _ _ h => h) rfl rfl ⟨hB, h3, h1, h0⟩ (fun w' h' => exec_load_all 26 _ rfl (w.heap.size + 1) rfl _ _ _ h'.2.2.1 Try.underlying26 rfl 5 (by kernel_rfl) rfl) ?_
                    go_frame
                    refine y_yield 4 (some 131) (.int .i64 a) rfl (by kernel_rfl) (by kernel_rfl) (by kernel_rfl) (fun _ _ _ h => h) rfl rfl ⟨hB, h3, h1, h0⟩ (fun w' h' => exec_move _ rfl (.int .i64 a) rfl) ?_
                    go_frame
                    refine y_yield 5 (some 132) (.pointer (some ⟨w.heap.size, 1, none⟩)) rfl (by kernel_rfl) (by kernel_rfl) (by kernel_rfl) (fun _ _ _ h => h) rfl rfl ⟨hB, h3, h1, h0⟩ (fun w' h' => exec_fieldAddr 26 _ 1 rfl _ (by kernel_rfl)) ?_
                    go_frame
                    refine y_yield 6 (some 133) (.int .i64 n0) rfl (by kernel_rfl) (by kernel_rfl) (by kernel_rfl) (fun _ _ _ h => h) rfl rfl ⟨hB, h3, h1, h0⟩ (fun w' h' => exec_load_one 2 _ rfl w.heap.size 1 rfl (.int .i64 n0) _ Try.underlying2 rfl (h'.2.2.2.at_ 1)) ?_
                    go_frame
                    refine y_yield 7 (some 134) (.int .i64 (a - n0)) rfl (by kernel_rfl) (by kernel_rfl) (by kernel_rfl) (fun _ _ _ h => h) rfl rfl ⟨hB, h3, h1, h0⟩ (fun w' h' => exec_sub _ _ _ _ rfl a n0 (a - n0) rfl rfl (IntWalk.i64_in _ (by omega))) ?_
                    go_frame
                    refine y_yield 8 (some 135) (.int .i64 b) rfl (by kernel_rfl) (by kernel_rfl) (by kernel_rfl) (fun _ _ _ h => h) rfl rfl ⟨hB, h3, h1, h0⟩ (fun w' h' => exec_move _ rfl (.int .i64 b) rfl) ?_
                    go_frame
                    refine y_yield 9 (some 136) (.pointer (some ⟨w.heap.size, 2, none⟩)) rfl (by kernel_rfl) (by kernel_rfl) (by kernel_rfl) (fun _ _ _ h => h) rfl rfl ⟨hB, h3, h1, h0⟩ (fun w' h' => exec_fieldAddr 26 _ 2 rfl _ (by kernel_rfl)) ?_
                    go_frame
                    refine y_yield 10 (some 137) (.int .i64 n1) rfl (by kernel_rfl) (by kernel_rfl) (by kernel_rfl) (fun _ _ _ h => h) rfl rfl ⟨hB, h3, h1, h0⟩ (fun w' h' => exec_load_one 2 _ rfl w.heap.size 2 rfl (.int .i64 n1) _ Try.underlying2 rfl (h'.2.2.2.at_ 2)) ?_
                    go_frame
                    refine y_yield 11 (some 138) (.int .i64 (b - n1)) rfl (by kernel_rfl) (by kernel_rfl) (by kernel_rfl) (fun _ _ _ h => h) rfl rfl ⟨hB, h3, h1, h0⟩ (fun w' h' => exec_sub _ _ _ _ rfl b n1 (b - n1) rfl rfl (IntWalk.i64_in _ (by omega))) ?_
                    go_frame
                    refine y_yield 12 (some 139) (.int .i64 c) rfl (by kernel_rfl) (by kernel_rfl) (by kernel_rfl) (fun _ _ _ h => h) rfl rfl ⟨hB, h3, h1, h0⟩ (fun w' h' => exec_move _ rfl (.int .i64 c) rfl) ?_
                    go_frame
                    refine y_yield 13 (some 140) (.pointer (some ⟨w.heap.size, 3, none⟩)) rfl (by kernel_rfl) (by kernel_rfl) (by kernel_rfl) (fun _ _ _ h => h) rfl rfl ⟨hB, h3, h1, h0⟩ (fun w' h' => exec_fieldAddr 26 _ 3 rfl _ (by kernel_rfl)) ?_
                    go_frame
                    refine y_yield 14 (some 141) (.int .i64 n2) rfl (by kernel_rfl) (by kernel_rfl) (by kernel_rfl) (fun _ _ _ h => h) rfl rfl ⟨hB, h3, h1, h0⟩ (fun w' h' => exec_load_one 2 _ rfl w.heap.size 3 rfl (.int .i64 n2) _ Try.underlying2 rfl (h'.2.2.2.at_ 3)) ?_
                    go_frame
                    refine y_yield 15 (some 142) (.int .i64 (c - n2)) rfl (by kernel_rfl) (by kernel_rfl) (by kernel_rfl) (fun _ _ _ h => h) rfl rfl ⟨hB, h3, h1, h0⟩ (fun w' h' => exec_sub _ _ _ _ rfl c n2 (c - n2) rfl rfl (IntWalk.i64_in _ (by omega))) ?_
                    go_frame
                    refine y_oper 16 (by kernel_rfl) rfl rfl (fun K' hK' => ?_)
                    have lz4 := hB.size
                    have lz5 := h0.lt
                    have lz6 := h1.lt
                    have lz7 := h2.lt
                    have lz8 := h3.lt
                    have lz9 := hL.lt
                    refine wp_call4 (some 143) rfl 39 _ _ _ _ _ rfl (fun args w => by kernel_rfl) _ _ _ _ rfl rfl rfl rfl _ (HAt.out _ hB) (fun e Wz2 h => ?_)
                    obtain ⟨rfl, bz3⟩ := h
                    replace hB := below_after hB bz3
                    replace h0 := h0.after bz3
                    replace h1 := h1.after bz3
                    replace h2 := h2.after bz3
                    replace h3 := h3.after bz3
                    replace hL := hL.after bz3
                    clear bz3
                    refine ⟨_, rfl, ?_⟩
                    refine hK' _ _ ⟨hB, h3, h1, h0⟩ (fun _ => trivial) ?_
                    clear hK' K'
                    go_frame
                    refine y_yield 17 (some 144) (.pointer (some ⟨g, D * 1, none⟩)) rfl (by kernel_rfl) (by kernel_rfl) (by kernel_rfl) (fun _ _ _ h => h) rfl rfl ⟨hB, h3, h1, h0⟩ (fun w' h' => exec_ix0 _ 2 _ _ rfl g N N D 1 rfl rfl Try.underlying22 (by kernel_rfl) HDN.out) ?_
                    go_frame
                    refine y_oper 18 (by kernel_rfl) rfl rfl (fun K' hK' => ?_)
                    refine wp_store_one 2 _ _ rfl rfl g (D * 1) rfl (.int .i64 V) rfl rfl rfl _ _ hL (by kernel_rfl) (by rw [iar_size, HLen.out]; omega) (fun Wz10 pz11 => ?_)
                    replace hB := pz11.below hB (by omega)
                    replace h0 := pz11.other h0 (by omega)
                    replace h1 := pz11.other h1 (by omega)
                    replace h2 := pz11.other h2 (by omega)
                    replace h3 := pz11.other h3 (by omega)
                    replace hL : At Wz10 g (.cells (iar L2) 2 (0, 0)) := by have h9 := pz11.at_; rwa [Nat.mul_one, iar_set, HSet.out] at h9
                    refine hK' _ _ ⟨hB, h3, h1, h0⟩ (fun _ => trivial) ?_
                    clear hK' K' pz11
                    refine y_done (by kernel_rfl) ?_ _
                    go_wp2_with fail
                    go_roundw
                    case rel => exact ⟨c + 1, by omega, by go_num, hB, h0, h1, h2, h3, by rw [← Nat.add_assoc, ← HL2.out]; exact hL⟩
                    case measure => simp [intOf]; omega
            · obtain rfl : c = M2 := by omega
              go_wp2_with fail
              go_roundw
              case rel => exact ⟨b + 1, by omega, by go_num, hB, h0, h1, h2, h3, by rw [← Nat.add_assoc, Nat.add_mul (a * M1 + b), Nat.one_mul]; exact hL⟩
              case measure => simp [intOf]; omega
        · obtain rfl : b = M1 := by omega
          go_wp2_with fail
          go_roundw
          case rel => exact ⟨a + 1, by omega, by go_num, hB, h0, h1, h2, h3, by rw [Nat.add_mul a 1, Nat.one_mul]; exact hL⟩
          case measure => simp [intOf]; omega
    · obtain rfl : a = M0 := by omega
      rw [HNe.out] at hL
      go_wp2_with (first | (refine wpList_load_all rfl 26 _ rfl b3 rfl _ _ _ h3 Try.underlying26 rfl 5 (by kernel_rfl) rfl ?_) | (refine wpList_store_all rfl 26 _ _ rfl rfl (w.heap.size + 1 + 1) rfl _ rfl _ _ h2 5 (by kernel_rfl) rfl rfl (by simp [Value.oneCell']) ?_; intro w7 p7))
      refine bodyPost_ret (results_at2 rfl _ _ (w.heap.size + 1 + 1) _ _ _ rfl _ rfl p7.at_ Try.underlying26 rfl 5 (by kernel_rfl) rfl) rfl ?_
      rw [HEnd.out] at hL
      have ho := OwnI.of_at (p7.other hL (by omega)) (show w.heap.size ≤ g by omega) (by rw [genL_len]; omega)
      rw [genL_len] at ho
      exact ⟨_, by rw [Hz.out, Hz.out, Hz.out, Hz.out, HI0.out, HI1.out, HI2.out, Hcode.out]; rfl, by rw [Hr.out, HNe.out]; exact ho, p7.below hB (by omega)⟩
theorem specDirectSum_c (p a b c : Int) (A : Option Addr) (cap : Nat) (xs : List Int) (q d e f : Int) (B : Option Addr) (cap2 : Nat) (ys : List Int) (w : World) (hr : RdI w A xs) (hn : xs.length ≤ 1048576) (hs : RdI w B ys) (hm : ys.length ≤ 1048576) :
    Calls Try.prog 14 #[.agg #[.int .i64 p, .int .i64 a, .int .i64 b, .int .i64 c, .slice A xs.length cap], .agg #[.int .i64 q, .int .i64 d, .int .i64 e, .int .i64 f, .slice B ys.length cap2]] w (ResT w (dsZ p a b c xs q d e f ys p) (dsZ p a b c xs q d e f ys (a + d)) (dsZ p a b c xs q d e f ys (b + e)) (dsZ p a b c xs q d e f ys (c + f)) (dsR p a b c xs q d e f ys) (dsCode p a b c xs q d e f ys)) := by
  rcases ckCode_cases p a b c xs q d e f ys with h | h | ⟨h, hx, hy, rfl⟩
  · exact specDs_a p a b c A cap xs q d e f B cap2 ys w hr hn hs hm h
  · exact specDs_b p a b c A cap xs q d e f B cap2 ys w hr hn hs hm h
  · obtain ⟨_, s0, s1, s2, _, _⟩ := tenB_parts hx
    obtain ⟨_, t0, t1, t2, _, _⟩ := tenB_parts hy
    obtain ⟨n0, rfl⟩ := Int.eq_ofNat_of_zero_le (show 0 ≤ a by have := sideB_in s0; omega)
    obtain ⟨n1, rfl⟩ := Int.eq_ofNat_of_zero_le (show 0 ≤ b by have := sideB_in s1; omega)
    obtain ⟨n2, rfl⟩ := Int.eq_ofNat_of_zero_le (show 0 ≤ c by have := sideB_in s2; omega)
    obtain ⟨d0, rfl⟩ := Int.eq_ofNat_of_zero_le (show 0 ≤ d by have := sideB_in t0; omega)
    obtain ⟨d1, rfl⟩ := Int.eq_ofNat_of_zero_le (show 0 ≤ e by have := sideB_in t1; omega)
    obtain ⟨d2, rfl⟩ := Int.eq_ofNat_of_zero_le (show 0 ≤ f by have := sideB_in t2; omega)
    cases hok : (sideB ((n0 : Int) + d0) && sideB ((n1 : Int) + d1) && sideB ((n2 : Int) + d2)) with
    | false => exact specDs_c p n0 n1 n2 d0 d1 d2 A cap xs B cap2 ys w hr hn hs hm hx hy hok
    | true => exact specDs_y p n0 n1 n2 d0 d1 d2 A cap xs B cap2 ys w hr hn hs hm hx hy hok
theorem dsR_len (p a b c : Int) (xs : List Int) (q d e f : Int) (ys : List Int) : (dsR p a b c xs q d e f ys).length ≤ 1048576 := by
  unfold dsR
  split
  · rename_i h
    unfold dsCode at h
    rcases ckCode_cases p a b c xs q d e f ys with h1 | h1 | ⟨h1, _, _, _⟩
    · rw [h1] at h; simp at h
    · rw [h1] at h; simp at h
    · rw [if_pos h1] at h
      have hok : (sideB (a + d) && sideB (b + e) && sideB (c + f)) = true := by
        cases hc : (sideB (a + d) && sideB (b + e) && sideB (c + f)) with
        | true => rfl
        | false => rw [hc] at h; simp at h
      simp only [Bool.and_eq_true] at hok
      have l0 := sideB_in hok.1.1
      have l1 := sideB_in hok.1.2
      have l2 := sideB_in hok.2
      rw [genL_len]
      have := places_729 (n0 := (a + d).toNat) (n1 := (b + e).toNat) (n2 := (c + f).toNat) (by omega) (by omega) (by omega)
      omega
  · simp
end Go.Proofs.Ytcmpeoijedddjaa
