/-
  spec.KroneckerTensors. (Made by mktenh.py.)
-/
import Derived.Test.YtcmpeoijedddjaaTenM
import Derived.Test.YtcmpeoijedddjaaTenG
namespace Go.Proofs.Ytcmpeoijedddjaa
open Go.RowKit
set_option maxRecDepth 100000
set_option maxHeartbeats 1600000 in
theorem specKro_a (p a b c : Int) (A : Option Addr) (cap : Nat) (xs : List Int) (q d e f : Int) (B : Option Addr) (cap2 : Nat) (ys : List Int) (w : World) (hr : RdI w A xs) (hn : xs.length ≤ 1048576) (hs : RdI w B ys) (hm : ys.length ≤ 1048576) (hck : ckCode p a b c xs q d e f ys = 1) :
    Calls Try.prog 8 #[.agg #[.int .i64 p, .int .i64 a, .int .i64 b, .int .i64 c, .slice A xs.length cap], .agg #[.int .i64 q, .int .i64 d, .int .i64 e, .int .i64 f, .slice B ys.length cap2]] w (ResT w (krZ p a b c xs q d e f ys p) (krZ p a b c xs q d e f ys (a * d)) (krZ p a b c xs q d e f ys (b * e)) (krZ p a b c xs q d e f ys (c * f)) (krR p a b c xs q d e f ys) (krCode p a b c xs q d e f ys)) := by
  have HCk := Lib.hid (fun w' (hb : Below w.heap.size w w') => l05Two_c p a b c A cap xs q d e f B cap2 ys w' (hr.keep hb) hn (hs.keep hb) hm)
  have Hcode : Hid (krCode p a b c xs q d e f ys = 1) := Lib.hid (by simp [krCode, hck])
  have Hz : Hid (∀ x, krZ p a b c xs q d e f ys x = 0) := Lib.hid (fun x => by simp [krZ, Hcode.out])
  have Hr : Hid (krR p a b c xs q d e f ys = []) := Lib.hid (by simp [krR, Hcode.out])
  have Hck := Lib.hid hck
  clear hck
  go_enter Try.func8, Try.ntmps8
  go_wp2_with (first | (refine wpList_abs3 ?_; intro W hsz hB h0 h1 h2; have z0 : W.heap.size = w.heap.size + 1 + 1 + 1 := hsz; clear hsz) | (refine wpList_load_all rfl 26 _ rfl w.heap.size rfl _ _ _ h0 Try.underlying26 rfl 5 (by kernel_rfl) rfl ?_) | (refine wpList_load_all rfl 26 _ rfl (w.heap.size + 1) rfl _ _ _ h1 Try.underlying26 rfl 5 (by kernel_rfl) rfl ?_))
  refine (HCk.out _ hB).mono ?_
  rintro e0 w1 ⟨rfl, b1⟩
  replace hB := below_after hB b1
  replace h0 := h0.after b1
  replace h1 := h1.after b1
  replace h2 := h2.after b1
  have z1 : w.heap.size + 1 + 1 + 1 ≤ w1.heap.size := by have := b1.size; omega
  clear b1 z0
  rw [Hck.out]
  go_wp2_with (refine wpList_store_all rfl 26 _ _ rfl rfl (w.heap.size + 1 + 1) rfl #[.int .i64 0, .int .i64 0, .int .i64 0, .int .i64 0, .slice none 0 0] rfl _ _ h2 5 (by kernel_rfl) rfl rfl (by simp [Value.oneCell']) ?_; intro w7 p7)
  refine bodyPost_ret (results_at2 rfl _ _ (w.heap.size + 1 + 1) _ _ _ rfl _ rfl p7.at_ Try.underlying26 rfl 5 (by kernel_rfl) rfl) rfl ?_
  exact ⟨.slice none 0 0, by rw [Hz.out, Hz.out, Hz.out, Hz.out, Hcode.out]; rfl, by rw [Hr.out]; exact OwnI.nil _ _, p7.below hB (by omega)⟩
set_option maxHeartbeats 1600000 in
theorem specKro_b (p a b c : Int) (A : Option Addr) (cap : Nat) (xs : List Int) (q d e f : Int) (B : Option Addr) (cap2 : Nat) (ys : List Int) (w : World) (hr : RdI w A xs) (hn : xs.length ≤ 1048576) (hs : RdI w B ys) (hm : ys.length ≤ 1048576) (hck : ckCode p a b c xs q d e f ys = 2) :
    Calls Try.prog 8 #[.agg #[.int .i64 p, .int .i64 a, .int .i64 b, .int .i64 c, .slice A xs.length cap], .agg #[.int .i64 q, .int .i64 d, .int .i64 e, .int .i64 f, .slice B ys.length cap2]] w (ResT w (krZ p a b c xs q d e f ys p) (krZ p a b c xs q d e f ys (a * d)) (krZ p a b c xs q d e f ys (b * e)) (krZ p a b c xs q d e f ys (c * f)) (krR p a b c xs q d e f ys) (krCode p a b c xs q d e f ys)) := by
  have HCk := Lib.hid (fun w' (hb : Below w.heap.size w w') => l05Two_c p a b c A cap xs q d e f B cap2 ys w' (hr.keep hb) hn (hs.keep hb) hm)
  have Hcode : Hid (krCode p a b c xs q d e f ys = 2) := Lib.hid (by simp [krCode, hck])
  have Hz : Hid (∀ x, krZ p a b c xs q d e f ys x = 0) := Lib.hid (fun x => by simp [krZ, Hcode.out])
  have Hr : Hid (krR p a b c xs q d e f ys = []) := Lib.hid (by simp [krR, Hcode.out])
  have Hck := Lib.hid hck
  clear hck
  go_enter Try.func8, Try.ntmps8
  go_wp2_with (first | (refine wpList_abs3 ?_; intro W hsz hB h0 h1 h2; have z0 : W.heap.size = w.heap.size + 1 + 1 + 1 := hsz; clear hsz) | (refine wpList_load_all rfl 26 _ rfl w.heap.size rfl _ _ _ h0 Try.underlying26 rfl 5 (by kernel_rfl) rfl ?_) | (refine wpList_load_all rfl 26 _ rfl (w.heap.size + 1) rfl _ _ _ h1 Try.underlying26 rfl 5 (by kernel_rfl) rfl ?_))
  refine (HCk.out _ hB).mono ?_
  rintro e0 w1 ⟨rfl, b1⟩
  replace hB := below_after hB b1
  replace h0 := h0.after b1
  replace h1 := h1.after b1
  replace h2 := h2.after b1
  have z1 : w.heap.size + 1 + 1 + 1 ≤ w1.heap.size := by have := b1.size; omega
  clear b1 z0
  rw [Hck.out]
  go_wp2_with (refine wpList_store_all rfl 26 _ _ rfl rfl (w.heap.size + 1 + 1) rfl #[.int .i64 0, .int .i64 0, .int .i64 0, .int .i64 0, .slice none 0 0] rfl _ _ h2 5 (by kernel_rfl) rfl rfl (by simp [Value.oneCell']) ?_; intro w7 p7)
  refine bodyPost_ret (results_at2 rfl _ _ (w.heap.size + 1 + 1) _ _ _ rfl _ rfl p7.at_ Try.underlying26 rfl 5 (by kernel_rfl) rfl) rfl ?_
  exact ⟨.slice none 0 0, by rw [Hz.out, Hz.out, Hz.out, Hz.out, Hcode.out]; rfl, by rw [Hr.out]; exact OwnI.nil _ _, p7.below hB (by omega)⟩
set_option maxHeartbeats 1600000 in
theorem specKro_c (p : Int) (n0 n1 n2 d0 d1 d2 : Nat) (A : Option Addr) (cap : Nat) (xs : List Int) (B : Option Addr) (cap2 : Nat) (ys : List Int) (w : World) (hr : RdI w A xs) (hn : xs.length ≤ 1048576) (hs : RdI w B ys) (hm : ys.length ≤ 1048576)
    (htx : tenB p n0 n1 n2 xs = true) (hty : tenB p d0 d1 d2 ys = true) (hok : (sideB ((n0 : Int) * d0) && sideB ((n1 : Int) * d1) && sideB ((n2 : Int) * d2)) = false) :
    Calls Try.prog 8 #[.agg #[.int .i64 p, .int .i64 n0, .int .i64 n1, .int .i64 n2, .slice A xs.length cap], .agg #[.int .i64 p, .int .i64 d0, .int .i64 d1, .int .i64 d2, .slice B ys.length cap2]] w (ResT w (krZ p n0 n1 n2 xs p d0 d1 d2 ys p) (krZ p n0 n1 n2 xs p d0 d1 d2 ys (n0 * d0)) (krZ p n0 n1 n2 xs p d0 d1 d2 ys (n1 * d1)) (krZ p n0 n1 n2 xs p d0 d1 d2 ys (n2 * d2)) (krR p n0 n1 n2 xs p d0 d1 d2 ys) (krCode p n0 n1 n2 xs p d0 d1 d2 ys)) := by
  obtain ⟨p1, p2, a0, a1, a2, hlx, hx⟩ := tenB_n3 htx
  obtain ⟨_, _, c0, c1, c2, hly, hy⟩ := tenB_n3 hty
  have hck : ckCode p n0 n1 n2 xs p d0 d1 d2 ys = 0 := by unfold ckCode; rw [if_pos htx, if_pos hty, if_pos rfl]
  have HCk := Lib.hid (fun w' (hb : Below w.heap.size w w') => l05Two_c p n0 n1 n2 A cap xs p d0 d1 d2 B cap2 ys w' (hr.keep hb) hn (hs.keep hb) hm)
  obtain ⟨M0, hM0⟩ : ∃ M, M = n0 * d0 := ⟨_, rfl⟩
  obtain ⟨M1, hM1⟩ : ∃ M, M = n1 * d1 := ⟨_, rfl⟩
  obtain ⟨M2, hM2⟩ : ∃ M, M = n2 * d2 := ⟨_, rfl⟩
  have HI0 : Hid ((n0 : Int) * (d0 : Int) = (M0 : Int)) := Lib.hid (by rw [hM0]; simp)
  have HI1 : Hid ((n1 : Int) * (d1 : Int) = (M1 : Int)) := Lib.hid (by rw [hM1]; simp)
  have HI2 : Hid ((n2 : Int) * (d2 : Int) = (M2 : Int)) := Lib.hid (by rw [hM2]; simp)
  have hM09 : 1 ≤ M0 ∧ M0 ≤ 81 := by rw [hM0]; exact ⟨Nat.mul_le_mul a0.1 c0.1, Nat.mul_le_mul a0.2 c0.2⟩
  have hM19 : 1 ≤ M1 ∧ M1 ≤ 81 := by rw [hM1]; exact ⟨Nat.mul_le_mul a1.1 c1.1, Nat.mul_le_mul a1.2 c1.2⟩
  have hM29 : 1 ≤ M2 ∧ M2 ≤ 81 := by rw [hM2]; exact ⟨Nat.mul_le_mul a2.1 c2.1, Nat.mul_le_mul a2.2 c2.2⟩
  obtain ⟨m0, hm0⟩ : ∃ m : Int, m = (M0 : Int) := ⟨_, rfl⟩
  obtain ⟨m1, hm1⟩ : ∃ m : Int, m = (M1 : Int) := ⟨_, rfl⟩
  obtain ⟨m2, hm2⟩ : ∃ m : Int, m = (M2 : Int) := ⟨_, rfl⟩
  have w0 : IntKind.i64.wrap ((n0 : Int) * (d0 : Int)) = m0 := by rw [HI0.out, hm0]; exact IntWalk.i64_in _ (by omega)
  have w1' : IntKind.i64.wrap ((n1 : Int) * (d1 : Int)) = m1 := by rw [HI1.out, hm1]; exact IntWalk.i64_in _ (by omega)
  have w2' : IntKind.i64.wrap ((n2 : Int) * (d2 : Int)) = m2 := by rw [HI2.out, hm2]; exact IntWalk.i64_in _ (by omega)
  obtain ⟨mx, hmx⟩ : ∃ mx, (if (if m0 < m1 then m1 else m0) < m2 then m2 else (if m0 < m1 then m1 else m0)) = mx := ⟨_, rfl⟩
  have hd : decide ((9 : Int) < mx) = true := by
    rw [← hmx]
    rw [HI0.out, HI1.out, HI2.out] at hok
    simp only [decide_eq_true_eq]
    have hn9 : ¬ (M0 ≤ 9 ∧ M1 ≤ 9 ∧ M2 ≤ 9) := fun h => by
      rw [side_of ⟨hM09.1, h.1⟩, side_of ⟨hM19.1, h.2.1⟩, side_of ⟨hM29.1, h.2.2⟩] at hok
      exact absurd hok (by decide)
    split <;> split <;> omega
  have Hck := Lib.hid hck
  have Hcode : Hid (krCode p n0 n1 n2 xs p d0 d1 d2 ys = 3) := Lib.hid (by unfold krCode; rw [if_pos hck, if_neg (by rw [hok]; decide)])
  have Hz : Hid (∀ x, krZ p n0 n1 n2 xs p d0 d1 d2 ys x = 0) := Lib.hid (fun x => by simp [krZ, Hcode.out])
  have Hr : Hid (krR p n0 n1 n2 xs p d0 d1 d2 ys = []) := Lib.hid (by simp [krR, Hcode.out])
  clear hck htx hty hlx hly hx hy hr hs hM0 hM1 hM2 hm0 hm1 hm2 hok
  go_enter Try.func8, Try.ntmps8
  go_wp2_with (first | (refine wpList_abs3 ?_; intro W hsz hB h0 h1 h2; have z0 : W.heap.size = w.heap.size + 1 + 1 + 1 := hsz; clear hsz) | (refine wpList_load_all rfl 26 _ rfl w.heap.size rfl _ _ _ h0 Try.underlying26 rfl 5 (by kernel_rfl) rfl ?_) | (refine wpList_load_all rfl 26 _ rfl (w.heap.size + 1) rfl _ _ _ h1 Try.underlying26 rfl 5 (by kernel_rfl) rfl ?_))
  refine (HCk.out _ hB).mono ?_
  rintro e0 w1 ⟨rfl, b1⟩
  replace hB := below_after hB b1
  replace h0 := h0.after b1
  replace h1 := h1.after b1
  replace h2 := h2.after b1
  have z1 : w.heap.size + 1 + 1 + 1 ≤ w1.heap.size := by have := b1.size; omega
  clear b1 z0
  rw [Hck.out]
  have x0 : w1.cell? ⟨w.heap.size, 0, none⟩ = some (.int .i64 p) := h0.at_ 0
  have x1 : w1.cell? ⟨w.heap.size, 1, none⟩ = some (.int .i64 n0) := h0.at_ 1
  have x2 : w1.cell? ⟨w.heap.size, 2, none⟩ = some (.int .i64 n1) := h0.at_ 2
  have x3 : w1.cell? ⟨w.heap.size, 3, none⟩ = some (.int .i64 n2) := h0.at_ 3
  have y1 : w1.cell? ⟨w.heap.size + 1, 1, none⟩ = some (.int .i64 d0) := h1.at_ 1
  have y2 : w1.cell? ⟨w.heap.size + 1, 2, none⟩ = some (.int .i64 d1) := h1.at_ 2
  have y3 : w1.cell? ⟨w.heap.size + 1, 3, none⟩ = some (.int .i64 d2) := h1.at_ 3
  go_wp2_with (first | (at_builtin; refine wpList_of_exec rfl (exec_max3 _ _ _ 2 rfl m0 m1 m2 rfl rfl rfl mx hmx) ?_) | (refine wpList_store_all rfl 26 _ _ rfl rfl (w.heap.size + 1 + 1) rfl #[.int .i64 0, .int .i64 0, .int .i64 0, .int .i64 0, .slice none 0 0] rfl _ _ h2 5 (by kernel_rfl) rfl rfl (by simp [Value.oneCell']) ?_; intro w7 p7))
  refine bodyPost_ret (results_at2 rfl _ _ (w.heap.size + 1 + 1) _ _ _ rfl _ rfl p7.at_ Try.underlying26 rfl 5 (by kernel_rfl) rfl) rfl ?_
  exact ⟨.slice none 0 0, by rw [Hz.out, Hz.out, Hz.out, Hz.out, Hcode.out]; rfl, by rw [Hr.out]; exact OwnI.nil _ _, p7.below hB (by omega)⟩
set_option maxHeartbeats 1600000 in
theorem specKro_y (p : Int) (n0 n1 n2 d0 d1 d2 : Nat) (A : Option Addr) (cap : Nat) (xs : List Int) (B : Option Addr) (cap2 : Nat) (ys : List Int) (w : World) (hr : RdI w A xs) (hn : xs.length ≤ 1048576) (hs : RdI w B ys) (hm : ys.length ≤ 1048576)
    (htx : tenB p n0 n1 n2 xs = true) (hty : tenB p d0 d1 d2 ys = true) (hok : (sideB ((n0 : Int) * d0) && sideB ((n1 : Int) * d1) && sideB ((n2 : Int) * d2)) = true) :
    Calls Try.prog 8 #[.agg #[.int .i64 p, .int .i64 n0, .int .i64 n1, .int .i64 n2, .slice A xs.length cap], .agg #[.int .i64 p, .int .i64 d0, .int .i64 d1, .int .i64 d2, .slice B ys.length cap2]] w (ResT w (krZ p n0 n1 n2 xs p d0 d1 d2 ys p) (krZ p n0 n1 n2 xs p d0 d1 d2 ys (n0 * d0)) (krZ p n0 n1 n2 xs p d0 d1 d2 ys (n1 * d1)) (krZ p n0 n1 n2 xs p d0 d1 d2 ys (n2 * d2)) (krR p n0 n1 n2 xs p d0 d1 d2 ys) (krCode p n0 n1 n2 xs p d0 d1 d2 ys)) := by
  obtain ⟨p1, p2, a0, a1, a2, hlx, hx⟩ := tenB_n3 htx
  obtain ⟨_, _, c0, c1, c2, hly, hy⟩ := tenB_n3 hty
  have hck : ckCode p n0 n1 n2 xs p d0 d1 d2 ys = 0 := by unfold ckCode; rw [if_pos htx, if_pos hty, if_pos rfl]
  have HCk := Lib.hid (fun w' (hb : Below w.heap.size w w') => l05Two_c p n0 n1 n2 A cap xs p d0 d1 d2 B cap2 ys w' (hr.keep hb) hn (hs.keep hb) hm)
  obtain ⟨M0, hM0⟩ : ∃ M, M = n0 * d0 := ⟨_, rfl⟩
  obtain ⟨M1, hM1⟩ : ∃ M, M = n1 * d1 := ⟨_, rfl⟩
  obtain ⟨M2, hM2⟩ : ∃ M, M = n2 * d2 := ⟨_, rfl⟩
  have HI0 : Hid ((n0 : Int) * (d0 : Int) = (M0 : Int)) := Lib.hid (by rw [hM0]; simp)
  have HI1 : Hid ((n1 : Int) * (d1 : Int) = (M1 : Int)) := Lib.hid (by rw [hM1]; simp)
  have HI2 : Hid ((n2 : Int) * (d2 : Int) = (M2 : Int)) := Lib.hid (by rw [hM2]; simp)
  have hM09 : 1 ≤ M0 ∧ M0 ≤ 81 := by rw [hM0]; exact ⟨Nat.mul_le_mul a0.1 c0.1, Nat.mul_le_mul a0.2 c0.2⟩
  have hM19 : 1 ≤ M1 ∧ M1 ≤ 81 := by rw [hM1]; exact ⟨Nat.mul_le_mul a1.1 c1.1, Nat.mul_le_mul a1.2 c1.2⟩
  have hM29 : 1 ≤ M2 ∧ M2 ≤ 81 := by rw [hM2]; exact ⟨Nat.mul_le_mul a2.1 c2.1, Nat.mul_le_mul a2.2 c2.2⟩
  obtain ⟨m0, hm0⟩ : ∃ m : Int, m = (M0 : Int) := ⟨_, rfl⟩
  obtain ⟨m1, hm1⟩ : ∃ m : Int, m = (M1 : Int) := ⟨_, rfl⟩
  obtain ⟨m2, hm2⟩ : ∃ m : Int, m = (M2 : Int) := ⟨_, rfl⟩
  have w0 : IntKind.i64.wrap ((n0 : Int) * (d0 : Int)) = m0 := by rw [HI0.out, hm0]; exact IntWalk.i64_in _ (by omega)
  have w1' : IntKind.i64.wrap ((n1 : Int) * (d1 : Int)) = m1 := by rw [HI1.out, hm1]; exact IntWalk.i64_in _ (by omega)
  have w2' : IntKind.i64.wrap ((n2 : Int) * (d2 : Int)) = m2 := by rw [HI2.out, hm2]; exact IntWalk.i64_in _ (by omega)
  obtain ⟨mx, hmx⟩ : ∃ mx, (if (if m0 < m1 then m1 else m0) < m2 then m2 else (if m0 < m1 then m1 else m0)) = mx := ⟨_, rfl⟩
  have hd : decide ((9 : Int) < mx) = false := by
    rw [← hmx]
    have h1 := sideB_in (n := M0) (by simp only [Bool.and_eq_true] at hok; rw [← HI0.out]; exact hok.1.1)
    have h2 := sideB_in (n := M1) (by simp only [Bool.and_eq_true] at hok; rw [← HI1.out]; exact hok.1.2)
    have h3 := sideB_in (n := M2) (by simp only [Bool.and_eq_true] at hok; rw [← HI2.out]; exact hok.2)
    simp only [decide_eq_false_iff_not]
    split <;> split <;> omega
  have Hck := Lib.hid hck
  have Hcode : Hid (krCode p n0 n1 n2 xs p d0 d1 d2 ys = 0) := Lib.hid (by unfold krCode; rw [if_pos hck, if_pos hok])
  have Hz : Hid (∀ x, krZ p n0 n1 n2 xs p d0 d1 d2 ys x = x) := Lib.hid (fun x => by simp [krZ, Hcode.out])
  obtain ⟨RL, HRL⟩ : ∃ RL, Hid (genL M1 M2 p (kroF n1 n2 d0 d1 d2 xs ys) (M0 * M1 * M2) = RL) := ⟨_, Lib.hid rfl⟩
  have Hr : Hid (krR p n0 n1 n2 xs p d0 d1 d2 ys = RL) := Lib.hid (by rw [← HRL.out]; unfold krR; rw [if_pos Hcode.out, HI0.out, HI1.out, HI2.out]; simp only [Int.toNat_natCast])
  have HKr := Lib.hid (fun w' (hb : Below w.heap.size w w') => l05Kronecker_c p n0 n1 n2 d0 d1 d2 M0 M1 M2 A cap xs B cap2 ys w' (hr.keep hb) (hs.keep hb) htx hty hM0 hM1 hM2
    (by have := sideB_in (n := M0) (by simp only [Bool.and_eq_true] at hok; rw [← HI0.out]; exact hok.1.1); omega) (by have := sideB_in (n := M1) (by simp only [Bool.and_eq_true] at hok; rw [← HI1.out]; exact hok.1.2); omega) (by have := sideB_in (n := M2) (by simp only [Bool.and_eq_true] at hok; rw [← HI2.out]; exact hok.2); omega))
  clear hck htx hty hlx hly hx hy hr hs hM0 hM1 hM2 hm0 hm1 hm2 hok
  go_enter Try.func8, Try.ntmps8
  go_wp2_with (first | (refine wpList_abs3 ?_; intro W hsz hB h0 h1 h2; have z0 : W.heap.size = w.heap.size + 1 + 1 + 1 := hsz; clear hsz) | (refine wpList_load_all rfl 26 _ rfl w.heap.size rfl _ _ _ h0 Try.underlying26 rfl 5 (by kernel_rfl) rfl ?_) | (refine wpList_load_all rfl 26 _ rfl (w.heap.size + 1) rfl _ _ _ h1 Try.underlying26 rfl 5 (by kernel_rfl) rfl ?_))
  refine (HCk.out _ hB).mono ?_
  rintro e0 w1 ⟨rfl, b1⟩
  replace hB := below_after hB b1
  replace h0 := h0.after b1
  replace h1 := h1.after b1
  replace h2 := h2.after b1
  have z1 : w.heap.size + 1 + 1 + 1 ≤ w1.heap.size := by have := b1.size; omega
  clear b1 z0
  rw [Hck.out]
  have x0 : w1.cell? ⟨w.heap.size, 0, none⟩ = some (.int .i64 p) := h0.at_ 0
  have x1 : w1.cell? ⟨w.heap.size, 1, none⟩ = some (.int .i64 n0) := h0.at_ 1
  have x2 : w1.cell? ⟨w.heap.size, 2, none⟩ = some (.int .i64 n1) := h0.at_ 2
  have x3 : w1.cell? ⟨w.heap.size, 3, none⟩ = some (.int .i64 n2) := h0.at_ 3
  have y1 : w1.cell? ⟨w.heap.size + 1, 1, none⟩ = some (.int .i64 d0) := h1.at_ 1
  have y2 : w1.cell? ⟨w.heap.size + 1, 2, none⟩ = some (.int .i64 d1) := h1.at_ 2
  have y3 : w1.cell? ⟨w.heap.size + 1, 3, none⟩ = some (.int .i64 d2) := h1.at_ 3
  go_wp2_with (first | (at_builtin; refine wpList_of_exec rfl (exec_max3 _ _ _ 2 rfl m0 m1 m2 rfl rfl rfl mx hmx) ?_) | (refine wpList_load_all rfl 26 _ rfl w.heap.size rfl _ _ _ h0 Try.underlying26 rfl 5 (by kernel_rfl) rfl ?_) | (refine wpList_load_all rfl 26 _ rfl (w.heap.size + 1) rfl _ _ _ h1 Try.underlying26 rfl 5 (by kernel_rfl) rfl ?_))
  refine (HKr.out _ hB).mono ?_
  rintro e0 w8 ⟨v, rfl, ho, b8⟩
  rw [HRL.out] at ho
  obtain ⟨A5, c5, rfl, _⟩ := ho.rd
  replace hB := below_after hB b8
  replace h2 := h2.after b8
  go_wp2_with (refine wpList_store_all rfl 26 _ _ rfl rfl (w.heap.size + 1 + 1) rfl _ rfl _ _ h2 5 (by kernel_rfl) rfl rfl (by simp [Value.oneCell']) ?_; intro w7 p7)
  refine bodyPost_ret (results_at2 rfl _ _ (w.heap.size + 1 + 1) _ _ _ rfl _ rfl p7.at_ Try.underlying26 rfl 5 (by kernel_rfl) rfl) rfl ?_
  exact ⟨_, by rw [Hz.out, Hz.out, Hz.out, Hz.out, HI0.out, HI1.out, HI2.out, Hcode.out]; rfl, by rw [Hr.out]; exact (ho.put p7 (ho.ne_lt (by omega))).mono (by omega), p7.below hB (by omega)⟩
theorem specKroneckerTensors_c (p a b c : Int) (A : Option Addr) (cap : Nat) (xs : List Int) (q d e f : Int) (B : Option Addr) (cap2 : Nat) (ys : List Int) (w : World) (hr : RdI w A xs) (hn : xs.length ≤ 1048576) (hs : RdI w B ys) (hm : ys.length ≤ 1048576) :
    Calls Try.prog 8 #[.agg #[.int .i64 p, .int .i64 a, .int .i64 b, .int .i64 c, .slice A xs.length cap], .agg #[.int .i64 q, .int .i64 d, .int .i64 e, .int .i64 f, .slice B ys.length cap2]] w (ResT w (krZ p a b c xs q d e f ys p) (krZ p a b c xs q d e f ys (a * d)) (krZ p a b c xs q d e f ys (b * e)) (krZ p a b c xs q d e f ys (c * f)) (krR p a b c xs q d e f ys) (krCode p a b c xs q d e f ys)) := by
  rcases ckCode_cases p a b c xs q d e f ys with h | h | ⟨h, hx, hy, rfl⟩
  · exact specKro_a p a b c A cap xs q d e f B cap2 ys w hr hn hs hm h
  · exact specKro_b p a b c A cap xs q d e f B cap2 ys w hr hn hs hm h
  · obtain ⟨_, s0, s1, s2, _, _⟩ := tenB_parts hx
    obtain ⟨_, t0, t1, t2, _, _⟩ := tenB_parts hy
    obtain ⟨n0, rfl⟩ := Int.eq_ofNat_of_zero_le (show 0 ≤ a by have := sideB_in s0; omega)
    obtain ⟨n1, rfl⟩ := Int.eq_ofNat_of_zero_le (show 0 ≤ b by have := sideB_in s1; omega)
    obtain ⟨n2, rfl⟩ := Int.eq_ofNat_of_zero_le (show 0 ≤ c by have := sideB_in s2; omega)
    obtain ⟨d0, rfl⟩ := Int.eq_ofNat_of_zero_le (show 0 ≤ d by have := sideB_in t0; omega)
    obtain ⟨d1, rfl⟩ := Int.eq_ofNat_of_zero_le (show 0 ≤ e by have := sideB_in t1; omega)
    obtain ⟨d2, rfl⟩ := Int.eq_ofNat_of_zero_le (show 0 ≤ f by have := sideB_in t2; omega)
    cases hok : (sideB ((n0 : Int) * d0) && sideB ((n1 : Int) * d1) && sideB ((n2 : Int) * d2)) with
    | false => exact specKro_c p n0 n1 n2 d0 d1 d2 A cap xs B cap2 ys w hr hn hs hm hx hy hok
    | true => exact specKro_y p n0 n1 n2 d0 d1 d2 A cap xs B cap2 ys w hr hn hs hm hx hy hok
theorem krR_len (p a b c : Int) (xs : List Int) (q d e f : Int) (ys : List Int) : (krR p a b c xs q d e f ys).length ≤ 1048576 := by
  unfold krR
  split
  · rename_i h
    unfold krCode at h
    rcases ckCode_cases p a b c xs q d e f ys with h1 | h1 | ⟨h1, _, _, _⟩
    · rw [h1] at h; simp at h
    · rw [h1] at h; simp at h
    · rw [if_pos h1] at h
      have hok : (sideB (a * d) && sideB (b * e) && sideB (c * f)) = true := by
        cases hc : (sideB (a * d) && sideB (b * e) && sideB (c * f)) with
        | true => rfl
        | false => rw [hc] at h; simp at h
      simp only [Bool.and_eq_true] at hok
      have l0 := sideB_in hok.1.1
      have l1 := sideB_in hok.1.2
      have l2 := sideB_in hok.2
      rw [genL_len]
      have := places_729 (n0 := (a * d).toNat) (n1 := (b * e).toNat) (n2 := (c * f).toNat) (by omega) (by omega) (by omega)
      omega
  · simp
end Go.Proofs.Ytcmpeoijedddjaa
