/-
  impl.KroneckerTensors. (Made by mkkro.py.)
-/
import Derived.Test.YtcmpeoijedddjaaTen7Kro
import Derived.Test.YtcmpeoijedddjaaTenC
namespace Go.Proofs.Ytcmpeoijedddjaa
open Go.RowKit
set_option maxRecDepth 100000
def krCode (p a b c : Int) (xs : List Int) (q d e f : Int) (ys : List Int) : Int :=
  if ckCode p a b c xs q d e f ys = 0 then (if (sideB (a * d) && sideB (b * e) && sideB (c * f)) = true then 0 else 3) else ckCode p a b c xs q d e f ys
def krZ (p a b c : Int) (xs : List Int) (q d e f : Int) (ys : List Int) (x : Int) : Int := if krCode p a b c xs q d e f ys = 0 then x else 0
def krR (p a b c : Int) (xs : List Int) (q d e f : Int) (ys : List Int) : List Int := if krCode p a b c xs q d e f ys = 0 then genL (b * e).toNat (c * f).toNat p (kroF b.toNat c.toNat d.toNat e.toNat f.toNat xs ys) ((a * d).toNat * (b * e).toNat * (c * f).toNat) else []

set_option maxHeartbeats 1600000 in
theorem implKro_a (p a b c : Int) (A : Option Addr) (cap : Nat) (xs : List Int) (q d e f : Int) (B : Option Addr) (cap2 : Nat) (ys : List Int) (w : World) (hr : RdI w A xs) (hn : xs.length ≤ 1048576) (hs : RdI w B ys) (hm : ys.length ≤ 1048576) (hck : ckCode p a b c xs q d e f ys = 1) :
    Calls Try.prog 10 #[.agg #[.int .i64 p, .int .i64 a, .int .i64 b, .int .i64 c, .slice A xs.length cap], .agg #[.int .i64 q, .int .i64 d, .int .i64 e, .int .i64 f, .slice B ys.length cap2]] w (ResT w (krZ p a b c xs q d e f ys p) (krZ p a b c xs q d e f ys (a * d)) (krZ p a b c xs q d e f ys (b * e)) (krZ p a b c xs q d e f ys (c * f)) (krR p a b c xs q d e f ys) (krCode p a b c xs q d e f ys)) := by
  have HCk := Lib.hid (fun w' (hb : Below w.heap.size w w') => checkTensors_c p a b c A cap xs q d e f B cap2 ys w' (hr.keep hb) hn (hs.keep hb) hm)
  have Hcode : Hid (krCode p a b c xs q d e f ys = 1) := Lib.hid (by simp [krCode, hck])
  have Hz : Hid (∀ x, krZ p a b c xs q d e f ys x = 0) := Lib.hid (fun x => by simp [krZ, Hcode.out])
  have Hr : Hid (krR p a b c xs q d e f ys = []) := Lib.hid (by simp [krR, Hcode.out])
  have Hck := Lib.hid hck
  clear hck
  go_enter Try.func10, Try.ntmps10
  go_wp2_with (first | (refine wpList_abs3 ?_; intro W hsz hB h0 h1 h2; have z0 : W.heap.size = w.heap.size + 1 + 1 + 1 := hsz; clear hsz) | (refine wpList_load_all rfl 26 _ rfl w.heap.size rfl _ _ _ h0 Try.underlying26 rfl 5 (by kernel_rfl) rfl ?_) | (refine wpList_load_all rfl 26 _ rfl (w.heap.size + 1) rfl _ _ _ h1 Try.underlying26 rfl 5 (by kernel_rfl) rfl ?_))
  refine (HCk.out _ hB).mono ?_
  rintro e0 w1 ⟨rfl, b1⟩
  replace hB := below_after hB b1
  replace h0 := h0.after b1
  replace h1 := h1.after b1
  replace h2 := h2.after b1
  have z1 : w.heap.size + 1 + 1 + 1 ≤ w1.heap.size := by have := b1.size; omega
  clear b1 z0
  rw [Hck.out]
  go_wp2_with (refine wpList_store_all rfl 26 _ _ rfl rfl (w.heap.size + 1 + 1) rfl #[.int .i64 0, .int .i64 0, .int .i64 0, .int .i64 0, .slice none 0 0] rfl _ _ h2 5 (by kernel_rfl) rfl rfl (by simp [Value.oneCell']) ?_; intro w7 p7)
  refine bodyPost_ret (results_at2 rfl _ _ (w.heap.size + 1 + 1) _ _ _ rfl _ rfl p7.at_ Try.underlying26 rfl 5 (by kernel_rfl) rfl) rfl ?_
  exact ⟨.slice none 0 0, by rw [Hz.out, Hz.out, Hz.out, Hz.out, Hcode.out]; rfl, by rw [Hr.out]; exact OwnI.nil _ _, p7.below hB (by omega)⟩

set_option maxHeartbeats 1600000 in
theorem implKro_b (p a b c : Int) (A : Option Addr) (cap : Nat) (xs : List Int) (q d e f : Int) (B : Option Addr) (cap2 : Nat) (ys : List Int) (w : World) (hr : RdI w A xs) (hn : xs.length ≤ 1048576) (hs : RdI w B ys) (hm : ys.length ≤ 1048576) (hck : ckCode p a b c xs q d e f ys = 2) :
    Calls Try.prog 10 #[.agg #[.int .i64 p, .int .i64 a, .int .i64 b, .int .i64 c, .slice A xs.length cap], .agg #[.int .i64 q, .int .i64 d, .int .i64 e, .int .i64 f, .slice B ys.length cap2]] w (ResT w (krZ p a b c xs q d e f ys p) (krZ p a b c xs q d e f ys (a * d)) (krZ p a b c xs q d e f ys (b * e)) (krZ p a b c xs q d e f ys (c * f)) (krR p a b c xs q d e f ys) (krCode p a b c xs q d e f ys)) := by
  have HCk := Lib.hid (fun w' (hb : Below w.heap.size w w') => checkTensors_c p a b c A cap xs q d e f B cap2 ys w' (hr.keep hb) hn (hs.keep hb) hm)
  have Hcode : Hid (krCode p a b c xs q d e f ys = 2) := Lib.hid (by simp [krCode, hck])
  have Hz : Hid (∀ x, krZ p a b c xs q d e f ys x = 0) := Lib.hid (fun x => by simp [krZ, Hcode.out])
  have Hr : Hid (krR p a b c xs q d e f ys = []) := Lib.hid (by simp [krR, Hcode.out])
  have Hck := Lib.hid hck
  clear hck
  go_enter Try.func10, Try.ntmps10
  go_wp2_with (first | (refine wpList_abs3 ?_; intro W hsz hB h0 h1 h2; have z0 : W.heap.size = w.heap.size + 1 + 1 + 1 := hsz; clear hsz) | (refine wpList_load_all rfl 26 _ rfl w.heap.size rfl _ _ _ h0 Try.underlying26 rfl 5 (by kernel_rfl) rfl ?_) | (refine wpList_load_all rfl 26 _ rfl (w.heap.size + 1) rfl _ _ _ h1 Try.underlying26 rfl 5 (by kernel_rfl) rfl ?_))
  refine (HCk.out _ hB).mono ?_
  rintro e0 w1 ⟨rfl, b1⟩
  replace hB := below_after hB b1
  replace h0 := h0.after b1
  replace h1 := h1.after b1
  replace h2 := h2.after b1
  have z1 : w.heap.size + 1 + 1 + 1 ≤ w1.heap.size := by have := b1.size; omega
  clear b1 z0
  rw [Hck.out]
  go_wp2_with (refine wpList_store_all rfl 26 _ _ rfl rfl (w.heap.size + 1 + 1) rfl #[.int .i64 0, .int .i64 0, .int .i64 0, .int .i64 0, .slice none 0 0] rfl _ _ h2 5 (by kernel_rfl) rfl rfl (by simp [Value.oneCell']) ?_; intro w7 p7)
  refine bodyPost_ret (results_at2 rfl _ _ (w.heap.size + 1 + 1) _ _ _ rfl _ rfl p7.at_ Try.underlying26 rfl 5 (by kernel_rfl) rfl) rfl ?_
  exact ⟨.slice none 0 0, by rw [Hz.out, Hz.out, Hz.out, Hz.out, Hcode.out]; rfl, by rw [Hr.out]; exact OwnI.nil _ _, p7.below hB (by omega)⟩

theorem cut_worldK {n : Nat} {w wx : World} (_ : Below n w wx) : ∃ x : World, x = wx := ⟨_, rfl⟩
set_option maxHeartbeats 1600000 in
theorem times_c (a b c d e f x y z : Int) (w0 : IntKind.i64.wrap (a * d) = x) (w1 : IntKind.i64.wrap (b * e) = y) (w2 : IntKind.i64.wrap (c * f) = z) (w : World) :
    Calls Try.prog 30 #[.agg #[.int .i64 a, .int .i64 b, .int .i64 c], .agg #[.int .i64 d, .int .i64 e, .int .i64 f]] w fun e' w' => e' = .returned (.agg #[.int .i64 x, .int .i64 y, .int .i64 z]) ∧ Below w.heap.size w w' := by
  go_enter Try.func30, Try.ntmps30
  go_wp2_with (first | (refine wpList_abs3 ?_; intro W hsz hB h0 h1 h2; have z0 : W.heap.size = w.heap.size + 1 + 1 + 1 := hsz; clear hsz) | (refine wpList_load_all rfl 52 _ rfl (w.heap.size + 1) rfl _ _ _ h1 Try.underlying52 rfl 3 (by kernel_rfl) rfl ?_))
  go_loopw [8] (fun i wr => ∃ k : Nat, k ≤ 3 ∧ i = .int .i64 k ∧ Below w.heap.size w wr ∧ At wr (w.heap.size + 1 + 1) (.cells #[.int .i64 0, .int .i64 0, .int .i64 0] 52 (0, 0)) ∧ ((k = 0 ∧ At wr w.heap.size (.cells #[.int .i64 a, .int .i64 b, .int .i64 c] 52 (0, 0))) ∨ (k = 1 ∧ At wr w.heap.size (.cells #[.int .i64 x, .int .i64 b, .int .i64 c] 52 (0, 0))) ∨ (k = 2 ∧ At wr w.heap.size (.cells #[.int .i64 x, .int .i64 y, .int .i64 c] 52 (0, 0))) ∨ (k = 3 ∧ At wr w.heap.size (.cells #[.int .i64 x, .int .i64 y, .int .i64 z] 52 (0, 0))))) (fun i _ => 3 - (intOf i).toNat)
  case atStart => exact ⟨0, by omega, rfl, hB, h2, .inl ⟨rfl, h0⟩⟩
  case round =>
    clear hB h0 h1 h2
    obtain ⟨k, hk, rfl, hB, h2, ⟨rfl, h7⟩ | ⟨rfl, h7⟩ | ⟨rfl, h7⟩ | ⟨rfl, h7⟩⟩ := hrel
    · have x0 : wr.cell? ⟨w.heap.size, 0, none⟩ = some (.int .i64 a) := h7.at_ 0
      have z3 := h7.free 0
      have P := Put.cell (i := 0) h7 (.int .i64 x)
      go_wp2_with (refine wpList_of_exec rfl (exec_index_arr3 52 2 _ _ rfl 3 0 _ (.int .i64 d) rfl rfl Try.underlying52 _ Try.underlying2 rfl (by kernel_rfl) (by omega) rfl) ?_)
      go_roundw
      case rel => exact ⟨1, by omega, rfl, P.below hB (by omega), P.other h2 (by omega), .inr (.inl ⟨rfl, P.at_⟩)⟩
      case measure => simp [intOf]
    · have x0 : wr.cell? ⟨w.heap.size, 1, none⟩ = some (.int .i64 b) := h7.at_ 1
      have z3 := h7.free 1
      have P := Put.cell (i := 1) h7 (.int .i64 y)
      go_wp2_with (refine wpList_of_exec rfl (exec_index_arr3 52 2 _ _ rfl 3 1 _ (.int .i64 e) rfl rfl Try.underlying52 _ Try.underlying2 rfl (by kernel_rfl) (by omega) rfl) ?_)
      go_roundw
      case rel => exact ⟨2, by omega, rfl, P.below hB (by omega), P.other h2 (by omega), .inr (.inr (.inl ⟨rfl, P.at_⟩))⟩
      case measure => simp [intOf]
    · have x0 : wr.cell? ⟨w.heap.size, 2, none⟩ = some (.int .i64 c) := h7.at_ 2
      have z3 := h7.free 2
      have P := Put.cell (i := 2) h7 (.int .i64 z)
      go_wp2_with (refine wpList_of_exec rfl (exec_index_arr3 52 2 _ _ rfl 3 2 _ (.int .i64 f) rfl rfl Try.underlying52 _ Try.underlying2 rfl (by kernel_rfl) (by omega) rfl) ?_)
      go_roundw
      case rel => exact ⟨3, by omega, rfl, P.below hB (by omega), P.other h2 (by omega), .inr (.inr (.inr ⟨rfl, P.at_⟩))⟩
      case measure => simp [intOf]
    · obtain ⟨w5, rfl⟩ : ∃ v : World, v = wr := ⟨_, rfl⟩
      go_wp2_with (first | (refine wpList_load_all rfl 52 _ rfl w.heap.size rfl _ _ _ h7 Try.underlying52 rfl 3 (by kernel_rfl) rfl ?_) | (refine wpList_store_all rfl 52 _ _ rfl rfl (w.heap.size + 1 + 1) rfl _ rfl _ _ h2 3 (by kernel_rfl) rfl rfl (by simp [Value.oneCell']) ?_; intro w7 p7))
      refine bodyPost_ret (results_at rfl _ _ (w.heap.size + 1 + 1) _ _ _ rfl p7.at_ Try.underlying52 rfl 3 (by kernel_rfl) rfl) rfl ?_
      exact ⟨rfl, p7.below hB (by omega)⟩
section
attribute [local irreducible] wpList
theorem alK_impl_Tensor {o : Oper} {a : Act} {w : World} (ho : o.op = .alloc 26) : (execOp a.eval o).run Try.prog w = .ok (.value (.pointer (some ⟨w.heap.size, 0, none⟩))) (w.alloc (.cells #[.int .i64 0, .int .i64 0, .int .i64 0, .int .i64 0, .slice none 0 0] 26 (0, 0))) := by
  unfold execOp
  rw [ho]
  kernel_rfl
theorem alK_impl_box {o : Oper} {a : Act} {w : World} (ho : o.op = .alloc 52) : (execOp a.eval o).run Try.prog w = .ok (.value (.pointer (some ⟨w.heap.size, 0, none⟩))) (w.alloc (.cells #[.int .i64 0, .int .i64 0, .int .i64 0] 52 (0, 0))) := by
  unfold execOp
  rw [ho]
  kernel_rfl
set_option maxHeartbeats 6400000 in
theorem implKro_f (p : Int) (n0 n1 n2 d0 d1 d2 : Nat) (A : Option Addr) (cap : Nat) (xs : List Int) (B : Option Addr) (cap2 : Nat) (ys : List Int) (w : World) (hr : RdI w A xs) (hn : xs.length ≤ 1048576) (hs : RdI w B ys) (hm : ys.length ≤ 1048576)
    (htx : tenB p n0 n1 n2 xs = true) (hty : tenB p d0 d1 d2 ys = true) (hok : (sideB ((n0 * d0 : Nat) : Int) && sideB ((n1 * d1 : Nat) : Int) && sideB ((n2 * d2 : Nat) : Int)) = false) :
    Calls Try.prog 10 #[.agg #[.int .i64 p, .int .i64 n0, .int .i64 n1, .int .i64 n2, .slice A xs.length cap], .agg #[.int .i64 p, .int .i64 d0, .int .i64 d1, .int .i64 d2, .slice B ys.length cap2]] w (ResT w (krZ p n0 n1 n2 xs p d0 d1 d2 ys p) (krZ p n0 n1 n2 xs p d0 d1 d2 ys (n0 * d0)) (krZ p n0 n1 n2 xs p d0 d1 d2 ys (n1 * d1)) (krZ p n0 n1 n2 xs p d0 d1 d2 ys (n2 * d2)) (krR p n0 n1 n2 xs p d0 d1 d2 ys) (krCode p n0 n1 n2 xs p d0 d1 d2 ys)) := by
  have hB := Below.refl w.heap.size w
  obtain ⟨p1, p2, a0, a1, a2, hlx, hx⟩ := tenB_n3 htx
  obtain ⟨_, _, c0, c1, c2, hly, hy⟩ := tenB_n3 hty
  have hck : ckCode p n0 n1 n2 xs p d0 d1 d2 ys = 0 := by unfold ckCode; rw [if_pos htx, if_pos hty, if_pos rfl]
  have HCk := Lib.hid (fun w' (hb : Below w.heap.size w w') => checkTensors_c p n0 n1 n2 A cap xs p d0 d1 d2 B cap2 ys w' (hr.keep hb) hn (hs.keep hb) hm)
  obtain ⟨M0, hM0⟩ : ∃ M, M = n0 * d0 := ⟨_, rfl⟩
  obtain ⟨M1, hM1⟩ : ∃ M, M = n1 * d1 := ⟨_, rfl⟩
  obtain ⟨M2, hM2⟩ : ∃ M, M = n2 * d2 := ⟨_, rfl⟩
  rw [← hM0, ← hM1, ← hM2] at hok
  have HM0 : Hid ((n0 : Int) * (d0 : Int) = (M0 : Int)) := Lib.hid (by rw [hM0]; simp)
  have HM1 : Hid ((n1 : Int) * (d1 : Int) = (M1 : Int)) := Lib.hid (by rw [hM1]; simp)
  have HM2 : Hid ((n2 : Int) * (d2 : Int) = (M2 : Int)) := Lib.hid (by rw [hM2]; simp)
  have hM09 : M0 ≤ 81 := by rw [hM0]; exact Nat.mul_le_mul a0.2 c0.2
  have hM19 : M1 ≤ 81 := by rw [hM1]; exact Nat.mul_le_mul a1.2 c1.2
  have hM29 : M2 ≤ 81 := by rw [hM2]; exact Nat.mul_le_mul a2.2 c2.2
  have w0 : IntKind.i64.wrap ((n0 : Int) * (d0 : Int)) = (M0 : Int) := by rw [HM0.out]; exact IntWalk.i64_in _ (by omega)
  have w1' : IntKind.i64.wrap ((n1 : Int) * (d1 : Int)) = (M1 : Int) := by rw [HM1.out]; exact IntWalk.i64_in _ (by omega)
  have w2' : IntKind.i64.wrap ((n2 : Int) * (d2 : Int)) = (M2 : Int) := by rw [HM2.out]; exact IntWalk.i64_in _ (by omega)
  have Hck := Lib.hid hck
  have HPost : Hid ((sideB M0 && sideB M1 && sideB M2) = true → krCode p n0 n1 n2 xs p d0 d1 d2 ys = 0) := Lib.hid (fun h => by unfold krCode; rw [if_pos hck, HM0.out, HM1.out, HM2.out, if_pos h])
  have HNo : Hid ((sideB M0 && sideB M1 && sideB M2) = false → krCode p n0 n1 n2 xs p d0 d1 d2 ys = 3) := Lib.hid (fun h => by unfold krCode; rw [if_pos hck, HM0.out, HM1.out, HM2.out, if_neg (by rw [h]; decide)])
  have HCl := Lib.hid (fun (hok : (sideB M0 && sideB M1 && sideB M2) = true) (gt gu : Nat) (w1 : World) (hb1 : Below w.heap.size w w1) (k1 : At w1 gt (.cells #[.int .i64 p, .int .i64 n0, .int .i64 n1, .int .i64 n2, .slice A xs.length cap] 26 (0, 0))) (k3 : At w1 gu (.cells #[.int .i64 p, .int .i64 d0, .int .i64 d1, .int .i64 d2, .slice B ys.length cap2] 26 (0, 0))) =>
    have s3 : sideB M0 = true ∧ sideB M1 = true ∧ sideB M2 = true := by simpa [Bool.and_eq_true, and_assoc] using hok
    have l0 := sideB_in s3.1
    have l1 := sideB_in s3.2.1
    have l2 := sideB_in s3.2.2
    tensorWithKro_c p M0 M1 M2 gt gu (kroF n1 n2 d0 d1 d2 xs ys) w1 (by omega) s3.1 s3.2.1 s3.2.2 (fun i j k w' hi hj hk hb => ⟨kroF_nonneg hx hy (by omega) i j k, kro1_c p n0 n1 n2 A cap xs B cap2 ys d0 d1 d2 i j k gt gu w' ((hr.keep hb1).keep hb) ((hs.keep hb1).keep hb) hlx a0.2 a1.2 a2.2 (At.after k1 hb) (At.after k3 hb) hly c0 c1 c2 hx hy ⟨p1, p2⟩ (by rw [← hM0]; exact hi) (by rw [← hM1]; exact hj) (by rw [← hM2]; exact hk)⟩))
  have Hcode := Lib.hid (HNo.out hok)
  have Hz : Hid (∀ x, krZ p n0 n1 n2 xs p d0 d1 d2 ys x = 0) := Lib.hid (fun x => by simp [krZ, Hcode.out])
  have Hr : Hid (krR p n0 n1 n2 xs p d0 d1 d2 ys = []) := Lib.hid (by simp [krR, Hcode.out])
  have Hok := Lib.hid hok
  clear hok HPost HNo HCl
  clear hck htx hty hlx hly hx hy hr hs hM0 hM1 hM2
  go_enter Try.func10, Try.ntmps10
  go_upto_region 0 with (fail)
  refine wp_region_lit ?_
  refine ls_op rfl (fun K' hK' => ?_)
  have lz1 := hB.size
  refine wp_new (some 2) rfl (exec_box 26 _ rfl (#[.int .i64 p, .int .i64 n0, .int .i64 n1, .int .i64 n2, .slice A xs.length cap]) rfl) (fun Wz2 nnz3 => ?_)
  have bz4 := nnz3.below (Below.refl _ _) (Nat.le_refl _)
  replace hB := below_after hB bz4
  have hz5 : At Wz2 w.heap.size (.cells #[.int .i64 p, .int .i64 n0, .int .i64 n1, .int .i64 n2, .slice A xs.length cap] 26 (0, 0)) := nnz3.at_
  refine hK' _ _ ?_
  clear hK' K' nnz3 bz4
  go_frame
  refine ls_op rfl (fun K' hK' => ?_)
  have lz6 := hB.size
  have lz7 := hz5.lt
  refine wp_new (some 3) rfl (exec_box 26 _ rfl (#[.int .i64 p, .int .i64 d0, .int .i64 d1, .int .i64 d2, .slice B ys.length cap2]) rfl) (fun Wz8 nnz9 => ?_)
  have bz10 := nnz9.below (Below.refl _ _) (Nat.le_refl _)
  replace hB := below_after hB bz10
  replace hz5 := hz5.after bz10
  have hz11 : At Wz8 Wz2.heap.size (.cells #[.int .i64 p, .int .i64 d0, .int .i64 d1, .int .i64 d2, .slice B ys.length cap2] 26 (0, 0)) := nnz9.at_
  refine hK' _ _ ?_
  clear hK' K' nnz9 bz10
  go_frame
  refine ls_op rfl (fun K' hK' => ?_)
  have lz12 := hB.size
  have lz13 := hz5.lt
  have lz14 := hz11.lt
  refine wp_new (some 4) rfl (alK_impl_Tensor rfl) (fun Wz15 nnz16 => ?_)
  have bz17 := nnz16.below (Below.refl _ _) (Nat.le_refl _)
  replace hB := below_after hB bz17
  replace hz5 := hz5.after bz17
  replace hz11 := hz11.after bz17
  have hz18 : At Wz15 Wz8.heap.size (.cells #[.int .i64 0, .int .i64 0, .int .i64 0, .int .i64 0, .slice none 0 0] 26 (0, 0)) := nnz16.at_
  refine hK' _ _ ?_
  clear hK' K' nnz16 bz17
  go_frame
  refine ls_ex (some 5) (.int .i64 0) rfl rfl (exec_assign _ rfl (.int .i64 0) rfl) ?_
  go_frame
  refine wpList_nil ?_
  go_upto_region 1 with (fail)
  refine wp_region_lit ?_
  refine ls_ex (some 8) (.agg #[.int .i64 p, .int .i64 n0, .int .i64 n1, .int .i64 n2, .slice A xs.length cap]) rfl rfl (exec_load_all 26 _ rfl w.heap.size rfl _ _ _ hz5 Try.underlying26 rfl 5 (by kernel_rfl) rfl) ?_
  go_frame
  refine ls_ex (some 9) (.agg #[.int .i64 p, .int .i64 d0, .int .i64 d1, .int .i64 d2, .slice B ys.length cap2]) rfl rfl (exec_load_all 26 _ rfl Wz2.heap.size rfl _ _ _ hz11 Try.underlying26 rfl 5 (by kernel_rfl) rfl) ?_
  go_frame
  refine ls_op rfl (fun K' hK' => ?_)
  have lz21 := hB.size
  have lz22 := hz5.lt
  have lz23 := hz11.lt
  have lz24 := hz18.lt
  refine wp_call2 (some 10) rfl 28 _ _ _ rfl (fun args w => by kernel_rfl) _ _ rfl rfl _ (HCk.out _ hB) (fun e Wz19 h => ?_)
  obtain ⟨rfl, bz20⟩ := h
  replace hB := below_after hB bz20
  replace hz5 := hz5.after bz20
  replace hz11 := hz11.after bz20
  replace hz18 := hz18.after bz20
  rw [Hck.out]
  clear bz20
  refine ⟨_, rfl, ?_⟩
  refine hK' _ _ ?_
  clear hK' K'
  go_frame
  refine ls_ex (some 6) (.int .i64 0) rfl rfl (exec_assign _ rfl (.int .i64 0) rfl) ?_
  go_frame
  refine wpList_nil ?_
  go_upto_region 2 with (fail)
  refine wp_region_lit ?_
  refine ls_ex (some 11) (.int .i64 0) rfl rfl (exec_move _ rfl (.int .i64 0) rfl) ?_
  go_frame
  refine ls_ex (some 12) (.bool false) rfl rfl (exec_neq _ _ _ _ rfl 0 0 rfl rfl false rfl) ?_
  go_frame
  refine wpList_nil ?_
  go_upto_region 4 with (fail)
  go_cut [7] from 20 to 29 (fun s7 wx => ∃ b7 : Nat, s7 = .pointer (some ⟨b7, 0, none⟩) ∧ w.heap.size < b7 ∧ Wz2.heap.size < b7 ∧ Wz8.heap.size < b7 ∧ Below w.heap.size w wx ∧ At wx w.heap.size (.cells #[.int .i64 p, .int .i64 n0, .int .i64 n1, .int .i64 n2, .slice A xs.length cap] 26 (0, 0)) ∧ At wx Wz2.heap.size (.cells #[.int .i64 p, .int .i64 d0, .int .i64 d1, .int .i64 d2, .slice B ys.length cap2] 26 (0, 0)) ∧ At wx Wz8.heap.size (.cells #[.int .i64 0, .int .i64 0, .int .i64 0, .int .i64 0, .slice none 0 0] 26 (0, 0)) ∧ At wx b7 (.cells #[.int .i64 M0, .int .i64 M1, .int .i64 M2] 52 (0, 0)))
  case first =>
    refine wp_region_y (zs := []) (S := fun w' => Below w.heap.size w w' ∧ At w' w.heap.size (.cells #[.int .i64 p, .int .i64 n0, .int .i64 n1, .int .i64 n2, .slice A xs.length cap] 26 (0, 0)) ∧ At w' Wz2.heap.size (.cells #[.int .i64 p, .int .i64 d0, .int .i64 d1, .int .i64 d2, .slice B ys.length cap2] 26 (0, 0))) (S2 := fun w' => True) (by kernel_rfl) ?_
    change wpAnyY _ _ _ _ _ _ _ _ _ _ (World.drew _)
    generalize hwdz25 : World.drew _ = wdz25
    replace hB : Below w.heap.size w wdz25 := by rw [← hwdz25]; exact hB.drew
    replace hz5 : At wdz25 w.heap.size (.cells #[.int .i64 p, .int .i64 n0, .int .i64 n1, .int .i64 n2, .slice A xs.length cap] 26 (0, 0)) := by rw [← hwdz25]; exact hz5
    replace hz11 : At wdz25 Wz2.heap.size (.cells #[.int .i64 p, .int .i64 d0, .int .i64 d1, .int .i64 d2, .slice B ys.length cap2] 26 (0, 0)) := by rw [← hwdz25]; exact hz11
    replace hz18 : At wdz25 Wz8.heap.size (.cells #[.int .i64 0, .int .i64 0, .int .i64 0, .int .i64 0, .slice none 0 0] 26 (0, 0)) := by rw [← hwdz25]; exact hz18
    clear hwdz25
    refine y_yield 0 (some 15) (.agg #[.int .i64 p, .int .i64 n0, .int .i64 n1, .int .i64 n2, .slice A xs.length cap]) rfl (by kernel_rfl) (by kernel_rfl) (by kernel_rfl) (fun _ _ _ h => h) rfl rfl ⟨hB, hz5, hz11⟩ (fun w' h' => exec_load_all 26 _ rfl w.heap.size rfl _ _ _ h'.2.1 Try.underlying26 rfl 5 (by kernel_rfl) rfl) ?_
    go_frame
    refine y_yield 2 (some 17) (.agg #[.int .i64 p, .int .i64 d0, .int .i64 d1, .int .i64 d2, .slice B ys.length cap2]) rfl (by kernel_rfl) (by kernel_rfl) (by kernel_rfl) (fun _ _ _ h => h) rfl rfl ⟨hB, hz5, hz11⟩ (fun w' h' => exec_load_all 26 _ rfl Wz2.heap.size rfl _ _ _ h'.2.2 Try.underlying26 rfl 5 (by kernel_rfl) rfl) ?_
    go_frame
    refine y_two 1 5 (by kernel_rfl) rfl rfl rfl rfl (fun K' hK' => ?_) (fun K' hK' => ?_)
    · have lz28 := hB.size
      have lz29 := hz5.lt
      have lz30 := hz11.lt
      have lz31 := hz18.lt
      refine wp_call1 (some 16) rfl 29 _ _ rfl (fun args w => by kernel_rfl) _ rfl _ (boxOf_c p n0 n1 n2 _ _) (fun e Wz26 h => ?_)
      obtain ⟨rfl, bz27⟩ := h
      replace hB := below_after hB bz27
      replace hz5 := hz5.after bz27
      replace hz11 := hz11.after bz27
      replace hz18 := hz18.after bz27
      clear bz27
      refine ⟨_, rfl, ?_⟩
      refine hK' _ _ ⟨hB, hz5, hz11⟩ (fun _ => trivial) ?_
      clear hK' K'
      go_frame
      refine y_two 3 5 (by kernel_rfl) rfl rfl rfl rfl (fun K' hK' => ?_) (fun K' hK' => ?_)
      · have lz34 := hB.size
        have lz35 := hz5.lt
        have lz36 := hz11.lt
        have lz37 := hz18.lt
        refine wp_call1 (some 18) rfl 29 _ _ rfl (fun args w => by kernel_rfl) _ rfl _ (boxOf_c p d0 d1 d2 _ _) (fun e Wz32 h => ?_)
        obtain ⟨rfl, bz33⟩ := h
        replace hB := below_after hB bz33
        replace hz5 := hz5.after bz33
        replace hz11 := hz11.after bz33
        replace hz18 := hz18.after bz33
        clear bz33
        refine ⟨_, rfl, ?_⟩
        refine hK' _ _ ⟨hB, hz5, hz11⟩ (fun _ => trivial) ?_
        clear hK' K'
        go_frame
        refine y_two 4 5 (by kernel_rfl) rfl rfl rfl rfl (fun K' hK' => ?_) (fun K' hK' => ?_)
        · have lz40 := hB.size
          have lz41 := hz5.lt
          have lz42 := hz11.lt
          have lz43 := hz18.lt
          refine wp_call2 (some 19) rfl 30 _ _ _ rfl (fun args w => by kernel_rfl) _ _ rfl rfl _ (times_c n0 n1 n2 d0 d1 d2 M0 M1 M2 w0 w1' w2' _) (fun e Wz38 h => ?_)
          obtain ⟨rfl, bz39⟩ := h
          replace hB := below_after hB bz39
          replace hz5 := hz5.after bz39
          replace hz11 := hz11.after bz39
          replace hz18 := hz18.after bz39
          clear bz39
          refine ⟨_, rfl, ?_⟩
          refine hK' _ _ ⟨hB, hz5, hz11⟩ (fun _ => trivial) ?_
          clear hK' K'
          go_frame
          refine y_oper 5 (by kernel_rfl) rfl rfl (fun K' hK' => ?_)
          have lz44 := hB.size
          have lz45 := hz5.lt
          have lz46 := hz11.lt
          have lz47 := hz18.lt
          refine wp_new (some 7) rfl (alK_impl_box rfl) (fun Wz48 nnz49 => ?_)
          have bz50 := nnz49.below (Below.refl _ _) (Nat.le_refl _)
          replace hB := below_after hB bz50
          replace hz5 := hz5.after bz50
          replace hz11 := hz11.after bz50
          replace hz18 := hz18.after bz50
          have hz51 : At Wz48 Wz38.heap.size (.cells #[.int .i64 0, .int .i64 0, .int .i64 0] 52 (0, 0)) := nnz49.at_
          refine hK' _ _ ⟨hB, hz5, hz11⟩ (fun _ => trivial) ?_
          clear hK' K' nnz49 bz50
          go_frame
          refine y_oper 6 (by kernel_rfl) rfl rfl (fun K' hK' => ?_)
          refine wp_store_all 52 _ _ rfl rfl Wz38.heap.size rfl #[.int .i64 M0, .int .i64 M1, .int .i64 M2] rfl _ _ hz51 3 (by kernel_rfl) rfl rfl (by intro x hx; simp at hx; rcases hx with rfl | rfl | rfl <;> rfl) (fun Wz52 pz53 => ?_)
          replace hB := pz53.below hB (by omega)
          replace hz5 := pz53.other hz5 (by omega)
          replace hz11 := pz53.other hz11 (by omega)
          replace hz18 := pz53.other hz18 (by omega)
          replace hz51 : At Wz52 Wz38.heap.size (.cells #[.int .i64 M0, .int .i64 M1, .int .i64 M2] 52 (0, 0)) := pz53.at_
          refine hK' _ _ ⟨hB, hz5, hz11⟩ (fun _ => trivial) ?_
          clear hK' K' pz53
          refine y_done (by kernel_rfl) ?_ _
          go_wp2_with fail
          go_meet
          exact ⟨_, rfl, by omega, by omega, by omega, hB, hz5, hz11, hz18, hz51⟩
        · have lz54 := hB.size
          have lz55 := hz5.lt
          have lz56 := hz11.lt
          have lz57 := hz18.lt
          refine wp_new (some 7) rfl (alK_impl_box rfl) (fun Wz58 nnz59 => ?_)
          have bz60 := nnz59.below (Below.refl _ _) (Nat.le_refl _)
          replace hB := below_after hB bz60
          replace hz5 := hz5.after bz60
          replace hz11 := hz11.after bz60
          replace hz18 := hz18.after bz60
          have hz61 : At Wz58 Wz32.heap.size (.cells #[.int .i64 0, .int .i64 0, .int .i64 0] 52 (0, 0)) := nnz59.at_
          refine hK' _ _ ⟨hB, hz5, hz11⟩ (fun _ => trivial) ?_
          clear hK' K' nnz59 bz60
          go_frame
          refine y_oper 4 (by kernel_rfl) rfl rfl (fun K' hK' => ?_)
          have lz64 := hB.size
          have lz65 := hz5.lt
          have lz66 := hz11.lt
          have lz67 := hz18.lt
          have lz68 := hz61.lt
          refine wp_call2 (some 19) rfl 30 _ _ _ rfl (fun args w => by kernel_rfl) _ _ rfl rfl _ (times_c n0 n1 n2 d0 d1 d2 M0 M1 M2 w0 w1' w2' _) (fun e Wz62 h => ?_)
          obtain ⟨rfl, bz63⟩ := h
          replace hB := below_after hB bz63
          replace hz5 := hz5.after bz63
          replace hz11 := hz11.after bz63
          replace hz18 := hz18.after bz63
          replace hz61 := hz61.after bz63
          clear bz63
          refine ⟨_, rfl, ?_⟩
          refine hK' _ _ ⟨hB, hz5, hz11⟩ (fun _ => trivial) ?_
          clear hK' K'
          go_frame
          refine y_oper 6 (by kernel_rfl) rfl rfl (fun K' hK' => ?_)
          refine wp_store_all 52 _ _ rfl rfl Wz32.heap.size rfl #[.int .i64 M0, .int .i64 M1, .int .i64 M2] rfl _ _ hz61 3 (by kernel_rfl) rfl rfl (by intro x hx; simp at hx; rcases hx with rfl | rfl | rfl <;> rfl) (fun Wz69 pz70 => ?_)
          replace hB := pz70.below hB (by omega)
          replace hz5 := pz70.other hz5 (by omega)
          replace hz11 := pz70.other hz11 (by omega)
          replace hz18 := pz70.other hz18 (by omega)
          replace hz61 : At Wz69 Wz32.heap.size (.cells #[.int .i64 M0, .int .i64 M1, .int .i64 M2] 52 (0, 0)) := pz70.at_
          refine hK' _ _ ⟨hB, hz5, hz11⟩ (fun _ => trivial) ?_
          clear hK' K' pz70
          refine y_done (by kernel_rfl) ?_ _
          go_wp2_with fail
          go_meet
          exact ⟨_, rfl, by omega, by omega, by omega, hB, hz5, hz11, hz18, hz61⟩
      · have lz71 := hB.size
        have lz72 := hz5.lt
        have lz73 := hz11.lt
        have lz74 := hz18.lt
        refine wp_new (some 7) rfl (alK_impl_box rfl) (fun Wz75 nnz76 => ?_)
        have bz77 := nnz76.below (Below.refl _ _) (Nat.le_refl _)
        replace hB := below_after hB bz77
        replace hz5 := hz5.after bz77
        replace hz11 := hz11.after bz77
        replace hz18 := hz18.after bz77
        have hz78 : At Wz75 Wz26.heap.size (.cells #[.int .i64 0, .int .i64 0, .int .i64 0] 52 (0, 0)) := nnz76.at_
        refine hK' _ _ ⟨hB, hz5, hz11⟩ (fun _ => trivial) ?_
        clear hK' K' nnz76 bz77
        go_frame
        refine y_oper 3 (by kernel_rfl) rfl rfl (fun K' hK' => ?_)
        have lz81 := hB.size
        have lz82 := hz5.lt
        have lz83 := hz11.lt
        have lz84 := hz18.lt
        have lz85 := hz78.lt
        refine wp_call1 (some 18) rfl 29 _ _ rfl (fun args w => by kernel_rfl) _ rfl _ (boxOf_c p d0 d1 d2 _ _) (fun e Wz79 h => ?_)
        obtain ⟨rfl, bz80⟩ := h
        replace hB := below_after hB bz80
        replace hz5 := hz5.after bz80
        replace hz11 := hz11.after bz80
        replace hz18 := hz18.after bz80
        replace hz78 := hz78.after bz80
        clear bz80
        refine ⟨_, rfl, ?_⟩
        refine hK' _ _ ⟨hB, hz5, hz11⟩ (fun _ => trivial) ?_
        clear hK' K'
        go_frame
        refine y_oper 4 (by kernel_rfl) rfl rfl (fun K' hK' => ?_)
        have lz88 := hB.size
        have lz89 := hz5.lt
        have lz90 := hz11.lt
        have lz91 := hz18.lt
        have lz92 := hz78.lt
        refine wp_call2 (some 19) rfl 30 _ _ _ rfl (fun args w => by kernel_rfl) _ _ rfl rfl _ (times_c n0 n1 n2 d0 d1 d2 M0 M1 M2 w0 w1' w2' _) (fun e Wz86 h => ?_)
        obtain ⟨rfl, bz87⟩ := h
        replace hB := below_after hB bz87
        replace hz5 := hz5.after bz87
        replace hz11 := hz11.after bz87
        replace hz18 := hz18.after bz87
        replace hz78 := hz78.after bz87
        clear bz87
        refine ⟨_, rfl, ?_⟩
        refine hK' _ _ ⟨hB, hz5, hz11⟩ (fun _ => trivial) ?_
        clear hK' K'
        go_frame
        refine y_oper 6 (by kernel_rfl) rfl rfl (fun K' hK' => ?_)
        refine wp_store_all 52 _ _ rfl rfl Wz26.heap.size rfl #[.int .i64 M0, .int .i64 M1, .int .i64 M2] rfl _ _ hz78 3 (by kernel_rfl) rfl rfl (by intro x hx; simp at hx; rcases hx with rfl | rfl | rfl <;> rfl) (fun Wz93 pz94 => ?_)
        replace hB := pz94.below hB (by omega)
        replace hz5 := pz94.other hz5 (by omega)
        replace hz11 := pz94.other hz11 (by omega)
        replace hz18 := pz94.other hz18 (by omega)
        replace hz78 : At Wz93 Wz26.heap.size (.cells #[.int .i64 M0, .int .i64 M1, .int .i64 M2] 52 (0, 0)) := pz94.at_
        refine hK' _ _ ⟨hB, hz5, hz11⟩ (fun _ => trivial) ?_
        clear hK' K' pz94
        refine y_done (by kernel_rfl) ?_ _
        go_wp2_with fail
        go_meet
        exact ⟨_, rfl, by omega, by omega, by omega, hB, hz5, hz11, hz18, hz78⟩
    · have lz95 := hB.size
      have lz96 := hz5.lt
      have lz97 := hz11.lt
      have lz98 := hz18.lt
      refine wp_new (some 7) rfl (alK_impl_box rfl) (fun Wz99 nnz100 => ?_)
      have bz101 := nnz100.below (Below.refl _ _) (Nat.le_refl _)
      replace hB := below_after hB bz101
      replace hz5 := hz5.after bz101
      replace hz11 := hz11.after bz101
      replace hz18 := hz18.after bz101
      have hz102 : At Wz99 wdz25.heap.size (.cells #[.int .i64 0, .int .i64 0, .int .i64 0] 52 (0, 0)) := nnz100.at_
      refine hK' _ _ ⟨hB, hz5, hz11⟩ (fun _ => trivial) ?_
      clear hK' K' nnz100 bz101
      go_frame
      refine y_oper 1 (by kernel_rfl) rfl rfl (fun K' hK' => ?_)
      have lz105 := hB.size
      have lz106 := hz5.lt
      have lz107 := hz11.lt
      have lz108 := hz18.lt
      have lz109 := hz102.lt
      refine wp_call1 (some 16) rfl 29 _ _ rfl (fun args w => by kernel_rfl) _ rfl _ (boxOf_c p n0 n1 n2 _ _) (fun e Wz103 h => ?_)
      obtain ⟨rfl, bz104⟩ := h
      replace hB := below_after hB bz104
      replace hz5 := hz5.after bz104
      replace hz11 := hz11.after bz104
      replace hz18 := hz18.after bz104
      replace hz102 := hz102.after bz104
      clear bz104
      refine ⟨_, rfl, ?_⟩
      refine hK' _ _ ⟨hB, hz5, hz11⟩ (fun _ => trivial) ?_
      clear hK' K'
      go_frame
      refine y_oper 3 (by kernel_rfl) rfl rfl (fun K' hK' => ?_)
      have lz112 := hB.size
      have lz113 := hz5.lt
      have lz114 := hz11.lt
      have lz115 := hz18.lt
      have lz116 := hz102.lt
      refine wp_call1 (some 18) rfl 29 _ _ rfl (fun args w => by kernel_rfl) _ rfl _ (boxOf_c p d0 d1 d2 _ _) (fun e Wz110 h => ?_)
      obtain ⟨rfl, bz111⟩ := h
      replace hB := below_after hB bz111
      replace hz5 := hz5.after bz111
      replace hz11 := hz11.after bz111
      replace hz18 := hz18.after bz111
      replace hz102 := hz102.after bz111
      clear bz111
      refine ⟨_, rfl, ?_⟩
      refine hK' _ _ ⟨hB, hz5, hz11⟩ (fun _ => trivial) ?_
      clear hK' K'
      go_frame
      refine y_oper 4 (by kernel_rfl) rfl rfl (fun K' hK' => ?_)
      have lz119 := hB.size
      have lz120 := hz5.lt
      have lz121 := hz11.lt
      have lz122 := hz18.lt
      have lz123 := hz102.lt
      refine wp_call2 (some 19) rfl 30 _ _ _ rfl (fun args w => by kernel_rfl) _ _ rfl rfl _ (times_c n0 n1 n2 d0 d1 d2 M0 M1 M2 w0 w1' w2' _) (fun e Wz117 h => ?_)
      obtain ⟨rfl, bz118⟩ := h
      replace hB := below_after hB bz118
      replace hz5 := hz5.after bz118
      replace hz11 := hz11.after bz118
      replace hz18 := hz18.after bz118
      replace hz102 := hz102.after bz118
      clear bz118
      refine ⟨_, rfl, ?_⟩
      refine hK' _ _ ⟨hB, hz5, hz11⟩ (fun _ => trivial) ?_
      clear hK' K'
      go_frame
      refine y_oper 6 (by kernel_rfl) rfl rfl (fun K' hK' => ?_)
      refine wp_store_all 52 _ _ rfl rfl wdz25.heap.size rfl #[.int .i64 M0, .int .i64 M1, .int .i64 M2] rfl _ _ hz102 3 (by kernel_rfl) rfl rfl (by intro x hx; simp at hx; rcases hx with rfl | rfl | rfl <;> rfl) (fun Wz124 pz125 => ?_)
      replace hB := pz125.below hB (by omega)
      replace hz5 := pz125.other hz5 (by omega)
      replace hz11 := pz125.other hz11 (by omega)
      replace hz18 := pz125.other hz18 (by omega)
      replace hz102 : At Wz124 wdz25.heap.size (.cells #[.int .i64 M0, .int .i64 M1, .int .i64 M2] 52 (0, 0)) := pz125.at_
      refine hK' _ _ ⟨hB, hz5, hz11⟩ (fun _ => trivial) ?_
      clear hK' K' pz125
      refine y_done (by kernel_rfl) ?_ _
      go_wp2_with fail
      go_meet
      exact ⟨_, rfl, by omega, by omega, by omega, hB, hz5, hz11, hz18, hz102⟩
  case rest =>
  clear hB hz5 hz11 hz18
  obtain ⟨b7, rfl, hb0, hb1, hb2, hB, h0, h1, h2, h7⟩ := hcut
  obtain ⟨wc, rfl⟩ := cut_worldK hB
  go_upto_region 5 with (fail)
  refine wp_region_lit ?_
  refine ls_ex (some 20) (.agg #[.int .i64 M0, .int .i64 M1, .int .i64 M2]) rfl rfl (exec_load_all 52 _ rfl b7 rfl _ _ _ h7 Try.underlying52 rfl 3 (by kernel_rfl) rfl) ?_
  go_frame
  refine ls_op rfl (fun K' hK' => ?_)
  have lz128 := hB.size
  have lz129 := h0.lt
  have lz130 := h1.lt
  have lz131 := h2.lt
  have lz132 := h7.lt
  refine wp_call1 (some 21) rfl 31 _ _ rfl (fun args w => by kernel_rfl) _ rfl _ (isAllowed_c M0 M1 M2 _) (fun e Wz126 h => ?_)
  obtain ⟨rfl, bz127⟩ := h
  replace hB := below_after hB bz127
  replace h0 := h0.after bz127
  replace h1 := h1.after bz127
  replace h2 := h2.after bz127
  replace h7 := h7.after bz127
  rw [Hok.out]
  clear bz127
  refine ⟨_, rfl, ?_⟩
  refine hK' _ _ ?_
  clear hK' K'
  go_frame
  refine ls_ex (some 22) (.bool true) rfl rfl (exec_not _ _ rfl false rfl) ?_
  go_frame
  refine wpList_nil ?_
  go_upto_region 6 with (fail)
  refine wp_region_lit ?_
  refine ls_ex (some 23) (.agg #[.int .i64 0, .int .i64 0, .int .i64 0, .int .i64 0, .slice none 0 0]) rfl rfl (exec_build_nil 26 rfl _ (by kernel_rfl)) ?_
  go_frame
  refine ls_op rfl (fun K' hK' => ?_)
  refine wp_store_all 26 _ _ rfl rfl Wz8.heap.size rfl #[.int .i64 0, .int .i64 0, .int .i64 0, .int .i64 0, .slice none 0 0] rfl _ _ h2 5 (by kernel_rfl) rfl rfl (one5 _ _ _ _ _ _ _) (fun Wz133 pz134 => ?_)
  replace hB := pz134.below hB (by omega)
  replace h0 := pz134.other h0 (by omega)
  replace h1 := pz134.other h1 (by omega)
  replace h7 := pz134.other h7 (by omega)
  replace h2 : At Wz133 Wz8.heap.size (.cells #[.int .i64 0, .int .i64 0, .int .i64 0, .int .i64 0, .slice none 0 0] 26 (0, 0)) := pz134.at_
  refine hK' _ _ ?_
  clear hK' K' pz134
  refine ls_ex (some 5) (.int .i64 3) rfl rfl (exec_assign _ rfl (.int .i64 3) rfl) ?_
  go_frame
  refine wpList_nil ?_
  go_wp2_with fail
  refine bodyPost_ret (results_at2 rfl _ _ Wz8.heap.size _ _ _ rfl _ rfl h2 Try.underlying26 rfl 5 (by kernel_rfl) rfl) rfl ?_
  exact ⟨.slice none 0 0, by rw [Hz.out, Hz.out, Hz.out, Hz.out, Hcode.out]; rfl, by rw [Hr.out]; exact OwnI.nil _ _, hB⟩
set_option maxHeartbeats 6400000 in
theorem implKro_t (p : Int) (n0 n1 n2 d0 d1 d2 : Nat) (A : Option Addr) (cap : Nat) (xs : List Int) (B : Option Addr) (cap2 : Nat) (ys : List Int) (w : World) (hr : RdI w A xs) (hn : xs.length ≤ 1048576) (hs : RdI w B ys) (hm : ys.length ≤ 1048576)
    (htx : tenB p n0 n1 n2 xs = true) (hty : tenB p d0 d1 d2 ys = true) (hok : (sideB ((n0 * d0 : Nat) : Int) && sideB ((n1 * d1 : Nat) : Int) && sideB ((n2 * d2 : Nat) : Int)) = true) :
    Calls Try.prog 10 #[.agg #[.int .i64 p, .int .i64 n0, .int .i64 n1, .int .i64 n2, .slice A xs.length cap], .agg #[.int .i64 p, .int .i64 d0, .int .i64 d1, .int .i64 d2, .slice B ys.length cap2]] w (ResT w (krZ p n0 n1 n2 xs p d0 d1 d2 ys p) (krZ p n0 n1 n2 xs p d0 d1 d2 ys (n0 * d0)) (krZ p n0 n1 n2 xs p d0 d1 d2 ys (n1 * d1)) (krZ p n0 n1 n2 xs p d0 d1 d2 ys (n2 * d2)) (krR p n0 n1 n2 xs p d0 d1 d2 ys) (krCode p n0 n1 n2 xs p d0 d1 d2 ys)) := by
  have hB := Below.refl w.heap.size w
  obtain ⟨p1, p2, a0, a1, a2, hlx, hx⟩ := tenB_n3 htx
  obtain ⟨_, _, c0, c1, c2, hly, hy⟩ := tenB_n3 hty
  have hck : ckCode p n0 n1 n2 xs p d0 d1 d2 ys = 0 := by unfold ckCode; rw [if_pos htx, if_pos hty, if_pos rfl]
  have HCk := Lib.hid (fun w' (hb : Below w.heap.size w w') => checkTensors_c p n0 n1 n2 A cap xs p d0 d1 d2 B cap2 ys w' (hr.keep hb) hn (hs.keep hb) hm)
  obtain ⟨M0, hM0⟩ : ∃ M, M = n0 * d0 := ⟨_, rfl⟩
  obtain ⟨M1, hM1⟩ : ∃ M, M = n1 * d1 := ⟨_, rfl⟩
  obtain ⟨M2, hM2⟩ : ∃ M, M = n2 * d2 := ⟨_, rfl⟩
  rw [← hM0, ← hM1, ← hM2] at hok
  have HM0 : Hid ((n0 : Int) * (d0 : Int) = (M0 : Int)) := Lib.hid (by rw [hM0]; simp)
  have HM1 : Hid ((n1 : Int) * (d1 : Int) = (M1 : Int)) := Lib.hid (by rw [hM1]; simp)
  have HM2 : Hid ((n2 : Int) * (d2 : Int) = (M2 : Int)) := Lib.hid (by rw [hM2]; simp)
  have hM09 : M0 ≤ 81 := by rw [hM0]; exact Nat.mul_le_mul a0.2 c0.2
  have hM19 : M1 ≤ 81 := by rw [hM1]; exact Nat.mul_le_mul a1.2 c1.2
  have hM29 : M2 ≤ 81 := by rw [hM2]; exact Nat.mul_le_mul a2.2 c2.2
  have w0 : IntKind.i64.wrap ((n0 : Int) * (d0 : Int)) = (M0 : Int) := by rw [HM0.out]; exact IntWalk.i64_in _ (by omega)
  have w1' : IntKind.i64.wrap ((n1 : Int) * (d1 : Int)) = (M1 : Int) := by rw [HM1.out]; exact IntWalk.i64_in _ (by omega)
  have w2' : IntKind.i64.wrap ((n2 : Int) * (d2 : Int)) = (M2 : Int) := by rw [HM2.out]; exact IntWalk.i64_in _ (by omega)
  have Hck := Lib.hid hck
  have HPost : Hid ((sideB M0 && sideB M1 && sideB M2) = true → krCode p n0 n1 n2 xs p d0 d1 d2 ys = 0) := Lib.hid (fun h => by unfold krCode; rw [if_pos hck, HM0.out, HM1.out, HM2.out, if_pos h])
  have HNo : Hid ((sideB M0 && sideB M1 && sideB M2) = false → krCode p n0 n1 n2 xs p d0 d1 d2 ys = 3) := Lib.hid (fun h => by unfold krCode; rw [if_pos hck, HM0.out, HM1.out, HM2.out, if_neg (by rw [h]; decide)])
  have HCl := Lib.hid (fun (hok : (sideB M0 && sideB M1 && sideB M2) = true) (gt gu : Nat) (w1 : World) (hb1 : Below w.heap.size w w1) (k1 : At w1 gt (.cells #[.int .i64 p, .int .i64 n0, .int .i64 n1, .int .i64 n2, .slice A xs.length cap] 26 (0, 0))) (k3 : At w1 gu (.cells #[.int .i64 p, .int .i64 d0, .int .i64 d1, .int .i64 d2, .slice B ys.length cap2] 26 (0, 0))) =>
    have s3 : sideB M0 = true ∧ sideB M1 = true ∧ sideB M2 = true := by simpa [Bool.and_eq_true, and_assoc] using hok
    have l0 := sideB_in s3.1
    have l1 := sideB_in s3.2.1
    have l2 := sideB_in s3.2.2
    tensorWithKro_c p M0 M1 M2 gt gu (kroF n1 n2 d0 d1 d2 xs ys) w1 (by omega) s3.1 s3.2.1 s3.2.2 (fun i j k w' hi hj hk hb => ⟨kroF_nonneg hx hy (by omega) i j k, kro1_c p n0 n1 n2 A cap xs B cap2 ys d0 d1 d2 i j k gt gu w' ((hr.keep hb1).keep hb) ((hs.keep hb1).keep hb) hlx a0.2 a1.2 a2.2 (At.after k1 hb) (At.after k3 hb) hly c0 c1 c2 hx hy ⟨p1, p2⟩ (by rw [← hM0]; exact hi) (by rw [← hM1]; exact hj) (by rw [← hM2]; exact hk)⟩))
  have Hcode := Lib.hid (HPost.out hok)
  have Hz : Hid (∀ x, krZ p n0 n1 n2 xs p d0 d1 d2 ys x = x) := Lib.hid (fun x => by simp [krZ, Hcode.out])
  obtain ⟨RL, HRL⟩ : ∃ RL, Hid (genL M1 M2 p (kroF n1 n2 d0 d1 d2 xs ys) (M0 * M1 * M2) = RL) := ⟨_, Lib.hid rfl⟩
  have Hr : Hid (krR p n0 n1 n2 xs p d0 d1 d2 ys = RL) := Lib.hid (by rw [← HRL.out]; unfold krR; rw [if_pos Hcode.out, HM0.out, HM1.out, HM2.out]; simp only [Int.toNat_natCast])
  have HC2 := Lib.hid (HCl.out hok)
  have Hok := Lib.hid hok
  clear hok HPost HNo HCl
  clear hck htx hty hlx hly hx hy hr hs hM0 hM1 hM2
  go_enter Try.func10, Try.ntmps10
  go_upto_region 0 with (fail)
  refine wp_region_lit ?_
  refine ls_op rfl (fun K' hK' => ?_)
  have lz1 := hB.size
  refine wp_new (some 2) rfl (exec_box 26 _ rfl (#[.int .i64 p, .int .i64 n0, .int .i64 n1, .int .i64 n2, .slice A xs.length cap]) rfl) (fun Wz2 nnz3 => ?_)
  have bz4 := nnz3.below (Below.refl _ _) (Nat.le_refl _)
  replace hB := below_after hB bz4
  have hz5 : At Wz2 w.heap.size (.cells #[.int .i64 p, .int .i64 n0, .int .i64 n1, .int .i64 n2, .slice A xs.length cap] 26 (0, 0)) := nnz3.at_
  refine hK' _ _ ?_
  clear hK' K' nnz3 bz4
  go_frame
  refine ls_op rfl (fun K' hK' => ?_)
  have lz6 := hB.size
  have lz7 := hz5.lt
  refine wp_new (some 3) rfl (exec_box 26 _ rfl (#[.int .i64 p, .int .i64 d0, .int .i64 d1, .int .i64 d2, .slice B ys.length cap2]) rfl) (fun Wz8 nnz9 => ?_)
  have bz10 := nnz9.below (Below.refl _ _) (Nat.le_refl _)
  replace hB := below_after hB bz10
  replace hz5 := hz5.after bz10
  have hz11 : At Wz8 Wz2.heap.size (.cells #[.int .i64 p, .int .i64 d0, .int .i64 d1, .int .i64 d2, .slice B ys.length cap2] 26 (0, 0)) := nnz9.at_
  refine hK' _ _ ?_
  clear hK' K' nnz9 bz10
  go_frame
  refine ls_op rfl (fun K' hK' => ?_)
  have lz12 := hB.size
  have lz13 := hz5.lt
  have lz14 := hz11.lt
  refine wp_new (some 4) rfl (alK_impl_Tensor rfl) (fun Wz15 nnz16 => ?_)
  have bz17 := nnz16.below (Below.refl _ _) (Nat.le_refl _)
  replace hB := below_after hB bz17
  replace hz5 := hz5.after bz17
  replace hz11 := hz11.after bz17
  have hz18 : At Wz15 Wz8.heap.size (.cells #[.int .i64 0, .int .i64 0, .int .i64 0, .int .i64 0, .slice none 0 0] 26 (0, 0)) := nnz16.at_
  refine hK' _ _ ?_
  clear hK' K' nnz16 bz17
  go_frame
  refine ls_ex (some 5) (.int .i64 0) rfl rfl (exec_assign _ rfl (.int .i64 0) rfl) ?_
  go_frame
  refine wpList_nil ?_
  go_upto_region 1 with (fail)
  refine wp_region_lit ?_
  refine ls_ex (some 8) (.agg #[.int .i64 p, .int .i64 n0, .int .i64 n1, .int .i64 n2, .slice A xs.length cap]) rfl rfl (exec_load_all 26 _ rfl w.heap.size rfl _ _ _ hz5 Try.underlying26 rfl 5 (by kernel_rfl) rfl) ?_
  go_frame
  refine ls_ex (some 9) (.agg #[.int .i64 p, .int .i64 d0, .int .i64 d1, .int .i64 d2, .slice B ys.length cap2]) rfl rfl (exec_load_all 26 _ rfl Wz2.heap.size rfl _ _ _ hz11 Try.underlying26 rfl 5 (by kernel_rfl) rfl) ?_
  go_frame
  refine ls_op rfl (fun K' hK' => ?_)
  have lz21 := hB.size
  have lz22 := hz5.lt
  have lz23 := hz11.lt
  have lz24 := hz18.lt
  refine wp_call2 (some 10) rfl 28 _ _ _ rfl (fun args w => by kernel_rfl) _ _ rfl rfl _ (HCk.out _ hB) (fun e Wz19 h => ?_)
  obtain ⟨rfl, bz20⟩ := h
  replace hB := below_after hB bz20
  replace hz5 := hz5.after bz20
  replace hz11 := hz11.after bz20
  replace hz18 := hz18.after bz20
  rw [Hck.out]
  clear bz20
  refine ⟨_, rfl, ?_⟩
  refine hK' _ _ ?_
  clear hK' K'
  go_frame
  refine ls_ex (some 6) (.int .i64 0) rfl rfl (exec_assign _ rfl (.int .i64 0) rfl) ?_
  go_frame
  refine wpList_nil ?_
  go_upto_region 2 with (fail)
  refine wp_region_lit ?_
  refine ls_ex (some 11) (.int .i64 0) rfl rfl (exec_move _ rfl (.int .i64 0) rfl) ?_
  go_frame
  refine ls_ex (some 12) (.bool false) rfl rfl (exec_neq _ _ _ _ rfl 0 0 rfl rfl false rfl) ?_
  go_frame
  refine wpList_nil ?_
  go_upto_region 4 with (fail)
  go_cut [7] from 20 to 29 (fun s7 wx => ∃ b7 : Nat, s7 = .pointer (some ⟨b7, 0, none⟩) ∧ w.heap.size < b7 ∧ Wz2.heap.size < b7 ∧ Wz8.heap.size < b7 ∧ Below w.heap.size w wx ∧ At wx w.heap.size (.cells #[.int .i64 p, .int .i64 n0, .int .i64 n1, .int .i64 n2, .slice A xs.length cap] 26 (0, 0)) ∧ At wx Wz2.heap.size (.cells #[.int .i64 p, .int .i64 d0, .int .i64 d1, .int .i64 d2, .slice B ys.length cap2] 26 (0, 0)) ∧ At wx Wz8.heap.size (.cells #[.int .i64 0, .int .i64 0, .int .i64 0, .int .i64 0, .slice none 0 0] 26 (0, 0)) ∧ At wx b7 (.cells #[.int .i64 M0, .int .i64 M1, .int .i64 M2] 52 (0, 0)))
  case first =>
    refine wp_region_y (zs := []) (S := fun w' => Below w.heap.size w w' ∧ At w' w.heap.size (.cells #[.int .i64 p, .int .i64 n0, .int .i64 n1, .int .i64 n2, .slice A xs.length cap] 26 (0, 0)) ∧ At w' Wz2.heap.size (.cells #[.int .i64 p, .int .i64 d0, .int .i64 d1, .int .i64 d2, .slice B ys.length cap2] 26 (0, 0))) (S2 := fun w' => True) (by kernel_rfl) ?_
    change wpAnyY _ _ _ _ _ _ _ _ _ _ (World.drew _)
    generalize hwdz25 : World.drew _ = wdz25
    replace hB : Below w.heap.size w wdz25 := by rw [← hwdz25]; exact hB.drew
    replace hz5 : At wdz25 w.heap.size (.cells #[.int .i64 p, .int .i64 n0, .int .i64 n1, .int .i64 n2, .slice A xs.length cap] 26 (0, 0)) := by rw [← hwdz25]; exact hz5
    replace hz11 : At wdz25 Wz2.heap.size (.cells #[.int .i64 p, .int .i64 d0, .int .i64 d1, .int .i64 d2, .slice B ys.length cap2] 26 (0, 0)) := by rw [← hwdz25]; exact hz11
    replace hz18 : At wdz25 Wz8.heap.size (.cells #[.int .i64 0, .int .i64 0, .int .i64 0, .int .i64 0, .slice none 0 0] 26 (0, 0)) := by rw [← hwdz25]; exact hz18
    clear hwdz25
    refine y_yield 0 (some 15) (.agg #[.int .i64 p, .int .i64 n0, .int .i64 n1, .int .i64 n2, .slice A xs.length cap]) rfl (by kernel_rfl) (by kernel_rfl) (by kernel_rfl) (fun _ _ _ h => h) rfl rfl ⟨hB, hz5, hz11⟩ (fun w' h' => exec_load_all 26 _ rfl w.heap.size rfl _ _ _ h'.2.1 Try.underlying26 rfl 5 (by kernel_rfl) rfl) ?_
    go_frame
    refine y_yield 2 (some 17) (.agg #[.int .i64 p, .int .i64 d0, .int .i64 d1, .int .i64 d2, .slice B ys.length cap2]) rfl (by kernel_rfl) (by kernel_rfl) (by kernel_rfl) (fun _ _ _ h => h) rfl rfl ⟨hB, hz5, hz11⟩ (fun w' h' => exec_load_all 26 _ rfl Wz2.heap.size rfl _ _ _ h'.2.2 Try.underlying26 rfl 5 (by kernel_rfl) rfl) ?_
    go_frame
    refine y_two 1 5 (by kernel_rfl) rfl rfl rfl rfl (fun K' hK' => ?_) (fun K' hK' => ?_)
    · have lz28 := hB.size
      have lz29 := hz5.lt
      have lz30 := hz11.lt
      have lz31 := hz18.lt
      refine wp_call1 (some 16) rfl 29 _ _ rfl (fun args w => by kernel_rfl) _ rfl _ (boxOf_c p n0 n1 n2 _ _) (fun e Wz26 h => ?_)
      obtain ⟨rfl, bz27⟩ := h
      replace hB := below_after hB bz27
      replace hz5 := hz5.after bz27
      replace hz11 := hz11.after bz27
      replace hz18 := hz18.after bz27
      clear bz27
      refine ⟨_, rfl, ?_⟩
      refine hK' _ _ ⟨hB, hz5, hz11⟩ (fun _ => trivial) ?_
      clear hK' K'
      go_frame
      refine y_two 3 5 (by kernel_rfl) rfl rfl rfl rfl (fun K' hK' => ?_) (fun K' hK' => ?_)
      · have lz34 := hB.size
        have lz35 := hz5.lt
        have lz36 := hz11.lt
        have lz37 := hz18.lt
        refine wp_call1 (some 18) rfl 29 _ _ rfl (fun args w => by kernel_rfl) _ rfl _ (boxOf_c p d0 d1 d2 _ _) (fun e Wz32 h => ?_)
        obtain ⟨rfl, bz33⟩ := h
        replace hB := below_after hB bz33
        replace hz5 := hz5.after bz33
        replace hz11 := hz11.after bz33
        replace hz18 := hz18.after bz33
        clear bz33
        refine ⟨_, rfl, ?_⟩
        refine hK' _ _ ⟨hB, hz5, hz11⟩ (fun _ => trivial) ?_
        clear hK' K'
        go_frame
        refine y_two 4 5 (by kernel_rfl) rfl rfl rfl rfl (fun K' hK' => ?_) (fun K' hK' => ?_)
        · have lz40 := hB.size
          have lz41 := hz5.lt
          have lz42 := hz11.lt
          have lz43 := hz18.lt
          refine wp_call2 (some 19) rfl 30 _ _ _ rfl (fun args w => by kernel_rfl) _ _ rfl rfl _ (times_c n0 n1 n2 d0 d1 d2 M0 M1 M2 w0 w1' w2' _) (fun e Wz38 h => ?_)
          obtain ⟨rfl, bz39⟩ := h
          replace hB := below_after hB bz39
          replace hz5 := hz5.after bz39
          replace hz11 := hz11.after bz39
          replace hz18 := hz18.after bz39
          clear bz39
          refine ⟨_, rfl, ?_⟩
          refine hK' _ _ ⟨hB, hz5, hz11⟩ (fun _ => trivial) ?_
          clear hK' K'
          go_frame
          refine y_oper 5 (by kernel_rfl) rfl rfl (fun K' hK' => ?_)
          have lz44 := hB.size
          have lz45 := hz5.lt
          have lz46 := hz11.lt
          have lz47 := hz18.lt
          refine wp_new (some 7) rfl (alK_impl_box rfl) (fun Wz48 nnz49 => ?_)
          have bz50 := nnz49.below (Below.refl _ _) (Nat.le_refl _)
          replace hB := below_after hB bz50
          replace hz5 := hz5.after bz50
          replace hz11 := hz11.after bz50
          replace hz18 := hz18.after bz50
          have hz51 : At Wz48 Wz38.heap.size (.cells #[.int .i64 0, .int .i64 0, .int .i64 0] 52 (0, 0)) := nnz49.at_
          refine hK' _ _ ⟨hB, hz5, hz11⟩ (fun _ => trivial) ?_
          clear hK' K' nnz49 bz50
          go_frame
          refine y_oper 6 (by kernel_rfl) rfl rfl (fun K' hK' => ?_)
          refine wp_store_all 52 _ _ rfl rfl Wz38.heap.size rfl #[.int .i64 M0, .int .i64 M1, .int .i64 M2] rfl _ _ hz51 3 (by kernel_rfl) rfl rfl (by intro x hx; simp at hx; rcases hx with rfl | rfl | rfl <;> rfl) (fun Wz52 pz53 => ?_)
          replace hB := pz53.below hB (by omega)
          replace hz5 := pz53.other hz5 (by omega)
          replace hz11 := pz53.other hz11 (by omega)
          replace hz18 := pz53.other hz18 (by omega)
          replace hz51 : At Wz52 Wz38.heap.size (.cells #[.int .i64 M0, .int .i64 M1, .int .i64 M2] 52 (0, 0)) := pz53.at_
          refine hK' _ _ ⟨hB, hz5, hz11⟩ (fun _ => trivial) ?_
          clear hK' K' pz53
          refine y_done (by kernel_rfl) ?_ _
          go_wp2_with fail
          go_meet
          exact ⟨_, rfl, by omega, by omega, by omega, hB, hz5, hz11, hz18, hz51⟩
        · have lz54 := hB.size
          have lz55 := hz5.lt
          have lz56 := hz11.lt
          have lz57 := hz18.lt
          refine wp_new (some 7) rfl (alK_impl_box rfl) (fun Wz58 nnz59 => ?_)
          have bz60 := nnz59.below (Below.refl _ _) (Nat.le_refl _)
          replace hB := below_after hB bz60
          replace hz5 := hz5.after bz60
          replace hz11 := hz11.after bz60
          replace hz18 := hz18.after bz60
          have hz61 : At Wz58 Wz32.heap.size (.cells #[.int .i64 0, .int .i64 0, .int .i64 0] 52 (0, 0)) := nnz59.at_
          refine hK' _ _ ⟨hB, hz5, hz11⟩ (fun _ => trivial) ?_
          clear hK' K' nnz59 bz60
          go_frame
          refine y_oper 4 (by kernel_rfl) rfl rfl (fun K' hK' => ?_)
          have lz64 := hB.size
          have lz65 := hz5.lt
          have lz66 := hz11.lt
          have lz67 := hz18.lt
          have lz68 := hz61.lt
          refine wp_call2 (some 19) rfl 30 _ _ _ rfl (fun args w => by kernel_rfl) _ _ rfl rfl _ (times_c n0 n1 n2 d0 d1 d2 M0 M1 M2 w0 w1' w2' _) (fun e Wz62 h => ?_)
          obtain ⟨rfl, bz63⟩ := h
          replace hB := below_after hB bz63
          replace hz5 := hz5.after bz63
          replace hz11 := hz11.after bz63
          replace hz18 := hz18.after bz63
          replace hz61 := hz61.after bz63
          clear bz63
          refine ⟨_, rfl, ?_⟩
          refine hK' _ _ ⟨hB, hz5, hz11⟩ (fun _ => trivial) ?_
          clear hK' K'
          go_frame
          refine y_oper 6 (by kernel_rfl) rfl rfl (fun K' hK' => ?_)
          refine wp_store_all 52 _ _ rfl rfl Wz32.heap.size rfl #[.int .i64 M0, .int .i64 M1, .int .i64 M2] rfl _ _ hz61 3 (by kernel_rfl) rfl rfl (by intro x hx; simp at hx; rcases hx with rfl | rfl | rfl <;> rfl) (fun Wz69 pz70 => ?_)
          replace hB := pz70.below hB (by omega)
          replace hz5 := pz70.other hz5 (by omega)
          replace hz11 := pz70.other hz11 (by omega)
          replace hz18 := pz70.other hz18 (by omega)
          replace hz61 : At Wz69 Wz32.heap.size (.cells #[.int .i64 M0, .int .i64 M1, .int .i64 M2] 52 (0, 0)) := pz70.at_
          refine hK' _ _ ⟨hB, hz5, hz11⟩ (fun _ => trivial) ?_
          clear hK' K' pz70
          refine y_done (by kernel_rfl) ?_ _
          go_wp2_with fail
          go_meet
          exact ⟨_, rfl, by omega, by omega, by omega, hB, hz5, hz11, hz18, hz61⟩
      · have lz71 := hB.size
        have lz72 := hz5.lt
        have lz73 := hz11.lt
        have lz74 := hz18.lt
        refine wp_new (some 7) rfl (alK_impl_box rfl) (fun Wz75 nnz76 => ?_)
        have bz77 := nnz76.below (Below.refl _ _) (Nat.le_refl _)
        replace hB := below_after hB bz77
        replace hz5 := hz5.after bz77
        replace hz11 := hz11.after bz77
        replace hz18 := hz18.after bz77
        have hz78 : At Wz75 Wz26.heap.size (.cells #[.int .i64 0, .int .i64 0, .int .i64 0] 52 (0, 0)) := nnz76.at_
        refine hK' _ _ ⟨hB, hz5, hz11⟩ (fun _ => trivial) ?_
        clear hK' K' nnz76 bz77
        go_frame
        refine y_oper 3 (by kernel_rfl) rfl rfl (fun K' hK' => ?_)
        have lz81 := hB.size
        have lz82 := hz5.lt
        have lz83 := hz11.lt
        have lz84 := hz18.lt
        have lz85 := hz78.lt
        refine wp_call1 (some 18) rfl 29 _ _ rfl (fun args w => by kernel_rfl) _ rfl _ (boxOf_c p d0 d1 d2 _ _) (fun e Wz79 h => ?_)
        obtain ⟨rfl, bz80⟩ := h
        replace hB := below_after hB bz80
        replace hz5 := hz5.after bz80
        replace hz11 := hz11.after bz80
        replace hz18 := hz18.after bz80
        replace hz78 := hz78.after bz80
        clear bz80
        refine ⟨_, rfl, ?_⟩
        refine hK' _ _ ⟨hB, hz5, hz11⟩ (fun _ => trivial) ?_
        clear hK' K'
        go_frame
        refine y_oper 4 (by kernel_rfl) rfl rfl (fun K' hK' => ?_)
        have lz88 := hB.size
        have lz89 := hz5.lt
        have lz90 := hz11.lt
        have lz91 := hz18.lt
        have lz92 := hz78.lt
        refine wp_call2 (some 19) rfl 30 _ _ _ rfl (fun args w => by kernel_rfl) _ _ rfl rfl _ (times_c n0 n1 n2 d0 d1 d2 M0 M1 M2 w0 w1' w2' _) (fun e Wz86 h => ?_)
        obtain ⟨rfl, bz87⟩ := h
        replace hB := below_after hB bz87
        replace hz5 := hz5.after bz87
        replace hz11 := hz11.after bz87
        replace hz18 := hz18.after bz87
        replace hz78 := hz78.after bz87
        clear bz87
        refine ⟨_, rfl, ?_⟩
        refine hK' _ _ ⟨hB, hz5, hz11⟩ (fun _ => trivial) ?_
        clear hK' K'
        go_frame
        refine y_oper 6 (by kernel_rfl) rfl rfl (fun K' hK' => ?_)
        refine wp_store_all 52 _ _ rfl rfl Wz26.heap.size rfl #[.int .i64 M0, .int .i64 M1, .int .i64 M2] rfl _ _ hz78 3 (by kernel_rfl) rfl rfl (by intro x hx; simp at hx; rcases hx with rfl | rfl | rfl <;> rfl) (fun Wz93 pz94 => ?_)
        replace hB := pz94.below hB (by omega)
        replace hz5 := pz94.other hz5 (by omega)
        replace hz11 := pz94.other hz11 (by omega)
        replace hz18 := pz94.other hz18 (by omega)
        replace hz78 : At Wz93 Wz26.heap.size (.cells #[.int .i64 M0, .int .i64 M1, .int .i64 M2] 52 (0, 0)) := pz94.at_
        refine hK' _ _ ⟨hB, hz5, hz11⟩ (fun _ => trivial) ?_
        clear hK' K' pz94
        refine y_done (by kernel_rfl) ?_ _
        go_wp2_with fail
        go_meet
        exact ⟨_, rfl, by omega, by omega, by omega, hB, hz5, hz11, hz18, hz78⟩
    · have lz95 := hB.size
      have lz96 := hz5.lt
      have lz97 := hz11.lt
      have lz98 := hz18.lt
      refine wp_new (some 7) rfl (alK_impl_box rfl) (fun Wz99 nnz100 => ?_)
      have bz101 := nnz100.below (Below.refl _ _) (Nat.le_refl _)
      replace hB := below_after hB bz101
      replace hz5 := hz5.after bz101
      replace hz11 := hz11.after bz101
      replace hz18 := hz18.after bz101
      have hz102 : At Wz99 wdz25.heap.size (.cells #[.int .i64 0, .int .i64 0, .int .i64 0] 52 (0, 0)) := nnz100.at_
      refine hK' _ _ ⟨hB, hz5, hz11⟩ (fun _ => trivial) ?_
      clear hK' K' nnz100 bz101
      go_frame
      refine y_oper 1 (by kernel_rfl) rfl rfl (fun K' hK' => ?_)
      have lz105 := hB.size
      have lz106 := hz5.lt
      have lz107 := hz11.lt
      have lz108 := hz18.lt
      have lz109 := hz102.lt
      refine wp_call1 (some 16) rfl 29 _ _ rfl (fun args w => by kernel_rfl) _ rfl _ (boxOf_c p n0 n1 n2 _ _) (fun e Wz103 h => ?_)
      obtain ⟨rfl, bz104⟩ := h
      replace hB := below_after hB bz104
      replace hz5 := hz5.after bz104
      replace hz11 := hz11.after bz104
      replace hz18 := hz18.after bz104
      replace hz102 := hz102.after bz104
      clear bz104
      refine ⟨_, rfl, ?_⟩
      refine hK' _ _ ⟨hB, hz5, hz11⟩ (fun _ => trivial) ?_
      clear hK' K'
      go_frame
      refine y_oper 3 (by kernel_rfl) rfl rfl (fun K' hK' => ?_)
      have lz112 := hB.size
      have lz113 := hz5.lt
      have lz114 := hz11.lt
      have lz115 := hz18.lt
      have lz116 := hz102.lt
      refine wp_call1 (some 18) rfl 29 _ _ rfl (fun args w => by kernel_rfl) _ rfl _ (boxOf_c p d0 d1 d2 _ _) (fun e Wz110 h => ?_)
      obtain ⟨rfl, bz111⟩ := h
      replace hB := below_after hB bz111
      replace hz5 := hz5.after bz111
      replace hz11 := hz11.after bz111
      replace hz18 := hz18.after bz111
      replace hz102 := hz102.after bz111
      clear bz111
      refine ⟨_, rfl, ?_⟩
      refine hK' _ _ ⟨hB, hz5, hz11⟩ (fun _ => trivial) ?_
      clear hK' K'
      go_frame
      refine y_oper 4 (by kernel_rfl) rfl rfl (fun K' hK' => ?_)
      have lz119 := hB.size
      have lz120 := hz5.lt
      have lz121 := hz11.lt
      have lz122 := hz18.lt
      have lz123 := hz102.lt
      refine wp_call2 (some 19) rfl 30 _ _ _ rfl (fun args w => by kernel_rfl) _ _ rfl rfl _ (times_c n0 n1 n2 d0 d1 d2 M0 M1 M2 w0 w1' w2' _) (fun e Wz117 h => ?_)
      obtain ⟨rfl, bz118⟩ := h
      replace hB := below_after hB bz118
      replace hz5 := hz5.after bz118
      replace hz11 := hz11.after bz118
      replace hz18 := hz18.after bz118
      replace hz102 := hz102.after bz118
      clear bz118
      refine ⟨_, rfl, ?_⟩
      refine hK' _ _ ⟨hB, hz5, hz11⟩ (fun _ => trivial) ?_
      clear hK' K'
      go_frame
      refine y_oper 6 (by kernel_rfl) rfl rfl (fun K' hK' => ?_)
      refine wp_store_all 52 _ _ rfl rfl wdz25.heap.size rfl #[.int .i64 M0, .int .i64 M1, .int .i64 M2] rfl _ _ hz102 3 (by kernel_rfl) rfl rfl (by intro x hx; simp at hx; rcases hx with rfl | rfl | rfl <;> rfl) (fun Wz124 pz125 => ?_)
      replace hB := pz125.below hB (by omega)
      replace hz5 := pz125.other hz5 (by omega)
      replace hz11 := pz125.other hz11 (by omega)
      replace hz18 := pz125.other hz18 (by omega)
      replace hz102 : At Wz124 wdz25.heap.size (.cells #[.int .i64 M0, .int .i64 M1, .int .i64 M2] 52 (0, 0)) := pz125.at_
      refine hK' _ _ ⟨hB, hz5, hz11⟩ (fun _ => trivial) ?_
      clear hK' K' pz125
      refine y_done (by kernel_rfl) ?_ _
      go_wp2_with fail
      go_meet
      exact ⟨_, rfl, by omega, by omega, by omega, hB, hz5, hz11, hz18, hz102⟩
  case rest =>
  clear hB hz5 hz11 hz18
  obtain ⟨b7, rfl, hb0, hb1, hb2, hB, h0, h1, h2, h7⟩ := hcut
  obtain ⟨wc, rfl⟩ := cut_worldK hB
  go_upto_region 5 with (fail)
  refine wp_region_lit ?_
  refine ls_ex (some 20) (.agg #[.int .i64 M0, .int .i64 M1, .int .i64 M2]) rfl rfl (exec_load_all 52 _ rfl b7 rfl _ _ _ h7 Try.underlying52 rfl 3 (by kernel_rfl) rfl) ?_
  go_frame
  refine ls_op rfl (fun K' hK' => ?_)
  have lz128 := hB.size
  have lz129 := h0.lt
  have lz130 := h1.lt
  have lz131 := h2.lt
  have lz132 := h7.lt
  refine wp_call1 (some 21) rfl 31 _ _ rfl (fun args w => by kernel_rfl) _ rfl _ (isAllowed_c M0 M1 M2 _) (fun e Wz126 h => ?_)
  obtain ⟨rfl, bz127⟩ := h
  replace hB := below_after hB bz127
  replace h0 := h0.after bz127
  replace h1 := h1.after bz127
  replace h2 := h2.after bz127
  replace h7 := h7.after bz127
  rw [Hok.out]
  clear bz127
  refine ⟨_, rfl, ?_⟩
  refine hK' _ _ ?_
  clear hK' K'
  go_frame
  refine ls_ex (some 22) (.bool false) rfl rfl (exec_not _ _ rfl true rfl) ?_
  go_frame
  refine wpList_nil ?_
  go_upto_region 7 with (fail)
  refine wp_region_lit ?_
  refine ls_ex (some 24) (.pointer (some ⟨w.heap.size, 0, none⟩)) rfl rfl (exec_fieldAddr 26 _ 0 rfl _ (by kernel_rfl)) ?_
  go_frame
  refine ls_ex (some 25) (.int .i64 p) rfl rfl (exec_load_one 2 _ rfl w.heap.size 0 rfl (.int .i64 p) _ Try.underlying2 rfl (h0.at_ 0)) ?_
  go_frame
  refine ls_ex (some 26) (.agg #[.int .i64 M0, .int .i64 M1, .int .i64 M2]) rfl rfl (exec_load_all 52 _ rfl b7 rfl _ _ _ h7 Try.underlying52 rfl 3 (by kernel_rfl) rfl) ?_
  go_frame
  refine ls_ex (some 27) (.func (.func 33) #[] #[.pointer (some ⟨w.heap.size, 0, none⟩), .pointer (some ⟨Wz2.heap.size, 0, none⟩)]) rfl rfl (exec_mkfn2 _ _ _ rfl _ _ rfl rfl) ?_
  go_frame
  refine ls_op rfl (fun K' hK' => ?_)
  have lz135 := hB.size
  have lz136 := h0.lt
  have lz137 := h1.lt
  have lz138 := h2.lt
  have lz139 := h7.lt
  skip
  refine wp_call3 (some 28) rfl 32 _ _ _ _ rfl (fun args w => by kernel_rfl) _ _ _ rfl rfl rfl _ (HC2.out _ _ _ hB h0 h1) (fun e Wz133 h => ?_)
  obtain ⟨v5, rfl, ho, bz134⟩ := h
  replace hB := below_after hB bz134
  replace h0 := h0.after bz134
  replace h1 := h1.after bz134
  replace h2 := h2.after bz134
  replace h7 := h7.after bz134
  rw [HRL.out] at ho
  obtain ⟨A5, c5, rfl, _⟩ := ho.rd
  clear bz134
  refine ⟨_, rfl, ?_⟩
  refine hK' _ _ ?_
  clear hK' K'
  go_frame
  refine ls_op rfl (fun K' hK' => ?_)
  refine wp_store_all 26 _ _ rfl rfl Wz8.heap.size rfl #[.int .i64 p, .int .i64 M0, .int .i64 M1, .int .i64 M2, .slice A5 RL.length c5] rfl _ _ h2 5 (by kernel_rfl) rfl rfl (one5 _ _ _ _ _ _ _) (fun Wz140 pz141 => ?_)
  replace hB := pz141.below hB (by omega)
  replace h0 := pz141.other h0 (by omega)
  replace h1 := pz141.other h1 (by omega)
  replace h7 := pz141.other h7 (by omega)
  replace ho := ho.put pz141 (ho.ne_lt (by omega))
  replace h2 : At Wz140 Wz8.heap.size (.cells #[.int .i64 p, .int .i64 M0, .int .i64 M1, .int .i64 M2, .slice A5 RL.length c5] 26 (0, 0)) := pz141.at_
  refine hK' _ _ ?_
  clear hK' K' pz141
  refine ls_ex (some 5) (.int .i64 0) rfl rfl (exec_assign _ rfl (.int .i64 0) rfl) ?_
  go_frame
  refine wpList_nil ?_
  go_wp2_with fail
  refine bodyPost_ret (results_at2 rfl _ _ Wz8.heap.size _ _ _ rfl _ rfl h2 Try.underlying26 rfl 5 (by kernel_rfl) rfl) rfl ?_
  exact ⟨_, by rw [Hz.out, Hz.out, Hz.out, Hz.out, HM0.out, HM1.out, HM2.out, Hcode.out]; rfl, by rw [Hr.out]; exact ho.mono (by omega), hB⟩
end
theorem implKro_y (p : Int) (n0 n1 n2 d0 d1 d2 : Nat) (A : Option Addr) (cap : Nat) (xs : List Int) (B : Option Addr) (cap2 : Nat) (ys : List Int) (w : World) (hr : RdI w A xs) (hn : xs.length ≤ 1048576) (hs : RdI w B ys) (hm : ys.length ≤ 1048576)
    (htx : tenB p n0 n1 n2 xs = true) (hty : tenB p d0 d1 d2 ys = true) :
    Calls Try.prog 10 #[.agg #[.int .i64 p, .int .i64 n0, .int .i64 n1, .int .i64 n2, .slice A xs.length cap], .agg #[.int .i64 p, .int .i64 d0, .int .i64 d1, .int .i64 d2, .slice B ys.length cap2]] w (ResT w (krZ p n0 n1 n2 xs p d0 d1 d2 ys p) (krZ p n0 n1 n2 xs p d0 d1 d2 ys (n0 * d0)) (krZ p n0 n1 n2 xs p d0 d1 d2 ys (n1 * d1)) (krZ p n0 n1 n2 xs p d0 d1 d2 ys (n2 * d2)) (krR p n0 n1 n2 xs p d0 d1 d2 ys) (krCode p n0 n1 n2 xs p d0 d1 d2 ys)) := by
  rcases Bool.eq_false_or_eq_true (sideB ((n0 * d0 : Nat) : Int) && sideB ((n1 * d1 : Nat) : Int) && sideB ((n2 * d2 : Nat) : Int)) with h | h
  · exact implKro_t p n0 n1 n2 d0 d1 d2 A cap xs B cap2 ys w hr hn hs hm htx hty h
  · exact implKro_f p n0 n1 n2 d0 d1 d2 A cap xs B cap2 ys w hr hn hs hm htx hty h
theorem implKroneckerTensors_c (p a b c : Int) (A : Option Addr) (cap : Nat) (xs : List Int) (q d e f : Int) (B : Option Addr) (cap2 : Nat) (ys : List Int) (w : World) (hr : RdI w A xs) (hn : xs.length ≤ 1048576) (hs : RdI w B ys) (hm : ys.length ≤ 1048576) :
    Calls Try.prog 10 #[.agg #[.int .i64 p, .int .i64 a, .int .i64 b, .int .i64 c, .slice A xs.length cap], .agg #[.int .i64 q, .int .i64 d, .int .i64 e, .int .i64 f, .slice B ys.length cap2]] w (ResT w (krZ p a b c xs q d e f ys p) (krZ p a b c xs q d e f ys (a * d)) (krZ p a b c xs q d e f ys (b * e)) (krZ p a b c xs q d e f ys (c * f)) (krR p a b c xs q d e f ys) (krCode p a b c xs q d e f ys)) := by
  rcases ckCode_cases p a b c xs q d e f ys with h | h | ⟨h, hx, hy, rfl⟩
  · exact implKro_a p a b c A cap xs q d e f B cap2 ys w hr hn hs hm h
  · exact implKro_b p a b c A cap xs q d e f B cap2 ys w hr hn hs hm h
  · obtain ⟨_, s0, s1, s2, _, _⟩ := tenB_parts hx
    obtain ⟨_, t0, t1, t2, _, _⟩ := tenB_parts hy
    obtain ⟨n0, rfl⟩ := Int.eq_ofNat_of_zero_le (show 0 ≤ a by have := sideB_in s0; omega)
    obtain ⟨n1, rfl⟩ := Int.eq_ofNat_of_zero_le (show 0 ≤ b by have := sideB_in s1; omega)
    obtain ⟨n2, rfl⟩ := Int.eq_ofNat_of_zero_le (show 0 ≤ c by have := sideB_in s2; omega)
    obtain ⟨d0, rfl⟩ := Int.eq_ofNat_of_zero_le (show 0 ≤ d by have := sideB_in t0; omega)
    obtain ⟨d1, rfl⟩ := Int.eq_ofNat_of_zero_le (show 0 ≤ e by have := sideB_in t1; omega)
    obtain ⟨d2, rfl⟩ := Int.eq_ofNat_of_zero_le (show 0 ≤ f by have := sideB_in t2; omega)
    exact implKro_y p n0 n1 n2 d0 d1 d2 A cap xs B cap2 ys w hr hn hs hm hx hy
end Go.Proofs.Ytcmpeoijedddjaa
