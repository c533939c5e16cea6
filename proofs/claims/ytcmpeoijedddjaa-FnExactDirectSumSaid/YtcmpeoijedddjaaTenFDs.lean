/-
  impl.DirectSum. (Made by mktenf.py.)
-/
import Derived.Test.YtcmpeoijedddjaaTen7Ds
import Derived.Test.YtcmpeoijedddjaaTenC
namespace Go.Proofs.Ytcmpeoijedddjaa
open Go.RowKit
set_option maxRecDepth 100000
def dsCode (p a b c : Int) (xs : List Int) (q d e f : Int) (ys : List Int) : Int :=
  if ckCode p a b c xs q d e f ys = 0 then (if (sideB (a + d) && sideB (b + e) && sideB (c + f)) = true then 0 else 3) else ckCode p a b c xs q d e f ys
def dsZ (p a b c : Int) (xs : List Int) (q d e f : Int) (ys : List Int) (x : Int) : Int := if dsCode p a b c xs q d e f ys = 0 then x else 0
def dsR (p a b c : Int) (xs : List Int) (q d e f : Int) (ys : List Int) : List Int := if dsCode p a b c xs q d e f ys = 0 then genL (b + e).toNat (c + f).toNat p (dsF a.toNat b.toNat c.toNat d.toNat e.toNat f.toNat xs ys) ((a + d).toNat * (b + e).toNat * (c + f).toNat) else []

set_option maxHeartbeats 1600000 in
theorem implDs_a (p a b c : Int) (A : Option Addr) (cap : Nat) (xs : List Int) (q d e f : Int) (B : Option Addr) (cap2 : Nat) (ys : List Int) (w : World) (hr : RdI w A xs) (hn : xs.length ≤ 1048576) (hs : RdI w B ys) (hm : ys.length ≤ 1048576) (hck : ckCode p a b c xs q d e f ys = 1) :
    Calls Try.prog 15 #[.agg #[.int .i64 p, .int .i64 a, .int .i64 b, .int .i64 c, .slice A xs.length cap], .agg #[.int .i64 q, .int .i64 d, .int .i64 e, .int .i64 f, .slice B ys.length cap2]] w (ResT w (dsZ p a b c xs q d e f ys p) (dsZ p a b c xs q d e f ys (a + d)) (dsZ p a b c xs q d e f ys (b + e)) (dsZ p a b c xs q d e f ys (c + f)) (dsR p a b c xs q d e f ys) (dsCode p a b c xs q d e f ys)) := by
  have HCk := Lib.hid (fun w' (hb : Below w.heap.size w w') => checkTensors_c p a b c A cap xs q d e f B cap2 ys w' (hr.keep hb) hn (hs.keep hb) hm)
  have Hcode : Hid (dsCode p a b c xs q d e f ys = 1) := Lib.hid (by simp [dsCode, hck])
  have Hz : Hid (∀ x, dsZ p a b c xs q d e f ys x = 0) := Lib.hid (fun x => by simp [dsZ, Hcode.out])
  have Hr : Hid (dsR p a b c xs q d e f ys = []) := Lib.hid (by simp [dsR, Hcode.out])
  have Hck := Lib.hid hck
  clear hck
  go_enter Try.func15, Try.ntmps15
  go_wp2_with (first | (refine wpList_abs3 ?_; intro W hsz hB h0 h1 h2; have z0 : W.heap.size = w.heap.size + 1 + 1 + 1 := hsz; clear hsz) | (refine wpList_load_all rfl 26 _ rfl w.heap.size rfl _ _ _ h0 Try.underlying26 rfl 5 (by kernel_rfl) rfl ?_) | (refine wpList_load_all rfl 26 _ rfl (w.heap.size + 1) rfl _ _ _ h1 Try.underlying26 rfl 5 (by kernel_rfl) rfl ?_))
  refine (HCk.out _ hB).mono ?_
  rintro e0 w1 ⟨rfl, b1⟩
  replace hB := below_after hB b1
  replace h0 := h0.after b1
  replace h1 := h1.after b1
  replace h2 := h2.after b1
  have z1 : w.heap.size + 1 + 1 + 1 ≤ w1.heap.size := by have := b1.size; omega
  clear b1 z0
  rw [Hck.out]
  go_wp2_with (refine wpList_store_all rfl 26 _ _ rfl rfl (w.heap.size + 1 + 1) rfl #[.int .i64 0, .int .i64 0, .int .i64 0, .int .i64 0, .slice none 0 0] rfl _ _ h2 5 (by kernel_rfl) rfl rfl (by simp [Value.oneCell']) ?_; intro w7 p7)
  refine bodyPost_ret (results_at2 rfl _ _ (w.heap.size + 1 + 1) _ _ _ rfl _ rfl p7.at_ Try.underlying26 rfl 5 (by kernel_rfl) rfl) rfl ?_
  exact ⟨.slice none 0 0, by rw [Hz.out, Hz.out, Hz.out, Hz.out, Hcode.out]; rfl, by rw [Hr.out]; exact OwnI.nil _ _, p7.below hB (by omega)⟩

set_option maxHeartbeats 1600000 in
theorem implDs_b (p a b c : Int) (A : Option Addr) (cap : Nat) (xs : List Int) (q d e f : Int) (B : Option Addr) (cap2 : Nat) (ys : List Int) (w : World) (hr : RdI w A xs) (hn : xs.length ≤ 1048576) (hs : RdI w B ys) (hm : ys.length ≤ 1048576) (hck : ckCode p a b c xs q d e f ys = 2) :
    Calls Try.prog 15 #[.agg #[.int .i64 p, .int .i64 a, .int .i64 b, .int .i64 c, .slice A xs.length cap], .agg #[.int .i64 q, .int .i64 d, .int .i64 e, .int .i64 f, .slice B ys.length cap2]] w (ResT w (dsZ p a b c xs q d e f ys p) (dsZ p a b c xs q d e f ys (a + d)) (dsZ p a b c xs q d e f ys (b + e)) (dsZ p a b c xs q d e f ys (c + f)) (dsR p a b c xs q d e f ys) (dsCode p a b c xs q d e f ys)) := by
  have HCk := Lib.hid (fun w' (hb : Below w.heap.size w w') => checkTensors_c p a b c A cap xs q d e f B cap2 ys w' (hr.keep hb) hn (hs.keep hb) hm)
  have Hcode : Hid (dsCode p a b c xs q d e f ys = 2) := Lib.hid (by simp [dsCode, hck])
  have Hz : Hid (∀ x, dsZ p a b c xs q d e f ys x = 0) := Lib.hid (fun x => by simp [dsZ, Hcode.out])
  have Hr : Hid (dsR p a b c xs q d e f ys = []) := Lib.hid (by simp [dsR, Hcode.out])
  have Hck := Lib.hid hck
  clear hck
  go_enter Try.func15, Try.ntmps15
  go_wp2_with (first | (refine wpList_abs3 ?_; intro W hsz hB h0 h1 h2; have z0 : W.heap.size = w.heap.size + 1 + 1 + 1 := hsz; clear hsz) | (refine wpList_load_all rfl 26 _ rfl w.heap.size rfl _ _ _ h0 Try.underlying26 rfl 5 (by kernel_rfl) rfl ?_) | (refine wpList_load_all rfl 26 _ rfl (w.heap.size + 1) rfl _ _ _ h1 Try.underlying26 rfl 5 (by kernel_rfl) rfl ?_))
  refine (HCk.out _ hB).mono ?_
  rintro e0 w1 ⟨rfl, b1⟩
  replace hB := below_after hB b1
  replace h0 := h0.after b1
  replace h1 := h1.after b1
  replace h2 := h2.after b1
  have z1 : w.heap.size + 1 + 1 + 1 ≤ w1.heap.size := by have := b1.size; omega
  clear b1 z0
  rw [Hck.out]
  go_wp2_with (refine wpList_store_all rfl 26 _ _ rfl rfl (w.heap.size + 1 + 1) rfl #[.int .i64 0, .int .i64 0, .int .i64 0, .int .i64 0, .slice none 0 0] rfl _ _ h2 5 (by kernel_rfl) rfl rfl (by simp [Value.oneCell']) ?_; intro w7 p7)
  refine bodyPost_ret (results_at2 rfl _ _ (w.heap.size + 1 + 1) _ _ _ rfl _ rfl p7.at_ Try.underlying26 rfl 5 (by kernel_rfl) rfl) rfl ?_
  exact ⟨.slice none 0 0, by rw [Hz.out, Hz.out, Hz.out, Hz.out, Hcode.out]; rfl, by rw [Hr.out]; exact OwnI.nil _ _, p7.below hB (by omega)⟩

set_option maxHeartbeats 3200000 in
theorem implDs_y (p : Int) (n0 n1 n2 d0 d1 d2 : Nat) (A : Option Addr) (cap : Nat) (xs : List Int) (B : Option Addr) (cap2 : Nat) (ys : List Int) (w : World) (hr : RdI w A xs) (hn : xs.length ≤ 1048576) (hs : RdI w B ys) (hm : ys.length ≤ 1048576)
    (htx : tenB p n0 n1 n2 xs = true) (hty : tenB p d0 d1 d2 ys = true) :
    Calls Try.prog 15 #[.agg #[.int .i64 p, .int .i64 n0, .int .i64 n1, .int .i64 n2, .slice A xs.length cap], .agg #[.int .i64 p, .int .i64 d0, .int .i64 d1, .int .i64 d2, .slice B ys.length cap2]] w (ResT w (dsZ p n0 n1 n2 xs p d0 d1 d2 ys p) (dsZ p n0 n1 n2 xs p d0 d1 d2 ys (n0 + d0)) (dsZ p n0 n1 n2 xs p d0 d1 d2 ys (n1 + d1)) (dsZ p n0 n1 n2 xs p d0 d1 d2 ys (n2 + d2)) (dsR p n0 n1 n2 xs p d0 d1 d2 ys) (dsCode p n0 n1 n2 xs p d0 d1 d2 ys)) := by
  obtain ⟨p1, p2, a0, a1, a2, hlx, hx⟩ := tenB_n3 htx
  obtain ⟨_, _, c0, c1, c2, hly, hy⟩ := tenB_n3 hty
  have hck : ckCode p n0 n1 n2 xs p d0 d1 d2 ys = 0 := by unfold ckCode; rw [if_pos htx, if_pos hty, if_pos rfl]
  have HCk := Lib.hid (fun w' (hb : Below w.heap.size w w') => checkTensors_c p n0 n1 n2 A cap xs p d0 d1 d2 B cap2 ys w' (hr.keep hb) hn (hs.keep hb) hm)
  obtain ⟨M0, hM0⟩ : ∃ M, M = n0 + d0 := ⟨_, rfl⟩
  obtain ⟨M1, hM1⟩ : ∃ M, M = n1 + d1 := ⟨_, rfl⟩
  obtain ⟨M2, hM2⟩ : ∃ M, M = n2 + d2 := ⟨_, rfl⟩
  have HM0 : Hid ((n0 : Int) + (d0 : Int) = (M0 : Int)) := Lib.hid (by rw [hM0]; simp)
  have HM1 : Hid ((n1 : Int) + (d1 : Int) = (M1 : Int)) := Lib.hid (by rw [hM1]; simp)
  have HM2 : Hid ((n2 : Int) + (d2 : Int) = (M2 : Int)) := Lib.hid (by rw [hM2]; simp)
  have hM09 : M0 ≤ 81 := by omega
  have hM19 : M1 ≤ 81 := by omega
  have hM29 : M2 ≤ 81 := by omega
  have w0 : IntKind.i64.wrap ((n0 : Int) + (d0 : Int)) = (M0 : Int) := by rw [HM0.out]; exact IntWalk.i64_in _ (by omega)
  have w1' : IntKind.i64.wrap ((n1 : Int) + (d1 : Int)) = (M1 : Int) := by rw [HM1.out]; exact IntWalk.i64_in _ (by omega)
  have w2' : IntKind.i64.wrap ((n2 : Int) + (d2 : Int)) = (M2 : Int) := by rw [HM2.out]; exact IntWalk.i64_in _ (by omega)
  have Hck := Lib.hid hck
  have HPost : Hid ((sideB M0 && sideB M1 && sideB M2) = true → dsCode p n0 n1 n2 xs p d0 d1 d2 ys = 0) := Lib.hid (fun h => by unfold dsCode; rw [if_pos hck, HM0.out, HM1.out, HM2.out, if_pos h])
  have HNo : Hid ((sideB M0 && sideB M1 && sideB M2) = false → dsCode p n0 n1 n2 xs p d0 d1 d2 ys = 3) := Lib.hid (fun h => by unfold dsCode; rw [if_pos hck, HM0.out, HM1.out, HM2.out, if_neg (by rw [h]; decide)])
  have HCl := Lib.hid (fun (hok : (sideB M0 && sideB M1 && sideB M2) = true) (gt gu : Nat) (w1 : World) (hb1 : Below w.heap.size w w1) (k1 : At w1 gt (.cells #[.int .i64 p, .int .i64 n0, .int .i64 n1, .int .i64 n2, .slice A xs.length cap] 26 (0, 0))) (k3 : At w1 gu (.cells #[.int .i64 p, .int .i64 d0, .int .i64 d1, .int .i64 d2, .slice B ys.length cap2] 26 (0, 0))) =>
    have s3 : sideB M0 = true ∧ sideB M1 = true ∧ sideB M2 = true := by simpa [Bool.and_eq_true, and_assoc] using hok
    have l0 := sideB_in s3.1
    have l1 := sideB_in s3.2.1
    have l2 := sideB_in s3.2.2
    tensorWithDs_c p M0 M1 M2 gt gu (dsF n0 n1 n2 d0 d1 d2 xs ys) w1 (by omega) s3.1 s3.2.1 s3.2.2 (fun i j k w' hi hj hk hb => ⟨(dsF_nonneg hx hy (by omega) i j k).1, ds1_c p n0 n1 n2 A cap xs B cap2 ys d0 d1 d2 i j k gt gu w' ((hr.keep hb1).keep hb) ((hs.keep hb1).keep hb) hlx a0.2 a1.2 a2.2 (At.after k1 hb) (At.after k3 hb) hly c0 c1 c2 hx hy ⟨p1, p2⟩ (by omega) (by omega) (by omega)⟩))
  clear hck htx hty hlx hly hx hy hr hs hM0 hM1 hM2
  go_enter Try.func15, Try.ntmps15
  go_wp2_with (first | (refine wpList_abs3 ?_; intro W hsz hB h0 h1 h2; have z0 : W.heap.size = w.heap.size + 1 + 1 + 1 := hsz; clear hsz) | (refine wpList_load_all rfl 26 _ rfl w.heap.size rfl _ _ _ h0 Try.underlying26 rfl 5 (by kernel_rfl) rfl ?_) | (refine wpList_load_all rfl 26 _ rfl (w.heap.size + 1) rfl _ _ _ h1 Try.underlying26 rfl 5 (by kernel_rfl) rfl ?_))
  refine (HCk.out _ hB).mono ?_
  rintro e0 w1 ⟨rfl, b1⟩
  replace hB := below_after hB b1
  replace h0 := h0.after b1
  replace h1 := h1.after b1
  replace h2 := h2.after b1
  have z1 : w.heap.size + 1 + 1 + 1 ≤ w1.heap.size := by have := b1.size; omega
  clear b1 z0
  rw [Hck.out]
  have c0' : w1.cell? ⟨w.heap.size, 0, none⟩ = some (.int .i64 p) := h0.at_ 0
  go_wp2_with (refine wpList_load_all rfl 26 _ rfl w.heap.size rfl _ _ _ h0 Try.underlying26 rfl 5 (by kernel_rfl) rfl ?_)
  refine (boxOf_c p n0 n1 n2 _ _).mono ?_
  rintro e0 w2 ⟨rfl, b2⟩
  replace hB := below_after hB b2
  replace h0 := h0.after b2
  replace h1 := h1.after b2
  replace h2 := h2.after b2
  have z2 : w.heap.size + 1 + 1 + 1 ≤ w2.heap.size := Nat.le_trans z1 b2.size
  clear b2 c0' z1
  go_wp2_with (first | (refine wpList_abs1 ?_; intro W2 hsz2 hB2 h3; have z3 : W2.heap.size = w2.heap.size + 1 := hsz2; replace h0 := h0.after hB2; replace h1 := h1.after hB2; replace h2 := h2.after hB2; replace hB := below_after hB hB2; clear hsz2 hB2) | (refine wpList_store_all rfl 52 _ _ rfl rfl w2.heap.size rfl _ rfl _ _ h3 3 (by kernel_rfl) rfl rfl (by simp [Value.oneCell']) ?_; intro W3 p3; replace h0 := p3.other h0 (by omega); replace h1 := p3.other h1 (by omega); replace h2 := p3.other h2 (by omega); replace hB := p3.below hB (by omega); replace h3 := p3.at_; clear p3 z3) | (refine wpList_load_all rfl 26 _ rfl (w.heap.size + 1) rfl _ _ _ h1 Try.underlying26 rfl 5 (by kernel_rfl) rfl ?_))
  obtain ⟨b7, hb7⟩ : ∃ b7, b7 = w2.heap.size := ⟨_, rfl⟩
  rw [← hb7] at h3 z2 ⊢
  clear hb7
  refine (boxOf_c p d0 d1 d2 _ _).mono ?_
  rintro e0 w4 ⟨rfl, b4⟩
  replace hB := below_after hB b4
  replace h0 := h0.after b4
  replace h1 := h1.after b4
  replace h2 := h2.after b4
  replace h3 := h3.after b4
  clear b4
  go_wp2_with fail
  go_loopw [21] (fun i wr => ∃ a : Nat, a ≤ 3 ∧ i = .int .i64 a ∧ Below w.heap.size w wr ∧ At wr w.heap.size (.cells #[.int .i64 p, .int .i64 n0, .int .i64 n1, .int .i64 n2, .slice A xs.length cap] 26 (0, 0)) ∧ At wr (w.heap.size + 1) (.cells #[.int .i64 p, .int .i64 d0, .int .i64 d1, .int .i64 d2, .slice B ys.length cap2] 26 (0, 0)) ∧ At wr (w.heap.size + 1 + 1) (.cells #[.int .i64 0, .int .i64 0, .int .i64 0, .int .i64 0, .slice none 0 0] 26 (0, 0)) ∧ ((a = 0 ∧ At wr b7 (.cells #[.int .i64 n0, .int .i64 n1, .int .i64 n2] 52 (0, 0))) ∨ (a = 1 ∧ At wr b7 (.cells #[.int .i64 M0, .int .i64 n1, .int .i64 n2] 52 (0, 0))) ∨ (a = 2 ∧ At wr b7 (.cells #[.int .i64 M0, .int .i64 M1, .int .i64 n2] 52 (0, 0))) ∨ (a = 3 ∧ At wr b7 (.cells #[.int .i64 M0, .int .i64 M1, .int .i64 M2] 52 (0, 0))))) (fun i _ => 3 - (intOf i).toNat)
  case atStart => exact ⟨0, by omega, rfl, hB, h0, h1, h2, .inl ⟨rfl, h3⟩⟩
  case round =>
    clear hB h0 h1 h2 h3
    obtain ⟨a, ha, rfl, hB, h0, h1, h2, ⟨rfl, h7⟩ | ⟨rfl, h7⟩ | ⟨rfl, h7⟩ | ⟨rfl, h7⟩⟩ := hrel
    · replace h7 := h7
      have x0 : wr.cell? ⟨b7, 0, none⟩ = some (.int .i64 n0) := h7.at_ 0
      have z3 := h7.free 0
      have P := Put.cell (i := 0) h7 (.int .i64 M0)
      go_wp2_with (refine wpList_of_exec rfl (exec_index_arr3 52 2 _ _ rfl 3 0 _ (.int .i64 d0) rfl rfl Try.underlying52 _ Try.underlying2 rfl (by kernel_rfl) (by omega) rfl) ?_)
      go_roundw
      case rel => exact ⟨1, by omega, rfl, P.below hB (by omega), P.other h0 (by omega), P.other h1 (by omega), P.other h2 (by omega), .inr (.inl ⟨rfl, P.at_⟩)⟩
      case measure => simp [intOf]
    · replace h7 := h7
      have x0 : wr.cell? ⟨b7, 1, none⟩ = some (.int .i64 n1) := h7.at_ 1
      have z3 := h7.free 1
      have P := Put.cell (i := 1) h7 (.int .i64 M1)
      go_wp2_with (refine wpList_of_exec rfl (exec_index_arr3 52 2 _ _ rfl 3 1 _ (.int .i64 d1) rfl rfl Try.underlying52 _ Try.underlying2 rfl (by kernel_rfl) (by omega) rfl) ?_)
      go_roundw
      case rel => exact ⟨2, by omega, rfl, P.below hB (by omega), P.other h0 (by omega), P.other h1 (by omega), P.other h2 (by omega), .inr (.inr (.inl ⟨rfl, P.at_⟩))⟩
      case measure => simp [intOf]
    · replace h7 := h7
      have x0 : wr.cell? ⟨b7, 2, none⟩ = some (.int .i64 n2) := h7.at_ 2
      have z3 := h7.free 2
      have P := Put.cell (i := 2) h7 (.int .i64 M2)
      go_wp2_with (refine wpList_of_exec rfl (exec_index_arr3 52 2 _ _ rfl 3 2 _ (.int .i64 d2) rfl rfl Try.underlying52 _ Try.underlying2 rfl (by kernel_rfl) (by omega) rfl) ?_)
      go_roundw
      case rel => exact ⟨3, by omega, rfl, P.below hB (by omega), P.other h0 (by omega), P.other h1 (by omega), P.other h2 (by omega), .inr (.inr (.inr ⟨rfl, P.at_⟩))⟩
      case measure => simp [intOf]
    · obtain ⟨w5, rfl⟩ : ∃ x : World, x = wr := ⟨_, rfl⟩
      have x0 : w5.cell? ⟨w.heap.size, 0, none⟩ = some (.int .i64 p) := h0.at_ 0
      go_wp2_with (refine wpList_load_all rfl 52 _ rfl b7 rfl _ _ _ h7 Try.underlying52 rfl 3 (by kernel_rfl) rfl ?_)
      refine (isAllowed_c M0 M1 M2 _).mono ?_
      rintro e0 w6 ⟨rfl, b6⟩
      replace hB := below_after hB b6
      replace h0 := h0.after b6
      replace h1 := h1.after b6
      replace h2 := h2.after b6
      replace h7 := h7.after b6
      have z6 : b7 < w6.heap.size := h7.lt
      clear b6 x0
      cases hok : (sideB M0 && sideB M1 && sideB M2) with
      | false =>
        have Hcode := Lib.hid (HNo.out hok)
        have Hz : Hid (∀ x, dsZ p n0 n1 n2 xs p d0 d1 d2 ys x = 0) := Lib.hid (fun x => by simp [dsZ, Hcode.out])
        have Hr : Hid (dsR p n0 n1 n2 xs p d0 d1 d2 ys = []) := Lib.hid (by simp [dsR, Hcode.out])
        clear hok
        go_wp2_with (refine wpList_store_all rfl 26 _ _ rfl rfl (w.heap.size + 1 + 1) rfl #[.int .i64 0, .int .i64 0, .int .i64 0, .int .i64 0, .slice none 0 0] rfl _ _ h2 5 (by kernel_rfl) rfl rfl (by simp [Value.oneCell']) ?_; intro w7 p7)
        refine bodyPost_ret (results_at2 rfl _ _ (w.heap.size + 1 + 1) _ _ _ rfl _ rfl p7.at_ Try.underlying26 rfl 5 (by kernel_rfl) rfl) rfl ?_
        exact ⟨.slice none 0 0, by rw [Hz.out, Hz.out, Hz.out, Hz.out, Hcode.out]; rfl, by rw [Hr.out]; exact OwnI.nil _ _, p7.below hB (by omega)⟩
      | true =>
        have Hcode := Lib.hid (HPost.out hok)
        have Hz : Hid (∀ x, dsZ p n0 n1 n2 xs p d0 d1 d2 ys x = x) := Lib.hid (fun x => by simp [dsZ, Hcode.out])
        obtain ⟨RL, HRL⟩ : ∃ RL, Hid (genL M1 M2 p (dsF n0 n1 n2 d0 d1 d2 xs ys) (M0 * M1 * M2) = RL) := ⟨_, Lib.hid rfl⟩
        have Hr : Hid (dsR p n0 n1 n2 xs p d0 d1 d2 ys = RL) := Lib.hid (by rw [← HRL.out]; unfold dsR; rw [if_pos Hcode.out, HM0.out, HM1.out, HM2.out]; simp only [Int.toNat_natCast])
        have HC2 := Lib.hid (HCl.out hok)
        have x0 : w6.cell? ⟨w.heap.size, 0, none⟩ = some (.int .i64 p) := h0.at_ 0
        clear hok
        go_wp2_with (refine wpList_load_all rfl 52 _ rfl b7 rfl _ _ _ h7 Try.underlying52 rfl 3 (by kernel_rfl) rfl ?_)
        refine (HC2.out _ _ _ hB h0 h1).mono ?_
        rintro e0 w8 ⟨v, rfl, ho, b8⟩
        rw [HRL.out] at ho
        obtain ⟨A5, c5, rfl, _⟩ := ho.rd
        replace hB := below_after hB b8
        replace h2 := h2.after b8
        go_wp2_with (refine wpList_store_all rfl 26 _ _ rfl rfl (w.heap.size + 1 + 1) rfl _ rfl _ _ h2 5 (by kernel_rfl) rfl rfl (by simp [Value.oneCell']) ?_; intro w7 p7)
        refine bodyPost_ret (results_at2 rfl _ _ (w.heap.size + 1 + 1) _ _ _ rfl _ rfl p7.at_ Try.underlying26 rfl 5 (by kernel_rfl) rfl) rfl ?_
        exact ⟨_, by rw [Hz.out, Hz.out, Hz.out, Hz.out, HM0.out, HM1.out, HM2.out, Hcode.out]; rfl, by rw [Hr.out]; exact (ho.put p7 (ho.ne_lt (by omega))).mono (by omega), p7.below hB (by omega)⟩

theorem implDirectSum_c (p a b c : Int) (A : Option Addr) (cap : Nat) (xs : List Int) (q d e f : Int) (B : Option Addr) (cap2 : Nat) (ys : List Int) (w : World) (hr : RdI w A xs) (hn : xs.length ≤ 1048576) (hs : RdI w B ys) (hm : ys.length ≤ 1048576) :
    Calls Try.prog 15 #[.agg #[.int .i64 p, .int .i64 a, .int .i64 b, .int .i64 c, .slice A xs.length cap], .agg #[.int .i64 q, .int .i64 d, .int .i64 e, .int .i64 f, .slice B ys.length cap2]] w (ResT w (dsZ p a b c xs q d e f ys p) (dsZ p a b c xs q d e f ys (a + d)) (dsZ p a b c xs q d e f ys (b + e)) (dsZ p a b c xs q d e f ys (c + f)) (dsR p a b c xs q d e f ys) (dsCode p a b c xs q d e f ys)) := by
  rcases ckCode_cases p a b c xs q d e f ys with h | h | ⟨h, hx, hy, rfl⟩
  · exact implDs_a p a b c A cap xs q d e f B cap2 ys w hr hn hs hm h
  · exact implDs_b p a b c A cap xs q d e f B cap2 ys w hr hn hs hm h
  · obtain ⟨_, s0, s1, s2, _, _⟩ := tenB_parts hx
    obtain ⟨_, t0, t1, t2, _, _⟩ := tenB_parts hy
    obtain ⟨n0, rfl⟩ := Int.eq_ofNat_of_zero_le (show 0 ≤ a by have := sideB_in s0; omega)
    obtain ⟨n1, rfl⟩ := Int.eq_ofNat_of_zero_le (show 0 ≤ b by have := sideB_in s1; omega)
    obtain ⟨n2, rfl⟩ := Int.eq_ofNat_of_zero_le (show 0 ≤ c by have := sideB_in s2; omega)
    obtain ⟨d0, rfl⟩ := Int.eq_ofNat_of_zero_le (show 0 ≤ d by have := sideB_in t0; omega)
    obtain ⟨d1, rfl⟩ := Int.eq_ofNat_of_zero_le (show 0 ≤ e by have := sideB_in t1; omega)
    obtain ⟨d2, rfl⟩ := Int.eq_ofNat_of_zero_le (show 0 ≤ f by have := sideB_in t2; omega)
    exact implDs_y p n0 n1 n2 d0 d1 d2 A cap xs B cap2 ys w hr hn hs hm hx hy
end Go.Proofs.Ytcmpeoijedddjaa
