/-
  Left sides: spec.l01Sum; impl.leftSides.
-/
import Derived.Test.YtcmpeoijedddjaaRight3
namespace Go.Proofs.Ytcmpeoijedddjaa
open Go.RowKit
set_option maxRecDepth 100000
def termN (q : List Nat) (a b c : Nat) : Nat := (q[a]?.getD 0) * (q[9 + b]?.getD 0) * (q[18 + c]?.getD 0)
def sumN : List (List Nat) → Nat → Nat → Nat → Nat
  | [], _, _, _ => 0
  | q :: qs, a, b, c => sumN qs a b c + termN q a b c
theorem sumN_append (xs ys : List (List Nat)) (a b c : Nat) : sumN (xs ++ ys) a b c = sumN xs a b c + sumN ys a b c := by
  induction xs with
  | nil => simp [sumN]
  | cons q xs ih => simp only [List.cons_append, sumN, ih]; omega
theorem sumN_step {qs : List (List Nat)} {j : Nat} (h : j < qs.length) (a b c : Nat) : sumN (qs.take (j + 1)) a b c = sumN (qs.take j) a b c + termN qs[j] a b c := by
  rw [List.take_succ_eq_append_getElem h, sumN_append]
  simp [sumN]
theorem mul3_le {x y z : Nat} (hx : x < 256) (hy : y < 256) (hz : z < 256) : x * y ≤ 65025 ∧ x * y * z ≤ 16581375 := by
  have h1 : x * y ≤ 255 * 255 := Nat.mul_le_mul (by omega) (by omega)
  have h2 : x * y * z ≤ 255 * 255 * 255 := Nat.mul_le_mul h1 (by omega)
  exact ⟨by omega, by omega⟩
theorem sumN_le {qs : List (List Nat)} (h : ∀ q ∈ qs, Bytes 27 q) (a b c : Nat) : sumN qs a b c ≤ qs.length * 16581375 := by
  induction qs with
  | nil => simp [sumN]
  | cons q qs ih =>
    have h1 := ih (fun x hx => h x (by simp [hx]))
    have hq := h q (by simp)
    have h2 := (mul3_le (hq.lt a) (hq.lt (9 + b)) (hq.lt (18 + c))).2
    simp only [sumN, List.length_cons, termN]
    omega
def SumRel (w : World) (p n m k : Int) (A : Option Addr) (cap : Nat) (qs : List (List Nat)) (a b c : Nat) (s i : Value) (wr : World) : Prop :=
  ∃ j : Nat, j ≤ qs.length ∧ i = .int .i64 j ∧ s = .int .i64 (sumN (qs.take j) a b c : Nat) ∧ Below w.heap.size w wr ∧ At wr w.heap.size (.cells #[.int .i64 p, .int .i64 n, .int .i64 m, .int .i64 k, .slice A qs.length cap] 40 (0, 0))
set_option maxHeartbeats 1600000 in
theorem l01Sum_c (p n m k : Int) (A : Option Addr) (cap : Nat) (qs : List (List Nat)) (a b c : Nat) (w : World) (hp : 0 < p) (hr : Rd w A qs) (h30 : qs.length ≤ 30) (ha : a < 9) (hb : b < 9) (hc : c < 9) :
    Calls Try.prog 63 #[.agg #[.int .i64 p, .int .i64 n, .int .i64 m, .int .i64 k, .slice A qs.length cap], .int .i64 a, .int .i64 b, .int .i64 c] w fun e w' => e = .returned (.int .i64 ((sumN qs a b c : Nat) % p)) ∧ Below w.heap.size w w' := by
  go_enter Try.func63, Try.ntmps63
  go_wp2_with fail
  go_loopw [9, 10] (fun s i wr => SumRel w p n m k A cap qs a b c s i wr) (fun _ i _ => qs.length - (intOf i).toNat)
  case atStart => exact ⟨0, by omega, rfl, by simp [sumN], below1 _ _, al1_0 _ _⟩
  case round =>
    obtain ⟨j, hj, rfl, rfl, hB, h0⟩ := hrel
    have c4 : wr.cell? ⟨w.heap.size, 4, none⟩ = some (.slice A qs.length cap) := h0.at_ 4
    have hsl := sumN_le (qs := qs.take j) (fun q hq => hr.good q (List.mem_of_mem_take hq)) a b c
    rw [List.length_take, Nat.min_eq_left hj] at hsl
    by_cases hlt : j < qs.length
    · obtain ⟨bb, off, hA0, hcs⟩ := (hr.keep hB).at_ hlt
      have g1 := hr.good qs[j] (List.getElem_mem hlt)
      have Hc := Lib.hid hcs
      clear hcs
      subst hA0
      have lB := hB.size
      have l0 := h0.lt
      have Hs := Lib.hid (sumN_step hlt a b c)
      generalize hS : sumN (qs.take j) a b c = S at *
      have HS := Lib.hid hS
      clear hS
      go_wp2_with (first | (refine wpList_load_cells rfl 82 _ rfl bb (off + j * 27) rfl qs[j] _ 27 Hc.out Try.underlying82 rfl (by kernel_rfl) g1.len ?_) | (refine wpList_abs1 ?_; intro W2 hsz2 hB2 s2; replace s2 : At W2 wr.heap.size (.cells (u8s (List.replicate 27 0)) 82 (0, 0)) := s2; replace h0 := h0.after hB2; replace hB := below_after hB hB2) | (refine wpList_store_u8s rfl 82 _ _ rfl rfl wr.heap.size 0 rfl _ rfl _ _ s2 27 (by kernel_rfl) g1.len (by simp) ?_; intro W3 p3; replace h0 := p3.other h0 (by omega); replace hB := p3.below hB (by omega); have s3 := p3.at_; rw [over_all (by rw [g1.len]; simp)] at s3))
      have x0 := s3.cell (i := a) (by rw [g1.len]; omega)
      have y0 := s3.cell (i := 9 + b) (by rw [g1.len]; omega)
      have z0 := s3.cell (i := 18 + c) (by rw [g1.len]; omega)
      have hx := g1.lt a
      have hy := g1.lt (9 + b)
      have hz := g1.lt (18 + c)
      have Ht : Hid (termN qs[j] a b c = qs[j][a]?.getD 0 * qs[j][9 + b]?.getD 0 * qs[j][18 + c]?.getD 0) := Lib.hid rfl
      generalize qs[j][a]?.getD 0 = x at *
      generalize qs[j][9 + b]?.getD 0 = y at *
      generalize qs[j][18 + c]?.getD 0 = z at *
      obtain ⟨m1, m2⟩ := mul3_le hx hy hz
      have e1 : IntKind.i64.wrap ((x : Int) * (y : Int)) = (x : Int) * (y : Int) := IntWalk.i64_in _ (by rw [← Int.natCast_mul]; omega)
      have e2 : IntKind.i64.wrap ((x : Int) * (y : Int) * (z : Int)) = (x : Int) * (y : Int) * (z : Int) := IntWalk.i64_in _ (by rw [← Int.natCast_mul, ← Int.natCast_mul]; omega)
      have e3 : IntKind.i64.wrap ((S : Int) + (x : Int) * (y : Int) * (z : Int)) = (S : Int) + (x : Int) * (y : Int) * (z : Int) := IntWalk.i64_in _ (by rw [← Int.natCast_mul, ← Int.natCast_mul]; omega)
      go_quiet (fail)
      go_wp2_with fail
      exact ⟨⟨j + 1, by omega, by go_num, by rw [Hs.out, Ht.out]; simp, below_drawn hB _, h0.drewN _⟩, by simp [intOf]; omega⟩
    · obtain rfl : j = qs.length := by omega
      rw [List.take_length] at hsl
      rw [List.take_length]
      have k0 : wr.cell? ⟨w.heap.size, 0, none⟩ = some (.int .i64 p) := h0.at_ 0
      have zp : (p == 0) = false := by simp; omega
      generalize hS : sumN qs a b c = S at *
      have HS := Lib.hid hS
      clear hS
      go_wp2_with fail
      go_ret
      exact ⟨by rw [HS.out]; rfl, hB⟩
end Go.Proofs.Ytcmpeoijedddjaa
