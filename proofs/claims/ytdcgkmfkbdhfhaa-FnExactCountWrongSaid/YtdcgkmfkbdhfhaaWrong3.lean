/-
  impl.countDifferent, CountWrong.
-/
import Derived.Test.YtdcgkmfkbdhfhaaWrong2
namespace Go.Proofs.Ytdcgkmfkbdhfhaa
open Go.RowKit
set_option maxRecDepth 100000
/-- At how many of the first places two lists differ. -/
def diffN (f g : List Nat) : Nat → Nat
  | 0 => 0
  | c + 1 => diffN f g c + (if f[c]?.getD 0 = g[c]?.getD 0 then 0 else 1)
theorem diffN_le (f g : List Nat) (c : Nat) : diffN f g c ≤ c := by
  induction c with
  | zero => simp [diffN]
  | succ c ih => simp only [diffN]; split <;> omega
set_option maxHeartbeats 800000 in
theorem countDifferent_c (f g : List Nat) (hf : Bytes 9 f) (hg : Bytes 9 g) (w : World) :
    Calls Try.prog 39 #[.agg (u8s f), .agg (u8s g)] w fun e w' => e = .returned (.int .i64 (diffN f g 9 : Nat)) ∧ Below w.heap.size w w' := by
  go_enter Try.func39, Try.ntmps39
  go_wp2_with fail
  go_loopw [5, 7] (fun cnt i wr => ∃ c : Nat, c ≤ 9 ∧ i = .int .i64 c ∧ cnt = .int .i64 (diffN f g c : Nat) ∧ Below w.heap.size w wr ∧ At wr w.heap.size (.cells (u8s f) 58 (0, 0)) ∧ At wr (w.heap.size + 1) (.cells (u8s g) 58 (0, 0))) (fun _ i _ => 9 - (intOf i).toNat)
  case atStart => exact ⟨0, by omega, rfl, rfl, below2 _ _ _, al2_0 _ _ _, al2_1 _ _ _⟩
  case round =>
    obtain ⟨c, hc, rfl, rfl, hB, h0, h1⟩ := hrel
    have hd := diffN_le f g c
    by_cases hlt : c < 9
    · have x0 := h0.cell (i := c) (by rw [hf.len]; exact hlt)
      have y0 := h1.cell (i := c) (by rw [hg.len]; exact hlt)
      have Hs : Hid (diffN f g (c + 1) = diffN f g c + (if f[c]?.getD 0 = g[c]?.getD 0 then 0 else 1)) := Lib.hid rfl
      have e0 : IntKind.i64.wrap ((c : Int) + 1) = (c : Int) + 1 := IntWalk.i64_in _ (by omega)
      have e1 : IntKind.i64.wrap ((diffN f g c : Int) + 1) = (diffN f g c : Int) + 1 := IntWalk.i64_in _ (by omega)
      generalize diffN f g c = D at *
      generalize f[c]?.getD 0 = x at *
      generalize g[c]?.getD 0 = y at *
      go_wp2_with fail
      go_region
      by_cases hxy : x = y
      · have hb : ((x : Int) == (y : Int)) = true := by simp [hxy]
        have hb2 : ((x : Int) != (y : Int)) = false := by simp [hxy]
        have Hv : Hid (diffN f g (c + 1) = D) := Lib.hid (by rw [Hs.out, if_pos hxy]; rfl)
        clear hxy
        go_wp2_with fail
        exact ⟨⟨c + 1, by omega, by go_num, by rw [Hv.out], hB.drew, h0.drewN 1, h1.drewN 1⟩, by simp [intOf]; omega⟩
      · have hb : ((x : Int) == (y : Int)) = false := by simp; omega
        have hb2 : ((x : Int) != (y : Int)) = true := by simp; omega
        have Hv : Hid (diffN f g (c + 1) = D + 1) := Lib.hid (by rw [Hs.out, if_neg hxy])
        clear hxy
        go_wp2_with fail
        exact ⟨⟨c + 1, by omega, by go_num, by rw [Hv.out]; rfl, hB.drew, h0.drewN 1, h1.drewN 1⟩, by simp [intOf]; omega⟩
    · obtain rfl : c = 9 := by omega
      go_wp2_with fail
      go_ret
      exact ⟨rfl, hB⟩
/-- How many are wrong, row by row: what impl.CountWrong counts. -/
def cntB (p m k : Int) (qs : List (List Nat)) (a : Nat) : Nat → Nat
  | 0 => 0
  | b + 1 => cntB p m k qs a b + diffN (sidesL p.toNat qs a b) (rightL m k a b) 9
def cntA (p m k : Int) (qs : List (List Nat)) (N2 : Nat) : Nat → Nat
  | 0 => 0
  | a + 1 => cntA p m k qs N2 a + cntB p m k qs a N2
theorem cntB_le (p m k : Int) (qs : List (List Nat)) (a b : Nat) : cntB p m k qs a b ≤ b * 9 := by
  induction b with
  | zero => simp [cntB]
  | succ b ih => have := diffN_le (sidesL p.toNat qs a b) (rightL m k a b) 9; simp only [cntB]; omega
theorem cntA_le (p m k : Int) (qs : List (List Nat)) (N2 a : Nat) : cntA p m k qs N2 a ≤ a * (N2 * 9) := by
  induction a with
  | zero => simp [cntA]
  | succ a ih => have := cntB_le p m k qs a N2; simp only [cntA]; rw [Nat.succ_mul]; omega
end Go.Proofs.Ytdcgkmfkbdhfhaa
