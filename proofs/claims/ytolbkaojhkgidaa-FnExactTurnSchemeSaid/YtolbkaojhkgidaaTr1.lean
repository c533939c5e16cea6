/-
  spec.l04Transposed: the transposed form.
-/
import Derived.Test.YtolbkaojhkgidaaTr0
namespace Go.Proofs.Ytolbkaojhkgidaa
open Go.RowKit
set_option maxRecDepth 100000
def TrRel (w : World) (f : List Nat) (rows cols s : Nat) (wr : World) : Prop :=
  Below w.heap.size w wr ∧ At wr w.heap.size (.cells (u8s f) 38 (0, 0)) ∧ At wr (w.heap.size + 1) (.cells (u8s (List.replicate 9 0)) 38 (0, 0)) ∧ At wr (w.heap.size + 1 + 1) (.cells (u8s (trP rows cols f s)) 38 (0, 0))
set_option maxHeartbeats 3200000 in
theorem l04Transposed_c (f : List Nat) (R C : Nat) (hf : Bytes 9 f) (w : World) (hR1 : 1 ≤ R) (hR3 : R ≤ 3) (hC1 : 1 ≤ C) (hC3 : C ≤ 3) :
    Calls Try.prog 16 #[.agg (u8s f), .int .i64 R, .int .i64 C] w fun e w' => e = .returned (.agg (u8s (trF R C f))) ∧ Below w.heap.size w w' := by
  have hlen : (trF R C f).length = 9 := trP_len _ _ _ _
  have hRC : R * C ≤ 9 := Nat.mul_le_mul hR3 hC3
  go_enter Try.func16, Try.ntmps16
  go_wp2_with fail
  go_loopw [8] (fun i wr => ∃ a : Nat, a ≤ R ∧ i = .int .i64 a ∧ TrRel w f R C (a * C) wr) (fun i _ => R - (intOf i).toNat)
  case atStart => exact ⟨0, by omega, rfl, below3 _ _ _ _, al3_0 _ _ _ _, al3_1 _ _ _ _, by rw [Nat.zero_mul, trP_zero]; exact al3_2 _ _ _ _⟩
  case round =>
    obtain ⟨a, ha, rfl, hB, h0, h1, h2⟩ := hrel
    obtain ⟨wa, rfl⟩ : ∃ wa : World, wa = wr := ⟨_, rfl⟩
    by_cases hlt : a < R
    · have e0 : IntKind.i64.wrap ((a : Int) + 1) = (a : Int) + 1 := IntWalk.i64_in _ (by omega)
      go_wp2_with fail
      go_loopw [9] (fun i wr => ∃ b : Nat, b ≤ C ∧ i = .int .i64 b ∧ TrRel w f R C (a * C + b) wr) (fun i _ => C - (intOf i).toNat)
      case atStart => exact ⟨0, by omega, rfl, hB, h0, h1, h2⟩
      case round =>
        clear hB h0 h1 h2
        obtain ⟨b, hb, rfl, hB, h0, h1, h2⟩ := hrel
        by_cases hlb : b < C
        · have f0 : IntKind.i64.wrap ((b : Int) + 1) = (b : Int) + 1 := IntWalk.i64_in _ (by omega)
          have hs : a * C + b < R * C := by
            have : (a + 1) * C ≤ R * C := Nat.mul_le_mul_right C (by omega)
            rw [Nat.succ_mul] at this
            omega
          have hu := trTo_ij (rows := R) (i := a) hlb
          have hu9 := trTo_lt hR1 hR3 hC1 hC3 hs
          have P := Put.set (i := trTo R C (a * C + b)) h2 (f[a * C + b]?.getD 0)
          rw [trP_set f hR1 hR3 hC1 hC3 hs] at P
          have c0 := h0.cell (i := a * C + b) (by rw [hf.len]; omega)
          have hs9 : a * C + b < 9 := by omega
          have c2 := h2.cell (i := trTo R C (a * C + b)) (by rw [trP_len]; exact hu9)
          have z2 := h2.free (trTo R C (a * C + b))
          have hl2 := trP_len R C f (a * C + b)
          have m1 : ((R * b : Nat) : Int) = (R : Int) * (b : Int) := by simp
          have m2 : ((C * a : Nat) : Int) = (C : Int) * (a : Int) := by simp
          have m3 : C * a = a * C := Nat.mul_comm _ _
          have e1 : IntKind.i64.wrap ((R : Int) * (b : Int)) = ((R * b : Nat) : Int) := by rw [m1]; exact IntWalk.i64_in _ (by omega)
          have e2 : IntKind.i64.wrap (((R * b : Nat) : Int) + (a : Int)) = ((trTo R C (a * C + b) : Nat) : Int) := by rw [hu, IntWalk.i64_in _ (by omega)]; omega
          have e3 : IntKind.i64.wrap ((C : Int) * (a : Int)) = ((C * a : Nat) : Int) := by rw [m2]; exact IntWalk.i64_in _ (by omega)
          have e4 : IntKind.i64.wrap (((C * a : Nat) : Int) + (b : Int)) = ((a * C + b : Nat) : Int) := by rw [m3, IntWalk.i64_in _ (by omega)]; omega
          have ea : a * C + (b + 1) = a * C + b + 1 := rfl
          clear m1 m2 m3 hu hs
          generalize trTo R C (a * C + b) = u at *
          generalize hgs : a * C + b = s at *
          generalize R * b = rb at *
          generalize C * a = ca at *
          generalize trP R C f s = F at *
          generalize F[u]?.getD 0 = fu at *
          generalize f[s]?.getD 0 = x at *
          go_wp2_with fail
          go_roundw
          case rel =>
            refine ⟨b + 1, by omega, by go_num, ?_⟩
            rw [ea]
            exact ⟨P.below hB (by omega), P.other h0 (by omega), P.other h1 (by omega), P.at_⟩
          case measure => simp [intOf]; omega
        · obtain rfl : b = C := by omega
          go_wp2_with fail
          go_roundw
          case rel => exact ⟨a + 1, by omega, by go_num, hB, h0, h1, by rw [Nat.succ_mul]; exact h2⟩
          case measure => simp [intOf]; omega
    · obtain rfl : a = R := by omega
      go_wp2_with (first | (refine wpList_load_all rfl 38 _ rfl (w.heap.size + 1 + 1) rfl _ _ _ h2 Try.underlying38 rfl 9 (by kernel_rfl) ((u8s_size _).trans hlen) ?_) | (refine wpList_store_all rfl 38 _ _ rfl rfl (w.heap.size + 1) rfl _ rfl _ _ h1 9 (by kernel_rfl) ((u8s_size _).trans hlen) (by simp [u8s]) (u8s_one _) ?_; intro w3 p3))
      refine bodyPost_ret (results_at rfl _ _ (w.heap.size + 1) _ _ _ rfl p3.at_ Try.underlying38 rfl 9 (by kernel_rfl) ((u8s_size _).trans hlen)) rfl ?_
      exact ⟨rfl, p3.below hB (by omega)⟩
end Go.Proofs.Ytolbkaojhkgidaa
