/-
  spec.l02Cut, l02Moved. (Made by mkmo2.py.)
-/
import Derived.Test.YtelicajipilhjaaMo0
namespace Go.Proofs.Ytelicajipilhjaa
open Go.RowKit
set_option maxRecDepth 100000
def CutRel (w : World) (f : List Nat) (F : List Nat) (wr : World) : Prop :=
  Below w.heap.size w wr ∧ At wr w.heap.size (.cells (u8s f) 47 (0, 0)) ∧ At wr (w.heap.size + 1) (.cells (u8s (List.replicate 9 0)) 47 (0, 0)) ∧ At wr (w.heap.size + 1 + 1) (.cells (u8s F) 47 (0, 0))
set_option maxHeartbeats 3200000 in
theorem l02Cut_c (f : List Nat) (fc R W : Nat) (hf : Bytes 9 f) (w : World) (hR : 1 ≤ R ∧ R ≤ 3) (hW : 1 ≤ W ∧ W ≤ fc) (hfc : fc ≤ 3) :
    Calls Try.prog 32 #[.agg (u8s f), .int .i64 fc, .int .i64 R, .int .i64 W] w fun e w' => e = .returned (.agg (u8s (ctP fc W f (R * W)))) ∧ Below w.heap.size w w' := by
  have hRC : R * W ≤ 9 := Nat.mul_le_mul (show R ≤ 3 by omega) (show W ≤ 3 by omega)
  have hlen : (ctP fc W f (R * W)).length = 9 := by simp [ctP]
  go_enter Try.func32, Try.ntmps32
  go_wp2_with fail
  go_loopw [10] (fun i wr => ∃ a : Nat, a ≤ R ∧ i = .int .i64 a ∧ CutRel w f (ctP fc W f (a * W)) wr) (fun i _ => R - (intOf i).toNat)
  case atStart => exact ⟨0, by omega, rfl, below3 _ _ _ _, al3_0 _ _ _ _, al3_1 _ _ _ _, by rw [Nat.zero_mul, ctP_zero]; exact al3_2 _ _ _ _⟩
  case round =>
    obtain ⟨a, ha, rfl, hB, h0, h1, h2⟩ := hrel
    obtain ⟨wa, rfl⟩ : ∃ wa : World, wa = wr := ⟨_, rfl⟩
    by_cases hlt : a < R
    · have e0 : IntKind.i64.wrap ((a : Int) + 1) = (a : Int) + 1 := IntWalk.i64_in _ (by omega)
      go_wp2_with fail
      go_loopw [11] (fun i wr => ∃ b : Nat, b ≤ W ∧ i = .int .i64 b ∧ CutRel w f (ctP fc W f (a * W + b)) wr) (fun i _ => W - (intOf i).toNat)
      case atStart => exact ⟨0, by omega, rfl, hB, h0, h1, h2⟩
      case round =>
        clear hB h0 h1 h2
        obtain ⟨b, hb, rfl, hB, h0, h1, h2⟩ := hrel
        by_cases hlb : b < W
        · have f0 : IntKind.i64.wrap ((b : Int) + 1) = (b : Int) + 1 := IntWalk.i64_in _ (by omega)
          have hsrc : a * fc + b < R * fc := by
            have : (a + 1) * fc ≤ R * fc := Nat.mul_le_mul_right fc (by omega)
            rw [Nat.succ_mul] at this
            omega
          have hsrc9 : R * fc ≤ 9 := Nat.mul_le_mul (show R ≤ 3 by omega) (show fc ≤ 3 by omega)
          have htgt : a * W + b < R * W := by
            have : (a + 1) * W ≤ R * W := Nat.mul_le_mul_right W (by omega)
            rw [Nat.succ_mul] at this
            omega
          have HSET := ctP_set (fc := fc) (i := a) f hlb
          obtain ⟨u, hu⟩ : ∃ u, u = a * W + b := ⟨_, rfl⟩
          obtain ⟨s, hs⟩ : ∃ s, s = a * fc + b := ⟨_, rfl⟩
          obtain ⟨wa', hwa⟩ : ∃ x, x = W * a := ⟨_, rfl⟩
          obtain ⟨ca, hca⟩ : ∃ x, x = fc * a := ⟨_, rfl⟩
          have m1 : (wa' : Int) = (W : Int) * (a : Int) := by rw [hwa]; simp
          have m2 : (ca : Int) = (fc : Int) * (a : Int) := by rw [hca]; simp
          have hu9 : u < 9 := by omega
          have hs9 : s < 9 := by omega
          have n1 : wa' = a * W := by rw [hwa, Nat.mul_comm]
          have n2 : ca = a * fc := by rw [hca, Nat.mul_comm]
          have e1 : IntKind.i64.wrap ((W : Int) * (a : Int)) = (wa' : Int) := by rw [← m1]; exact IntWalk.i64_in _ (by omega)
          have e2 : IntKind.i64.wrap ((wa' : Int) + (b : Int)) = (u : Int) := by rw [IntWalk.i64_in _ (by omega)]; omega
          have e3 : IntKind.i64.wrap ((fc : Int) * (a : Int)) = (ca : Int) := by rw [← m2]; exact IntWalk.i64_in _ (by omega)
          have e4 : IntKind.i64.wrap ((ca : Int) + (b : Int)) = (s : Int) := by rw [IntWalk.i64_in _ (by omega)]; omega
          replace HSET : (ctP fc W f (a * W + b)).set u (f[s]?.getD 0) = ctP fc W f (a * W + b + 1) := by rw [hu, hs]; exact HSET
          clear m1 m2 n1 n2 hwa hca hsrc hsrc9 htgt hs hu
          have c0 := h0.cell (i := s) (by rw [hf.len]; omega)
          have c2 := h2.cell (i := u) (by rw [show (ctP fc W f (a * W + b)).length = 9 by simp [ctP]]; exact hu9)
          have z2 := h2.free u
          have Pp := Put.set (i := u) h2 (f[s]?.getD 0)
          rw [HSET] at Pp
          have ea : a * W + (b + 1) = a * W + b + 1 := rfl
          clear HSET
          generalize (ctP fc W f (a * W + b)) = F at *
          generalize F[u]?.getD 0 = fu at *
          generalize f[s]?.getD 0 = x at *
          go_wp2_with fail
          go_roundw
          case rel =>
            refine ⟨b + 1, by omega, by go_num, ?_⟩
            rw [ea]
            exact ⟨Pp.below hB (by omega), Pp.other h0 (by omega), Pp.other h1 (by omega), Pp.at_⟩
          case measure => simp [intOf]; omega
        · obtain rfl : b = W := by omega
          go_wp2_with fail
          go_roundw
          case rel => exact ⟨a + 1, by omega, by go_num, hB, h0, h1, by rw [Nat.succ_mul]; exact h2⟩
          case measure => simp [intOf]; omega
    · obtain rfl : a = R := by omega
      go_wp2_with (first | (refine wpList_load_all rfl 47 _ rfl (w.heap.size + 1 + 1) rfl _ _ _ h2 Try.underlying47 rfl 9 (by kernel_rfl) ((u8s_size _).trans hlen) ?_) | (refine wpList_store_all rfl 47 _ _ rfl rfl (w.heap.size + 1) rfl _ rfl _ _ h1 9 (by kernel_rfl) ((u8s_size _).trans hlen) (by simp [u8s]) (u8s_one _) ?_; intro w3 p3))
      refine bodyPost_ret (results_at rfl _ _ (w.heap.size + 1) _ _ _ rfl p3.at_ Try.underlying47 rfl 9 (by kernel_rfl) ((u8s_size _).trans hlen)) rfl ?_
      exact ⟨rfl, p3.below hB (by omega)⟩
def MovRel (w : World) (f : List Nat) (F : List Nat) (wr : World) : Prop :=
  Below w.heap.size w wr ∧ At wr w.heap.size (.cells (u8s f) 47 (0, 0)) ∧ At wr (w.heap.size + 1) (.cells (u8s (List.replicate 9 0)) 47 (0, 0)) ∧ At wr (w.heap.size + 1 + 1) (.cells (u8s F) 47 (0, 0))
set_option maxHeartbeats 3200000 in
theorem l02Moved_c (f : List Nat) (R C tr tc dr dc : Nat) (hf : Bytes 9 f) (w : World) (hR : 1 ≤ R ∧ R + dr ≤ tr) (hC : 1 ≤ C ∧ C + dc ≤ tc) (htr : tr ≤ 3) (htc : tc ≤ 3) :
    Calls Try.prog 71 #[.agg (u8s f), .int .i64 R, .int .i64 C, .int .i64 tc, .int .i64 dr, .int .i64 dc] w fun e w' => e = .returned (.agg (u8s (mvF R C tr tc dr dc f))) ∧ Below w.heap.size w w' := by
  have hRC : R * C ≤ 9 := Nat.mul_le_mul (show R ≤ 3 by omega) (show C ≤ 3 by omega)
  have hlen : (mvP R C tr tc dr dc f (R * C)).length = 9 := by simp [mvP]
  go_enter Try.func71, Try.ntmps71
  go_wp2_with fail
  go_loopw [14] (fun i wr => ∃ a : Nat, a ≤ R ∧ i = .int .i64 a ∧ MovRel w f (mvP R C tr tc dr dc f (a * C)) wr) (fun i _ => R - (intOf i).toNat)
  case atStart => exact ⟨0, by omega, rfl, below3 _ _ _ _, al3_0 _ _ _ _, al3_1 _ _ _ _, by rw [Nat.zero_mul, mvP_zero]; exact al3_2 _ _ _ _⟩
  case round =>
    obtain ⟨a, ha, rfl, hB, h0, h1, h2⟩ := hrel
    obtain ⟨wa, rfl⟩ : ∃ wa : World, wa = wr := ⟨_, rfl⟩
    by_cases hlt : a < R
    · have e0 : IntKind.i64.wrap ((a : Int) + 1) = (a : Int) + 1 := IntWalk.i64_in _ (by omega)
      go_wp2_with fail
      go_loopw [15] (fun i wr => ∃ b : Nat, b ≤ C ∧ i = .int .i64 b ∧ MovRel w f (mvP R C tr tc dr dc f (a * C + b)) wr) (fun i _ => C - (intOf i).toNat)
      case atStart => exact ⟨0, by omega, rfl, hB, h0, h1, h2⟩
      case round =>
        clear hB h0 h1 h2
        obtain ⟨b, hb, rfl, hB, h0, h1, h2⟩ := hrel
        by_cases hlb : b < C
        · have f0 : IntKind.i64.wrap ((b : Int) + 1) = (b : Int) + 1 := IntWalk.i64_in _ (by omega)
          have hsrc : a * C + b < R * C := by
            have : (a + 1) * C ≤ R * C := Nat.mul_le_mul_right C (by omega)
            rw [Nat.succ_mul] at this
            omega
          have htgt := mv_to_lt htr htc (show a + dr < tr ∧ b + dc < tc by omega)
          have HSET := mvP_set (dr := dr) (dc := dc) (tr := tr) (tc := tc) f hlt hlb (show a + dr < tr ∧ b + dc < tc by omega)
          obtain ⟨u, hu⟩ : ∃ u, u = (a + dr) * tc + (b + dc) := ⟨_, rfl⟩
          obtain ⟨s, hs⟩ : ∃ s, s = a * C + b := ⟨_, rfl⟩
          obtain ⟨ad, had⟩ : ∃ x, x = a + dr := ⟨_, rfl⟩
          obtain ⟨wa', hwa⟩ : ∃ x, x = tc * ad := ⟨_, rfl⟩
          obtain ⟨ca, hca⟩ : ∃ x, x = C * a := ⟨_, rfl⟩
          obtain ⟨wb, hwb⟩ : ∃ x, x = wa' + b := ⟨_, rfl⟩
          have m1 : (wa' : Int) = (tc : Int) * (ad : Int) := by rw [hwa]; simp
          have m2 : (ca : Int) = (C : Int) * (a : Int) := by rw [hca]; simp
          have hu9 : u < 9 := by omega
          have hs9 : s < 9 := by omega
          have n1 : u = wa' + (b + dc) := by rw [hu, hwa, had, Nat.mul_comm]
          have n2 : ca = a * C := by rw [hca, Nat.mul_comm]
          have e5 : IntKind.i64.wrap ((a : Int) + (dr : Int)) = (ad : Int) := by rw [IntWalk.i64_in _ (by omega)]; omega
          have e1 : IntKind.i64.wrap ((tc : Int) * (ad : Int)) = (wa' : Int) := by rw [← m1]; exact IntWalk.i64_in _ (by omega)
          have e2 : IntKind.i64.wrap ((wa' : Int) + (b : Int)) = (wb : Int) := by rw [IntWalk.i64_in _ (by omega)]; omega
          have e6 : IntKind.i64.wrap ((wb : Int) + (dc : Int)) = (u : Int) := by rw [IntWalk.i64_in _ (by omega)]; omega
          have e3 : IntKind.i64.wrap ((C : Int) * (a : Int)) = (ca : Int) := by rw [← m2]; exact IntWalk.i64_in _ (by omega)
          have e4 : IntKind.i64.wrap ((ca : Int) + (b : Int)) = (s : Int) := by rw [IntWalk.i64_in _ (by omega)]; omega
          replace HSET : (mvP R C tr tc dr dc f (a * C + b)).set u (f[s]?.getD 0) = mvP R C tr tc dr dc f (a * C + b + 1) := by rw [hu, hs]; exact HSET
          clear m1 m2 n1 n2 hwa hca hwb hsrc htgt hs hu had
          have c0 := h0.cell (i := s) (by rw [hf.len]; omega)
          have c2 := h2.cell (i := u) (by rw [show (mvP R C tr tc dr dc f (a * C + b)).length = 9 by simp [mvP]]; exact hu9)
          have z2 := h2.free u
          have Pp := Put.set (i := u) h2 (f[s]?.getD 0)
          rw [HSET] at Pp
          have ea : a * C + (b + 1) = a * C + b + 1 := rfl
          clear HSET
          generalize (mvP R C tr tc dr dc f (a * C + b)) = F at *
          generalize F[u]?.getD 0 = fu at *
          generalize f[s]?.getD 0 = x at *
          go_wp2_with fail
          go_roundw
          case rel =>
            refine ⟨b + 1, by omega, by go_num, ?_⟩
            rw [ea]
            exact ⟨Pp.below hB (by omega), Pp.other h0 (by omega), Pp.other h1 (by omega), Pp.at_⟩
          case measure => simp [intOf]; omega
        · obtain rfl : b = C := by omega
          go_wp2_with fail
          go_roundw
          case rel => exact ⟨a + 1, by omega, by go_num, hB, h0, h1, by rw [Nat.succ_mul]; exact h2⟩
          case measure => simp [intOf]; omega
    · obtain rfl : a = R := by omega
      go_wp2_with (first | (refine wpList_load_all rfl 47 _ rfl (w.heap.size + 1 + 1) rfl _ _ _ h2 Try.underlying47 rfl 9 (by kernel_rfl) ((u8s_size _).trans hlen) ?_) | (refine wpList_store_all rfl 47 _ _ rfl rfl (w.heap.size + 1) rfl _ rfl _ _ h1 9 (by kernel_rfl) ((u8s_size _).trans hlen) (by simp [u8s]) (u8s_one _) ?_; intro w3 p3))
      refine bodyPost_ret (results_at rfl _ _ (w.heap.size + 1) _ _ _ rfl p3.at_ Try.underlying47 rfl 9 (by kernel_rfl) ((u8s_size _).trans hlen)) rfl ?_
      exact ⟨rfl, p3.below hB (by omega)⟩
end Go.Proofs.Ytelicajipilhjaa
