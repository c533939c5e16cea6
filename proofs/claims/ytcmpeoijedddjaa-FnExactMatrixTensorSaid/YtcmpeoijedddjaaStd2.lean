/-
  spec.l01Standard, spec.StandardScheme.
-/
import Derived.Test.YtcmpeoijedddjaaStd1
import Derived.Deep.Cut
namespace Go.Proofs.Ytcmpeoijedddjaa
open Go.RowKit
set_option maxRecDepth 100000
def StdRel (w : World) (p : Int) (N M K : Nat) (qs : List (List Nat)) (wr : World) : Prop :=
  ∃ v, KB w w.heap.size (w.heap.size + 1 + 1) p N M K qs v wr ∧ At wr w.heap.size (.cells #[.int .i64 0, .int .i64 0, .int .i64 0, .int .i64 0, .slice none 0 0] 40 (0, 0))
theorem std_start (w : World) (p : Int) (N M K : Nat) : StdRel w p N M K [] (((w.alloc (.cells #[.int .i64 0, .int .i64 0, .int .i64 0, .int .i64 0, .slice none 0 0] 40 (0, 0))).alloc (.cells #[] 82 (0, 0))).alloc (.cells #[.int .i64 p, .int .i64 N, .int .i64 M, .int .i64 K, .slice (some ⟨w.heap.size + 1, 0, none⟩) 0 0] 40 (0, 0))) := by
  refine ⟨_, ⟨below3 _ _ _ _, ⟨by simp [u8s], .inr ⟨w.heap.size + 1, 0, #[], rfl, by omega, al3_1 _ _ _ _, by simp, by simp, by simp, by simp [u8s]⟩⟩, al3_2 _ _ _ _, Nat.le_refl _, by omega⟩, al3_0 _ _ _ _⟩
theorem stdA_le {M K a : Nat} (hM : M ≤ 3) (hK : K ≤ 3) (ha : a < 3) : (stdA M K a).length ≤ 18 := by
  rw [stdA_len]
  exact Nat.mul_le_mul (show a ≤ 2 by omega) (Nat.mul_le_mul hM hK)
theorem stdB_le {M K b : Nat} (a : Nat) (hK : K ≤ 3) (hb : b < 3) : (stdB M K a b).length ≤ 6 := by
  rw [stdB_len]
  exact Nat.mul_le_mul (show b ≤ 2 by omega) hK
set_option maxHeartbeats 1600000 in
theorem l01Standard_c (p : Int) (N M K : Nat) (w : World) (hN : N ≤ 3) (hM : M ≤ 3) (hK : K ≤ 3) :
    Calls Try.prog 52 #[.int .i64 p, .int .i64 N, .int .i64 M, .int .i64 K] w fun e w' => ∃ v, e = .returned (.agg #[.int .i64 p, .int .i64 N, .int .i64 M, .int .i64 K, v]) ∧ Own w' w.heap.size v (stdA M K N) ∧ Below w.heap.size w w' := by
  go_enter Try.func52, Try.ntmps52
  go_wp2_with fail
  go_loopw [10] (fun i wr => ∃ a : Nat, a ≤ N ∧ i = .int .i64 a ∧ StdRel w p N M K (stdA M K a) wr) (fun i _ => N - (intOf i).toNat)
  case atStart => exact ⟨0, by omega, rfl, std_start _ _ _ _ _⟩
  case round =>
    obtain ⟨a, ha, rfl, hR⟩ := hrel
    by_cases hlt : a < N
    · have e0 : IntKind.i64.wrap ((a : Int) + 1) = (a : Int) + 1 := IntWalk.i64_in _ (by omega)
      have HSA : Hid (stdA M K (a + 1) = stdA M K a ++ stdB M K a M) := Lib.hid rfl
      have lA := stdA_le hM hK (show a < 3 by omega)
      generalize stdA M K a = sA at *
      have HR := Lib.hid hR
      clear hR
      go_wp2_with fail
      go_loopw [11] (fun i wr => ∃ b : Nat, b ≤ M ∧ i = .int .i64 b ∧ StdRel w p N M K (sA ++ stdB M K a b) wr) (fun i _ => M - (intOf i).toNat)
      case atStart => exact ⟨0, by omega, rfl, by rw [stdB, List.append_nil]; exact HR.out⟩
      case round =>
        clear HR
        obtain ⟨b, hb, rfl, hR⟩ := hrel
        by_cases hlt2 : b < M
        · have f0 : IntKind.i64.wrap ((b : Int) + 1) = (b : Int) + 1 := IntWalk.i64_in _ (by omega)
          have HSB : Hid (stdB M K a (b + 1) = stdB M K a b ++ stdC M K a b K) := Lib.hid rfl
          have lB := stdB_le (M := M) a hK (show b < 3 by omega)
          generalize stdB M K a b = sB at *
          have HR := Lib.hid hR
          clear hR
          go_wp2_with fail
          go_loopw [12] (fun i wr => ∃ c : Nat, c ≤ K ∧ i = .int .i64 c ∧ StdRel w p N M K (sA ++ sB ++ stdC M K a b c) wr) (fun i _ => K - (intOf i).toNat)
          case atStart => exact ⟨0, by omega, rfl, by rw [stdC, List.append_nil]; exact HR.out⟩
          case round =>
            clear HR
            obtain ⟨c, hc, rfl, hR⟩ := hrel
            by_cases hlt3 : c < K
            · have g0 : IntKind.i64.wrap ((c : Int) + 1) = (c : Int) + 1 := IntWalk.i64_in _ (by omega)
              have HSC : Hid (stdC M K a b (c + 1) = stdC M K a b c ++ [unitL (a * M + b) ++ unitL (b * K + c) ++ unitL (a * K + c)]) := Lib.hid rfl
              have m1 := mul9 (a := a) hM (by omega) hlt2
              have m2 := mul9 (a := b) hK (by omega) hlt3
              have m3 := mul9 (a := a) hK (by omega) hlt3
              have e1 : IntKind.i64.wrap ((a : Int) * (M : Int)) = ((a * M : Nat) : Int) := by rw [Int.natCast_mul]; exact IntWalk.i64_in _ (by rw [← Int.natCast_mul]; omega)
              have e2 : IntKind.i64.wrap ((b : Int) * (K : Int)) = ((b * K : Nat) : Int) := by rw [Int.natCast_mul]; exact IntWalk.i64_in _ (by rw [← Int.natCast_mul]; omega)
              have e3 : IntKind.i64.wrap ((a : Int) * (K : Int)) = ((a * K : Nat) : Int) := by rw [Int.natCast_mul]; exact IntWalk.i64_in _ (by rw [← Int.natCast_mul]; omega)
              generalize a * M = s at *
              generalize b * K = t at *
              generalize a * K = u at *
              have lC : (stdC M K a b c).length ≤ 2 := by rw [stdC_len]; omega
              generalize stdC M K a b c = sC at *
              obtain ⟨v, hK, hR⟩ := hR
              have nq := hK.own.away_new
              have gl := hK.box.lt
              go_upto_region 12 with (first | (refine wpList_abs1 ?_; intro W2 hsz2 hB2 q2; replace q2 : At W2 wr.heap.size (.cells (u8s (List.replicate 27 0)) 82 (0, 0)) := q2; replace hK := hK.after hB2; replace hR := hR.after hB2) | (refine wpList_store_u8s rfl 82 _ _ rfl rfl wr.heap.size 0 rfl (List.replicate 27 0) rfl _ _ q2 27 (by kernel_rfl) (by simp) (by simp) ?_; intro W3 q3))
              have hb3 := hK.below.size
              replace hR := q3.other hR (by omega)
              replace hK := hK.other q3 (by omega) nq (by omega)
              replace q2 := q3.at_
              rw [over_all (by simp)] at q2
              clear q3 hsz2 hB2
              go_upto_region 13 with (refine wpList_store_byte rfl 5 _ _ rfl rfl wr.heap.size (s + b) rfl 1 rfl _ _ q2 (by kernel_rfl) (by simp; omega) ?_; intro W4 q4)
              replace hR := q4.other hR (by omega)
              replace hK := hK.other q4 (by omega) nq (by omega)
              replace q2 := q4.at_
              clear q4
              go_upto_region 14 with (refine wpList_store_byte rfl 5 _ _ rfl rfl wr.heap.size (9 + (t + c)) rfl 1 rfl _ _ q2 (by kernel_rfl) (by simp; omega) ?_; intro W5 q5)
              replace hR := q5.other hR (by omega)
              replace hK := hK.other q5 (by omega) nq (by omega)
              replace q2 := q5.at_
              clear q5
              go_upto_region 15 with (refine wpList_store_byte rfl 5 _ _ rfl rfl wr.heap.size (18 + (u + c)) rfl 1 rfl _ _ q2 (by kernel_rfl) (by simp; omega) ?_; intro W6 q6)
              replace hR := q6.other hR (by omega)
              replace hK := hK.other q6 (by omega) nq (by omega)
              replace q2 := q6.at_
              clear q6
              rw [set3_unit (by omega) (by omega) (by omega)] at q2
              have hQb : Bytes 27 (unitL (s + b) ++ unitL (t + c) ++ unitL (u + c)) := unit3_bytes _ _ _
              have hlen := hK.own.1
              generalize unitL (s + b) ++ unitL (t + c) ++ unitL (u + c) = qq at *
              have c4 := hK.c4
              obtain ⟨i0, hi, hz0, hz1, hz2⟩ := info_parts infoProd
              have hv := hK.own.shp
              go_wp2_with (first | (refine wpList_load_all rfl 82 _ rfl wr.heap.size rfl _ _ _ q2 Try.underlying82 rfl 27 (by kernel_rfl) ((u8s_size _).trans hQb.len) ?_) | (refine wpList_buildSlice1 rfl _ 82 _ rfl _ rfl Try.underlying38 infoProd hQb.len ?_; intro W7 n7; replace hK := hK.new n7; replace hR := n7.old hR) | (at_builtin; refine wpList_append_own _ rfl _ _ 38 rfl w.heap.size 82 i0 (.agg (u8s (List.replicate 27 0))) 27 27 Try.underlying38 hi hz0 hz1 hz2 rfl (by decide) v _ _ rfl hK.own ⟨_, 0, none⟩ 1 1 (u8s qq).toList rfl (by simp [u8s_size, hQb.len]) (cells_of_new n7) (u8s_one qq) (by unfold maxLen; simp; omega) (by simp; omega) (by exact hK.below.size) ?_; intro v1 W8 own8 gr8 nil8; have hoff := hK.own.off hR (by decide); have G := hK.grow gr8 own8; have hv1 := G.2.1.shp.cells; replace hR := hR.grown gr8 hoff; clear own8 gr8 nil8 hoff) | (refine wpList_store_one rfl 38 _ _ rfl rfl (w.heap.size + 1 + 1) 4 rfl v1 rfl hv1.1 hv1.2 _ _ G.2.2 (by kernel_rfl) (by simp) ?_; intro W9 p9; replace hR := p9.other hR (by omega)))
              exact ⟨⟨c + 1, by omega, by go_num, by rw [HSC.out, ← List.append_assoc]; exact ⟨v1, KB.put G (Nat.le_refl _) (by omega) (by exact p9), hR⟩⟩, by simp [intOf]; omega⟩
            · obtain rfl : c = K := by omega
              go_wp2_with fail
              exact ⟨⟨b + 1, by omega, by go_num, by rw [HSB.out, ← List.append_assoc]; exact hR⟩, by simp [intOf]; omega⟩
        · obtain rfl : b = M := by omega
          go_wp2_with fail
          exact ⟨⟨a + 1, by omega, by go_num, by rw [HSA.out]; exact hR⟩, by simp [intOf]; omega⟩
    · obtain rfl : a = N := by omega
      obtain ⟨v, hK, hR⟩ := hR
      have hv := hK.own.shp.cells
      have hoff := hK.own.off hR (by decide)
      go_wp2_with (first | (refine wpList_load_all rfl 40 _ rfl (w.heap.size + 1 + 1) rfl _ _ _ hK.box Try.underlying40 rfl 5 (by kernel_rfl) rfl ?_) | (refine wpList_store_all rfl 40 _ _ rfl rfl w.heap.size rfl _ rfl _ _ hR 5 (by kernel_rfl) rfl rfl (by intro x hx; simp at hx; rcases hx with rfl | rfl | rfl | rfl | rfl <;> first | rfl | exact hv.2) ?_; intro W2 p2))
      refine bodyPost_ret (results_at rfl _ _ w.heap.size _ _ _ rfl p2.at_ Try.underlying40 rfl 5 (by kernel_rfl) rfl) rfl ?_
      have hK2 := hK.other p2 (by omega) hoff (Nat.le_refl _)
      exact ⟨v, rfl, hK2.own, hK2.below⟩
end Go.Proofs.Ytcmpeoijedddjaa
