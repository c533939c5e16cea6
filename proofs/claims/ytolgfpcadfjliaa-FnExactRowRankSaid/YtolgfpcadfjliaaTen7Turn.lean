/-
  impl.tensorWith with the function literal turned$1. (Made by mkten7.py.)
-/
import Derived.Test.YtolgfpcadfjliaaTen6
namespace Go.Proofs.Ytolgfpcadfjliaa
open Go.RowKit
set_option maxRecDepth 100000
theorem tensorOfTurn_c (p a b c : Int) (A : Option Addr) (n cap : Nat) (w : World) : Calls Try.prog 57 #[.int .i64 p, .agg #[.int .i64 a, .int .i64 b, .int .i64 c], .slice A n cap] w fun e w' => e = .returned (.agg #[.int .i64 p, .int .i64 a, .int .i64 b, .int .i64 c, .slice A n cap]) ∧ Below w.heap.size w w' := by
  go_enter Try.func57, Try.ntmps57
  go_wp2_with fail
  refine bodyPost_ret (results_at rfl _ _ (w.heap.size + 1) _ _ _ rfl (al2_1 _ _ _) Try.underlying29 rfl 5 (by kernel_rfl) rfl) rfl ?_
  exact ⟨rfl, below2 _ _ _⟩
set_option maxHeartbeats 3200000 in
theorem tensorWithTurn_c (p : Int) (n0 n1 n2 : Nat) (g0 : Nat) (f : Nat → Nat → Nat → Int) (w : World) (hp : 1 ≤ p) (h0 : sideB n0 = true) (h1 : sideB n1 = true) (h2 : sideB n2 = true)
    (hF : ∀ (i j k : Nat) (w' : World), i < n0 → j < n1 → k < n2 → Below w.heap.size w w' → 0 ≤ f i j k ∧ Calls Try.prog 69 #[.int .i64 i, .int .i64 j, .int .i64 k, .pointer (some ⟨g0, 0, none⟩)] w' fun e w2 => e = .returned (.int .i64 (f i j k)) ∧ Below w'.heap.size w' w2) :
    Calls Try.prog 39 #[.int .i64 p, .agg #[.int .i64 n0, .int .i64 n1, .int .i64 n2], .func (.func 69) #[] #[.pointer (some ⟨g0, 0, none⟩)]] w
      fun e w' => ∃ v, e = .returned (.agg #[.int .i64 p, .int .i64 n0, .int .i64 n1, .int .i64 n2, v]) ∧ OwnI w' w.heap.size v (genL n1 n2 p f (n0 * n1 * n2)) ∧ Below w.heap.size w w' := by
  have l0 := sideB_in h0
  have l1 := sideB_in h1
  have l2 := sideB_in h2
  have hN := places_729 (n0 := n0) (n1 := n1) (n2 := n2) (by omega) (by omega) (by omega)
  have HF := Lib.hid hF
  clear hF
  have HPl := Lib.hid (fun w => boxPlaces_c n0 n1 n2 w h0 h1 h2)
  have HG : Hid (∀ (i j k : Nat), j < n1 → k < n2 → genL n1 n2 p f ((i * n1 + j) * n2 + k) ++ [f i j k % p] = genL n1 n2 p f ((i * n1 + j) * n2 + (k + 1))) := Lib.hid (fun _ _ _ hj hk => genL_step hj hk)
  have HL : Hid (∀ (i j k : Nat), i < n0 → j < n1 → k < n2 → (i * n1 + j) * n2 + k < n0 * n1 * n2) := Lib.hid (fun _ _ _ hi hj hk => place_lt hi hj hk)
  have hp0 : (p == 0) = false := by simp; omega
  clear h0 h1 h2
  go_enter Try.func39, Try.ntmps39
  go_wp2_with (first | (refine wpList_abs2 ?_; intro W hsz hB hb ht) | (refine wpList_load_all rfl 52 _ rfl w.heap.size rfl _ _ _ hb Try.underlying52 rfl 3 (by kernel_rfl) rfl ?_))
  refine (HPl.out _).mono ?_
  rintro e w1 ⟨rfl, b1⟩
  have z1 : w.heap.size + 1 + 1 ≤ w1.heap.size := by have := b1.size; rw [hsz] at this; exact this
  replace hB := below_after hB b1
  replace hb := hb.after b1
  replace ht := ht.after b1
  clear b1 hsz
  rw [← Int.natCast_mul, ← Int.natCast_mul]
  go_wp2_with (refine wpList_make0I rfl _ rfl _ _ rfl (n0 * n1 * n2) rfl rfl (by omega) ?_; intro w2 nn ho; replace hB := nn.below hB (by omega); replace hb := nn.old hb; replace ht := nn.old ht; have c0 : w2.cell? ⟨w.heap.size, 0, none⟩ = some (.int .i64 n0) := hb.at_ 0; have z2 : w.heap.size + 1 + 1 ≤ w2.heap.size := Nat.le_trans z1 (nn.below (Below.refl _ _) (Nat.le_refl _)).size; replace ho := ho.mono z1; clear nn)
  clear z1
  generalize w1.heap.size = G at *
  go_loopw [7, 16] (fun v i wr => ∃ a : Nat, a ≤ n0 ∧ i = .int .i64 a ∧ OwnI wr (w.heap.size + 1 + 1) v (genL n1 n2 p f (a * n1 * n2)) ∧ w.heap.size + 1 + 1 ≤ wr.heap.size ∧ Below w.heap.size w wr ∧ At wr w.heap.size (.cells #[.int .i64 n0, .int .i64 n1, .int .i64 n2] 52 (0, 0)) ∧ At wr (w.heap.size + 1) (.cells #[.int .i64 0, .int .i64 0, .int .i64 0, .int .i64 0, .slice none 0 0] 29 (0, 0))) (fun _ i _ => n0 - (intOf i).toNat)
  case atStart => exact ⟨0, by omega, rfl, by rw [Nat.zero_mul, Nat.zero_mul]; exact ho, z2, hB, hb, ht⟩
  case round =>
    clear hB hb ht ho z2
    obtain ⟨a, ha, rfl, ho, z2, hB, hb, ht⟩ := hrel
    obtain ⟨wa, rfl⟩ : ∃ x : World, x = wr := ⟨_, rfl⟩
    by_cases hlt : a < n0
    · have e0 : IntKind.i64.wrap ((a : Int) + 1) = (a : Int) + 1 := IntWalk.i64_in _ (by omega)
      have hlt' : (a : Int) < (n0 : Int) := by omega
      have c1 : wa.cell? ⟨w.heap.size, 1, none⟩ = some (.int .i64 n1) := hb.at_ 1
      go_wp2_with fail
      clear c1
      go_loopw [7, 21] (fun v i wr => ∃ b : Nat, b ≤ n1 ∧ i = .int .i64 b ∧ OwnI wr (w.heap.size + 1 + 1) v (genL n1 n2 p f ((a * n1 + b) * n2)) ∧ w.heap.size + 1 + 1 ≤ wr.heap.size ∧ Below w.heap.size w wr ∧ At wr w.heap.size (.cells #[.int .i64 n0, .int .i64 n1, .int .i64 n2] 52 (0, 0)) ∧ At wr (w.heap.size + 1) (.cells #[.int .i64 0, .int .i64 0, .int .i64 0, .int .i64 0, .slice none 0 0] 29 (0, 0))) (fun _ i _ => n1 - (intOf i).toNat)
      case atStart => exact ⟨0, by omega, rfl, by rw [Nat.add_zero]; exact ho, z2, hB, hb, ht⟩
      case round =>
        clear hB hb ht ho z2
        obtain ⟨b, hb1, rfl, ho, z2, hB, hb, ht⟩ := hrel
        obtain ⟨wb, rfl⟩ : ∃ x : World, x = wr := ⟨_, rfl⟩
        by_cases hlt2 : b < n1
        · have e1 : IntKind.i64.wrap ((b : Int) + 1) = (b : Int) + 1 := IntWalk.i64_in _ (by omega)
          have hlt2' : (b : Int) < (n1 : Int) := by omega
          have c2 : wb.cell? ⟨w.heap.size, 2, none⟩ = some (.int .i64 n2) := hb.at_ 2
          go_wp2_with fail
          clear c2
          go_loopw [7, 26] (fun v i wr => ∃ c : Nat, c ≤ n2 ∧ i = .int .i64 c ∧ OwnI wr (w.heap.size + 1 + 1) v (genL n1 n2 p f ((a * n1 + b) * n2 + c)) ∧ w.heap.size + 1 + 1 ≤ wr.heap.size ∧ Below w.heap.size w wr ∧ At wr w.heap.size (.cells #[.int .i64 n0, .int .i64 n1, .int .i64 n2] 52 (0, 0)) ∧ At wr (w.heap.size + 1) (.cells #[.int .i64 0, .int .i64 0, .int .i64 0, .int .i64 0, .slice none 0 0] 29 (0, 0))) (fun _ i _ => n2 - (intOf i).toNat)
          case atStart => exact ⟨0, by omega, rfl, by rw [Nat.add_zero]; exact ho, z2, hB, hb, ht⟩
          case round =>
            clear hB hb ht ho z2
            obtain ⟨c, hc1, rfl, ho, z2, hB, hb, ht⟩ := hrel
            obtain ⟨wc, rfl⟩ : ∃ x : World, x = wr := ⟨_, rfl⟩
            by_cases hlt3 : c < n2
            · have e2 : IntKind.i64.wrap ((c : Int) + 1) = (c : Int) + 1 := IntWalk.i64_in _ (by omega)
              have hlt3' : (c : Int) < (n2 : Int) := by omega
              obtain ⟨hf0, hCall⟩ := HF.out a b c wc hlt hlt2 hlt3 hB
              have HC := Lib.hid hCall
              have HS := Lib.hid (HG.out a b c hlt2 hlt3)
              have HLt := Lib.hid (HL.out a b c hlt hlt2 hlt3)
              have hlen : (genL n1 n2 p f ((a * n1 + b) * n2 + c)).length ≤ 1000000 := by rw [genL_len]; have := HLt.out; omega
              clear hCall
              generalize f a b c = fv at *
              generalize genL n1 n2 p f ((a * n1 + b) * n2 + c) = ys at *
              go_wp2_with fail
              refine HC.out.mono ?_
              rintro e w3 ⟨rfl, b3⟩
              have z3 : w.heap.size + 1 + 1 ≤ w3.heap.size := Nat.le_trans z2 b3.size
              replace hB := below_after hB b3
              replace hb := hb.after b3
              replace ht := ht.after b3
              replace ho := ho.below b3
              clear b3 z2
              go_wp2_with (first | (refine wpList_bsi1 rfl _ rfl _ rfl (fv % p) rfl ?_; intro w4 nn; have b4 := nn.below (Below.refl _ _) (Nat.le_refl _); have z4 : w.heap.size + 1 + 1 ≤ w4.heap.size := Nat.le_trans z3 b4.size; have hB4 := below_after hB b4; have hb4 := hb.after b4; have ht4 := ht.after b4; have ho4 := ho.below b4; have hn4 := nn.at_; clear nn b4) | (at_builtin; refine wpList_appI rfl _ rfl _ _ rfl _ ys (fv % p) rfl ho4 _ rfl hn4 hlen z4 ?_; intro v5 w5 ho5 gr5; have hB5 := hB4.grown gr5 (Below.size hB4) (fun k hk => by have := (ho4.lt hk).1; omega); have z5 : w.heap.size + 1 + 1 ≤ w5.heap.size := Nat.le_trans z4 gr5.size; have hb5 := At.grown hb4 gr5 (fun e => by have := (ho4.lt e.symm).1; omega); have ht5 := At.grown ht4 gr5 (fun e => by have := (ho4.lt e.symm).1; omega)))
              go_roundw
              case rel => exact ⟨c + 1, by omega, by go_num, by rw [← HS.out]; exact ho5, z5, hB5, hb5, ht5⟩
              case measure => simp [intOf]; omega
            · obtain rfl : c = n2 := by omega
              go_wp2_with fail
              go_roundw
              case rel => exact ⟨b + 1, by omega, by go_num, by rw [← Nat.add_assoc, Nat.add_mul (a * n1 + b), Nat.one_mul]; exact ho, z2, hB, hb, ht⟩
              case measure => simp [intOf]; omega
        · obtain rfl : b = n1 := by omega
          go_wp2_with fail
          go_roundw
          case rel => exact ⟨a + 1, by omega, by go_num, by rw [Nat.add_mul a 1, Nat.one_mul]; exact ho, z2, hB, hb, ht⟩
          case measure => simp [intOf]; omega
    · obtain rfl : a = n0 := by omega
      obtain ⟨A5, c5, rfl, _⟩ := ho.rd
      go_wp2_with (refine wpList_load_all rfl 52 _ rfl w.heap.size rfl _ _ _ hb Try.underlying52 rfl 3 (by kernel_rfl) rfl ?_)
      refine (tensorOfTurn_c p a n1 n2 A5 _ c5 _).mono ?_
      rintro e w6 ⟨rfl, b6⟩
      replace hB := below_after hB b6
      replace ht := ht.after b6
      replace ho := ho.below b6
      go_wp2_with (refine wpList_store_all rfl 29 _ _ rfl rfl (w.heap.size + 1) rfl _ rfl _ _ ht 5 (by kernel_rfl) rfl rfl (by simp [Value.oneCell']) ?_; intro w7 p7)
      refine bodyPost_ret (results_at rfl _ _ (w.heap.size + 1) _ _ _ rfl p7.at_ Try.underlying29 rfl 5 (by kernel_rfl) rfl) rfl ?_
      exact ⟨_, rfl, (ho.put p7 (fun e => by have := (ho.lt e.symm).1; omega)).mono (by omega), p7.below hB (by omega)⟩
end Go.Proofs.Ytolgfpcadfjliaa
