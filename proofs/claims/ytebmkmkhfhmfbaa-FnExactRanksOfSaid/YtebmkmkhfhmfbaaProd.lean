/-
  impl.isProduct for any shapes; isProductFor: the same as spec.l01Product says.
-/
import Derived.Test.YtebmkmkhfhmfbaaFac
import Derived.Maps.RangeWalk
namespace Go.Proofs.Ytebmkmkhfhmfbaa
open Go.RowKit
set_option maxRecDepth 100000
attribute [local irreducible] wpStill
def shR (n m : Int) (i : Nat) : Int := if i = 1 then m else n
def shC (m k : Int) (i : Nat) : Int := if i = 0 then m else k
def facB (p n m k : Int) (q : List Nat) (i : Nat) : Bool := !zeroB (segm q (i * 9) 9) && formB p (segm q (i * 9) 9) (shR n m i * shC m k i)
theorem prodB_facs (p n m k : Int) (q : List Nat) : prodB p n m k q = (facB p n m k q 0 && facB p n m k q 1 && facB p n m k q 2) := by
  simp only [prodB, facB, shR, shC, Nat.zero_mul, Nat.one_mul, show 2 * 9 = 18 from rfl, show ¬ (0 : Nat) = 1 by omega, show ¬ (1 : Nat) = 0 by omega, show ¬ (2 : Nat) = 0 by omega, show ¬ (2 : Nat) = 1 by omega, if_true, if_false]
  cases formB p (segm q 0 9) (n * m) <;> cases formB p (segm q 9 9) (m * k) <;> cases formB p (segm q 18 9) (n * k) <;> cases zeroB (segm q 0 9) <;> cases zeroB (segm q 9 9) <;> cases zeroB (segm q 18 9) <;> rfl
theorem prodB_no {p n m k : Int} {q : List Nat} {i : Nat} (hi : i < 3) (h : facB p n m k q i = false) : prodB p n m k q = false := by
  rw [prodB_facs]
  obtain rfl | rfl | rfl : i = 0 ∨ i = 1 ∨ i = 2 := by omega
  all_goals simp [h]
theorem prodB_yes {p n m k : Int} {q : List Nat} (h : ∀ i, i < 3 → facB p n m k q i = true) : prodB p n m k q = true := by
  rw [prodB_facs, h 0 (by omega), h 1 (by omega), h 2 (by omega)]
  rfl
theorem sizeB_shR {n m : Int} (hn : sizeB n = true) (hm : sizeB m = true) (i : Nat) : sizeB (shR n m i) = true := by unfold shR; split <;> assumption
theorem sizeB_shC {m k : Int} (hm : sizeB m = true) (hk : sizeB k = true) (i : Nat) : sizeB (shC m k i) = true := by unfold shC; split <;> assumption
theorem shapes_at (n m k : Int) {i : Nat} (hi : i < 3) : (#[.int .i64 n, .int .i64 m, .int .i64 m, .int .i64 k, .int .i64 n, .int .i64 k] : Array Value).extract (0 + i * 2) (0 + i * 2 + 2) = #[.int .i64 (shR n m i), .int .i64 (shC m k i)] := by
  obtain rfl | rfl | rfl : i = 0 ∨ i = 1 ∨ i = 2 := by omega
  all_goals rfl
/-- What a factor has to be, the shapes being told as functions. -/
def facG (p : Int) (R C : Nat → Int) (q : List Nat) (i : Nat) : Bool := !zeroB (segm q (i * 9) 9) && formB p (segm q (i * 9) 9) (R i * C i)
def prodG (p : Int) (R C : Nat → Int) (q : List Nat) : Bool := facG p R C q 0 && facG p R C q 1 && facG p R C q 2
theorem prodB_G (p n m k : Int) (q : List Nat) : prodB p n m k q = prodG p (shR n m) (shC m k) q := prodB_facs p n m k q
theorem prodG_no {p : Int} {R C : Nat → Int} {q : List Nat} {i : Nat} (hi : i < 3) (h : facG p R C q i = false) : prodG p R C q = false := by
  unfold prodG
  obtain rfl | rfl | rfl : i = 0 ∨ i = 1 ∨ i = 2 := by omega
  all_goals simp [h]
theorem prodG_yes {p : Int} {R C : Nat → Int} {q : List Nat} (h : ∀ i, i < 3 → facG p R C q i = true) : prodG p R C q = true := by
  unfold prodG
  rw [h 0 (by omega), h 1 (by omega), h 2 (by omega)]
  rfl
/-- The numbers of places are told. -/
def ShOk (R C : Nat → Int) : Prop := ∀ i, i < 3 → ∀ w : World, Calls Try.prog 54 #[.agg #[.int .i64 (R i), .int .i64 (C i)]] w fun e w' => e = .returned (.int .i64 (R i * C i)) ∧ Below w.heap.size w w'
theorem ShOk.of_sizes {n m k : Int} (hn : sizeB n = true) (hm : sizeB m = true) (hk : sizeB k = true) : ShOk (shR n m) (shC m k) := fun i _ w => places_c _ _ w (sizeB_shR hn hm i) (sizeB_shC hm hk i)
theorem shapes_atG (R C : Nat → Int) {i : Nat} (hi : i < 3) : (#[.int .i64 (R 0), .int .i64 (C 0), .int .i64 (R 1), .int .i64 (C 1), .int .i64 (R 2), .int .i64 (C 2)] : Array Value).extract (0 + i * 2) (0 + i * 2 + 2) = #[.int .i64 (R i), .int .i64 (C i)] := by
  obtain rfl | rfl | rfl : i = 0 ∨ i = 1 ∨ i = 2 := by omega
  all_goals rfl
def ProdRel (w : World) (p : Int) (R C : Nat → Int) (q : List Nat) (i : Value) (wr : World) : Prop :=
  ∃ j : Nat, j ≤ 3 ∧ i = .int .i64 j ∧ Below w.heap.size w wr ∧
    At wr w.heap.size (.cells #[.int .i64 (R 0), .int .i64 (C 0), .int .i64 (R 1), .int .i64 (C 1), .int .i64 (R 2), .int .i64 (C 2)] 53 (0, 0)) ∧ ∀ i, i < j → facG p R C q i = true
set_option maxHeartbeats 800000 in
theorem isProduct_c (p : Int) (R C : Nat → Int) (q : List Nat) (hp : 0 < p) (hq : Bytes 27 q) (hS : ShOk R C) (w : World) :
    Calls Try.prog 71 #[.int .i64 p, .agg #[.int .i64 (R 0), .int .i64 (C 0), .int .i64 (R 1), .int .i64 (C 1), .int .i64 (R 2), .int .i64 (C 2)], .agg (u8s q)] w fun e w' => e = .returned (.bool (prodG p R C q)) ∧ Below w.heap.size w w' := by
  have zq : 27 ≤ q.length := by rw [hq.len]; exact Nat.le_refl _
  have Hsz := Lib.hid hS
  clear hS
  go_enter Try.func71, Try.ntmps71
  go_wp2_with (first | (refine wpList_abs2 ?_; intro W hsz hB h0 h1) | (refine wpList_load_all rfl 47 _ rfl (w.heap.size + 1) rfl _ _ _ h1 Try.underlying47 rfl 27 (by kernel_rfl) ((u8s_size _).trans hq.len) ?_))
  clear hsz
  refine (factorsOf_c q hq _).mono ?_
  rintro e w4 ⟨rfl, c1⟩
  replace h0 := h0.after c1
  replace hB := below_after hB c1
  clear c1 h1
  go_wp2_with fail
  go_loopw [11] (fun i wr => ProdRel w p R C q i wr) (fun i _ => 3 - (intOf i).toNat)
  case atStart => exact ⟨0, by omega, rfl, hB, h0, by omega⟩
  case round =>
    clear hB h0
    obtain ⟨j, hj, rfl, hB, h0, hall⟩ := hrel
    have Hall := Lib.hid hall
    clear hall
    by_cases hlt : j < 3
    · have bs : Bytes 9 (segm q (j * 9) 9) := segm_bytes hq (by omega)
      have l2 := h0.lt
      have lB' := hB.size
      go_wp2_with (first | (refine wpList_of_exec rfl (exec_index_seg 58 45 _ _ rfl 3 j 9 q _ rfl rfl Try.underlying58 Try.underlying45 rfl (by kernel_rfl) hlt) ?_) | (refine wpList_abs1 ?_; intro W5 hsz5 hB5 s5; replace h0 := h0.after hB5; replace hB := below_after hB hB5; replace s5 : At W5 wr.heap.size (.cells (u8s (List.replicate 9 0)) 45 (0, 0)) := s5) | (refine wpList_store_u8s rfl 45 _ _ rfl rfl wr.heap.size 0 rfl _ rfl _ _ s5 9 (by kernel_rfl) bs.len (by simp) ?_; intro W6 p6; replace h0 := p6.other h0 (by omega); replace hB := p6.below hB (by omega)))
      have s6 := p6.at_
      rw [over_all (by rw [bs.len]; simp)] at s6
      clear p6 s5 hsz5 hB5
      have HF : Hid (facG p R C q j = (!zeroB (segm q (j * 9) 9) && formB p (segm q (j * 9) 9) (R j * C j))) := Lib.hid rfl
      refine wp_region_still_tail (P := Try.prog) 5 (by kernel_rfl) (by kernel_rfl) ?_
      simp only [List.take_succ_cons, List.take_zero, List.drop_succ_cons, List.drop_zero]
      refine wpStill_of_exec rfl (exec_move _ rfl (.int .i64 p) rfl) ?_
      go_frame
      refine wpStill_of_exec rfl (exec_move _ rfl (.int .i64 j) rfl) ?_
      go_frame
      refine wpStill_of_exec rfl (exec_index_arr 53 52 _ _ rfl w.heap.size 0 3 j 2 rfl rfl Try.underlying53 (by kernel_rfl) hlt) ?_
      go_frame
      refine wpStill_of_exec rfl (exec_load_lit 52 _ rfl w.heap.size (0 + j * 2) rfl _ _ _ 2 (by exact h0) Try.underlying52 rfl (by kernel_rfl) (by simp; omega) _ (shapes_atG R C hlt)) ?_
      go_frame
      refine wpStill_of_exec rfl (exec_load_all 45 _ rfl wr.heap.size rfl _ _ _ s6 Try.underlying45 rfl 9 (by kernel_rfl) ((u8s_size _).trans bs.len)) ?_
      go_frame
      refine wpStill_nil ?_
      go_wp2_with fail
      refine (isFactor_c p _ _ _ hp (Hsz.out j hlt) bs _).mono ?_
      rintro e w7 ⟨rfl, c1⟩
      replace h0 := At.after (h0.drewN 1) c1
      replace hB := below_after hB.drew c1
      clear c1
      rw [← HF.out]
      cases hf : facG p R C q j with
      | false =>
        have Hno : Hid (prodG p R C q = false) := Lib.hid (prodG_no hlt hf)
        clear hf HF
        go_wp2_with fail
        go_ret
        exact ⟨by rw [Hno.out]; rfl, hB⟩
      | true =>
        have Hok : Hid (facG p R C q j = true) := Lib.hid hf
        clear hf HF
        go_wp2_with fail
        go_roundw
        case rel =>
          refine ⟨j + 1, by omega, by go_num, hB, h0, fun i hi => ?_⟩
          by_cases hij : i = j
          · subst hij; exact Hok.out
          · exact Hall.out i (by omega)
        case measure => simp [intOf]; omega
    · obtain rfl : j = 3 := by omega
      have Hyes : Hid (prodG p R C q = true) := Lib.hid (prodG_yes Hall.out)
      go_wp2_with fail
      go_ret
      exact ⟨by rw [Hyes.out]; rfl, hB⟩
end Go.Proofs.Ytebmkmkhfhmfbaa
