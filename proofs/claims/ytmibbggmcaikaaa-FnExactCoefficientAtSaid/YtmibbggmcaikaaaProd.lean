/-
  impl.isProductFor: the same as spec.l01Product says.
-/
import Derived.Test.YtmibbggmcaikaaaOk
import Derived.Maps.RangeWalk
namespace Go.Proofs.Ytmibbggmcaikaaa
open Go.RowKit
set_option maxRecDepth 100000
attribute [local irreducible] wpStill
def shR (n m : Int) (i : Nat) : Int := if i = 1 then m else n
def shC (m k : Int) (i : Nat) : Int := if i = 0 then m else k
def facB (p n m k : Int) (q : List Nat) (i : Nat) : Bool := !zeroB (segm q (i * 9) 9) && formB p (segm q (i * 9) 9) (shR n m i * shC m k i)
theorem prodB_facs (p n m k : Int) (q : List Nat) : prodB p n m k q = (facB p n m k q 0 && facB p n m k q 1 && facB p n m k q 2) := by
  simp only [prodB, facB, shR, shC, Nat.zero_mul, Nat.one_mul, show 2 * 9 = 18 from rfl, show ¬ (0 : Nat) = 1 by omega, show ¬ (1 : Nat) = 0 by omega, show ¬ (2 : Nat) = 0 by omega, show ¬ (2 : Nat) = 1 by omega, if_true, if_false]
  cases formB p (segm q 0 9) (n * m) <;> cases formB p (segm q 9 9) (m * k) <;> cases formB p (segm q 18 9) (n * k) <;> cases zeroB (segm q 0 9) <;> cases zeroB (segm q 9 9) <;> cases zeroB (segm q 18 9) <;> rfl
theorem prodB_no {p n m k : Int} {q : List Nat} {i : Nat} (hi : i < 3) (h : facB p n m k q i = false) : prodB p n m k q = false := by
  rw [prodB_facs]
  obtain rfl | rfl | rfl : i = 0 ∨ i = 1 ∨ i = 2 := by omega
  all_goals simp [h]
theorem prodB_yes {p n m k : Int} {q : List Nat} (h : ∀ i, i < 3 → facB p n m k q i = true) : prodB p n m k q = true := by
  rw [prodB_facs, h 0 (by omega), h 1 (by omega), h 2 (by omega)]
  rfl
theorem sizeB_shR {n m : Int} (hn : sizeB n = true) (hm : sizeB m = true) (i : Nat) : sizeB (shR n m i) = true := by unfold shR; split <;> assumption
theorem sizeB_shC {m k : Int} (hm : sizeB m = true) (hk : sizeB k = true) (i : Nat) : sizeB (shC m k i) = true := by unfold shC; split <;> assumption
theorem shapes_at (n m k : Int) {i : Nat} (hi : i < 3) : (#[.int .i64 n, .int .i64 m, .int .i64 m, .int .i64 k, .int .i64 n, .int .i64 k] : Array Value).extract (0 + i * 2) (0 + i * 2 + 2) = #[.int .i64 (shR n m i), .int .i64 (shC m k i)] := by
  obtain rfl | rfl | rfl : i = 0 ∨ i = 1 ∨ i = 2 := by omega
  all_goals rfl
def ProdForRel (w : World) (g : Nat) (p n m k : Int) (v : Value) (q : List Nat) (i : Value) (wr : World) : Prop :=
  ∃ j : Nat, j ≤ 3 ∧ i = .int .i64 j ∧ Below w.heap.size w wr ∧ At wr w.heap.size (.cells #[.int .i64 p, .int .i64 n, .int .i64 m, .int .i64 k, v] 36 (0, 0)) ∧
    At wr g (.cells #[.int .i64 n, .int .i64 m, .int .i64 m, .int .i64 k, .int .i64 n, .int .i64 k] 90 (0, 0)) ∧ ∀ i, i < j → facB p n m k q i = true
set_option maxHeartbeats 800000 in
theorem isProductFor_c (p n m k : Int) (v : Value) (q : List Nat) (hp : 0 < p) (hq : Bytes 27 q) (hn : sizeB n = true) (hm : sizeB m = true) (hk : sizeB k = true) (w : World) :
    Calls Try.prog 73 #[.agg #[.int .i64 p, .int .i64 n, .int .i64 m, .int .i64 k, v], .agg (u8s q)] w fun e w' => e = .returned (.bool (prodB p n m k q)) ∧ Below w.heap.size w w' := by
  have zq : 27 ≤ q.length := by rw [hq.len]; exact Nat.le_refl _
  have Hsz := Lib.hid (And.intro hn (And.intro hm hk))
  clear hn hm hk
  go_enter Try.func73, Try.ntmps73
  go_wp2_with (first | (refine wpList_abs2 ?_; intro W hsz hB h0 h1) | (refine wpList_load_all rfl 36 _ rfl w.heap.size rfl _ _ _ h0 Try.underlying36 rfl 5 (by kernel_rfl) rfl ?_))
  clear hsz
  refine (shapesOf_c p n m k v _).mono ?_
  rintro e w1 ⟨rfl, c1⟩
  replace h0 := h0.after c1
  replace h1 := h1.after c1
  replace hB := below_after hB c1
  clear c1
  have l0 := h0.lt
  have l1 := h1.lt
  have lB := hB.size
  go_wp2_with (first | (refine wpList_abs1 ?_; intro W2 hsz2 hB2 s2; replace h0 := h0.after hB2; replace h1 := h1.after hB2; replace hB := below_after hB hB2) | (refine wpList_store_all rfl 90 _ _ rfl rfl w1.heap.size rfl _ rfl _ _ s2 6 (by kernel_rfl) rfl rfl (by simp [Value.oneCell']) ?_; intro W3 p3; replace h0 := p3.other h0 (by omega); replace h1 := p3.other h1 (by omega); replace hB := p3.below hB (by omega)) | (refine wpList_load_all rfl 68 _ rfl (w.heap.size + 1) rfl _ _ _ h1 Try.underlying68 rfl 27 (by kernel_rfl) ((u8s_size _).trans hq.len) ?_))
  have h2 := p3.at_
  clear p3 s2 hsz2 hB2
  generalize hg : w1.heap.size = g at *
  clear hg
  refine (factorsOf_c q hq _).mono ?_
  rintro e w4 ⟨rfl, c1⟩
  replace h0 := h0.after c1
  replace h2 := h2.after c1
  replace hB := below_after hB c1
  clear c1 h1
  go_wp2_with fail
  go_loopw [12] (fun i wr => ProdForRel w g p n m k v q i wr) (fun i _ => 3 - (intOf i).toNat)
  case atStart => exact ⟨0, by omega, rfl, hB, h0, h2, by omega⟩
  case round =>
    clear hB h0 h2
    obtain ⟨j, hj, rfl, hB, h0, h2, hall⟩ := hrel
    have Hall := Lib.hid hall
    clear hall
    by_cases hlt : j < 3
    · have bs : Bytes 9 (segm q (j * 9) 9) := segm_bytes hq (by omega)
      have l2 := h0.lt
      have l3 := h2.lt
      have lB' := hB.size
      go_wp2_with (first | (refine wpList_of_exec rfl (exec_index_seg 102 56 _ _ rfl 3 j 9 q _ rfl rfl Try.underlying102 Try.underlying56 rfl (by kernel_rfl) hlt) ?_) | (refine wpList_abs1 ?_; intro W5 hsz5 hB5 s5; replace h0 := h0.after hB5; replace h2 := h2.after hB5; replace hB := below_after hB hB5; replace s5 : At W5 wr.heap.size (.cells (u8s (List.replicate 9 0)) 56 (0, 0)) := s5) | (refine wpList_store_u8s rfl 56 _ _ rfl rfl wr.heap.size 0 rfl _ rfl _ _ s5 9 (by kernel_rfl) bs.len (by simp) ?_; intro W6 p6; replace h0 := p6.other h0 (by omega); replace h2 := p6.other h2 (by omega); replace hB := p6.below hB (by omega)))
      have s6 := p6.at_
      rw [over_all (by rw [bs.len]; simp)] at s6
      clear p6 s5 hsz5 hB5
      cases hz : zeroB (segm q (j * 9) 9) with
      | true =>
        have HZ : Hid ((segm q (j * 9) 9 == List.replicate 9 0) = true) := Lib.hid hz
        have Hno : Hid (prodB p n m k q = false) := Lib.hid (prodB_no hlt (by unfold facB; rw [hz]; rfl))
        clear hz
        refine wp_region_still_tail (P := Try.prog) 10 (by kernel_rfl) (by kernel_rfl) ?_
        simp only [List.take_succ_cons, List.take_zero, List.drop_succ_cons, List.drop_zero]
        refine wpStill_of_exec rfl (exec_load_all 56 _ rfl wr.heap.size rfl _ _ _ s6 Try.underlying56 rfl 9 (by kernel_rfl) ((u8s_size _).trans bs.len)) ?_
        go_frame
        refine wpStill_of_exec rfl (exec_build_nil 56 rfl (u8s (List.replicate 9 0)) (by kernel_rfl)) ?_
        go_frame
        refine wpStill_of_exec rfl (exec_eql_u8s_b 56 _ 5 _ _ rfl 9 Try.underlying56 Try.underlying5 (by kernel_rfl) (by kernel_rfl) (segm q (j * 9) 9) (List.replicate 9 0) rfl rfl bs.len (by simp) true HZ.out) ?_
        go_frame
        refine wpStill_of_exec rfl (exec_move _ rfl (.bool true) rfl) ?_
        go_frame
        refine wpStill_skip rfl ?_
        go_frame
        refine wpStill_skip rfl ?_
        go_frame
        refine wpStill_skip rfl ?_
        go_frame
        refine wpStill_skip rfl ?_
        go_frame
        refine wpStill_skip rfl ?_
        go_frame
        refine wpStill_skip rfl ?_
        go_frame
        refine wpStill_nil ?_
        go_wp2_with fail
        go_ret
        exact ⟨by rw [Hno.out]; rfl, hB.drew⟩
      | false =>
        have HZ : Hid ((segm q (j * 9) 9 == List.replicate 9 0) = false) := Lib.hid hz
        have HZ2 := Lib.hid hz
        clear hz
        have hc0 := h0.at_ 0
        refine wp_region_still_tail (P := Try.prog) 10 (by kernel_rfl) (by kernel_rfl) ?_
        simp only [List.take_succ_cons, List.take_zero, List.drop_succ_cons, List.drop_zero]
        refine wpStill_of_exec rfl (exec_load_all 56 _ rfl wr.heap.size rfl _ _ _ s6 Try.underlying56 rfl 9 (by kernel_rfl) ((u8s_size _).trans bs.len)) ?_
        go_frame
        refine wpStill_of_exec rfl (exec_build_nil 56 rfl (u8s (List.replicate 9 0)) (by kernel_rfl)) ?_
        go_frame
        refine wpStill_of_exec rfl (exec_eql_u8s_b 56 _ 5 _ _ rfl 9 Try.underlying56 Try.underlying5 (by kernel_rfl) (by kernel_rfl) (segm q (j * 9) 9) (List.replicate 9 0) rfl rfl bs.len (by simp) false HZ.out) ?_
        go_frame
        refine wpStill_of_exec rfl (exec_move _ rfl (.bool false) rfl) ?_
        go_frame
        refine wpStill_want rfl (exec_fieldAddr 36 _ 0 rfl (.pointer (some ⟨w.heap.size, 0, none⟩)) (by kernel_rfl)) ?_
        go_frame
        refine wpStill_want rfl (exec_load1 2 _ rfl w.heap.size 0 rfl (.int .i64 p) .i64 Try.underlying2 hc0) ?_
        go_frame
        refine wpStill_want rfl (exec_move _ rfl (.int .i64 j) rfl) ?_
        go_frame
        refine wpStill_want rfl (exec_index_arr 90 89 _ _ rfl g 0 3 j 2 rfl rfl Try.underlying90 (by kernel_rfl) hlt) ?_
        go_frame
        refine wpStill_want rfl (exec_load_lit 89 _ rfl g (0 + j * 2) rfl _ _ _ 2 (by exact h2) Try.underlying89 rfl (by kernel_rfl) (by simp; omega) _ (shapes_at n m k hlt)) ?_
        go_frame
        refine wpStill_want rfl (exec_load_all 56 _ rfl wr.heap.size rfl _ _ _ s6 Try.underlying56 rfl 9 (by kernel_rfl) ((u8s_size _).trans bs.len)) ?_
        go_frame
        refine wpStill_nil ?_
        go_wp2_with fail
        refine (isForm_c p _ _ _ hp (sizeB_shR Hsz.out.1 Hsz.out.2.1 j) (sizeB_shC Hsz.out.2.1 Hsz.out.2.2 j) bs _).mono ?_
        rintro e w7 ⟨rfl, c1⟩
        replace h0 := At.after (h0.drewN 1) c1
        replace h2 := At.after (h2.drewN 1) c1
        replace hB := below_after hB.drew c1
        clear c1 hc0
        cases hf : formB p (segm q (j * 9) 9) (shR n m j * shC m k j) with
        | false =>
          have Hno : Hid (prodB p n m k q = false) := Lib.hid (prodB_no hlt (by unfold facB; rw [hf, HZ2.out]; rfl))
          clear hf
          go_wp2_with fail
          go_ret
          exact ⟨by rw [Hno.out]; rfl, hB⟩
        | true =>
          have Hok : Hid (facB p n m k q j = true) := Lib.hid (by unfold facB; rw [hf, HZ2.out]; rfl)
          clear hf
          go_wp2_with fail
          go_roundw
          case rel =>
            refine ⟨j + 1, by omega, by go_num, hB, h0, h2, fun i hi => ?_⟩
            by_cases hij : i = j
            · subst hij; exact Hok.out
            · exact Hall.out i (by omega)
          case measure => simp [intOf]; omega
    · obtain rfl : j = 3 := by omega
      have Hyes : Hid (prodB p n m k q = true) := Lib.hid (prodB_yes Hall.out)
      go_wp2_with fail
      go_ret
      exact ⟨by rw [Hyes.out]; rfl, hB⟩
end Go.Proofs.Ytmibbggmcaikaaa
