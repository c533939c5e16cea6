/-
  spec.l01Is, spec.IsScheme, impl.IsScheme: all three answer the same.
-/
import Derived.Test.YtebmkmkhfhmfbaaProd
namespace Go.Proofs.Ytebmkmkhfhmfbaa
open Go.RowKit
set_option maxRecDepth 100000
attribute [local irreducible] wpStill
def schemeB (p n m k : Int) (qs : List (List Nat)) : Bool := sizesB p n m k && decide (qs.length ≤ 30) && qs.all (prodB p n m k)
theorem schemeB_no {p n m k : Int} {qs : List (List Nat)} {i : Nat} (hi : i < qs.length) (h : prodB p n m k qs[i] = false) : schemeB p n m k qs = false := by
  have : qs.all (prodB p n m k) = false := by
    rw [List.all_eq_false]
    exact ⟨qs[i], List.getElem_mem hi, by simp [h]⟩
  simp [schemeB, this]
theorem schemeB_yes {p n m k : Int} {qs : List (List Nat)} (hs : sizesB p n m k = true) (hl : qs.length ≤ 30) (h : ∀ (i : Nat) (hi : i < qs.length), prodB p n m k qs[i] = true) : schemeB p n m k qs = true := by
  have : qs.all (prodB p n m k) = true := by
    rw [List.all_eq_true]
    intro q hq
    obtain ⟨i, hi, rfl⟩ := List.getElem_of_mem hq
    exact h i hi
  simp [schemeB, hs, hl, this]
theorem sizesB_parts {p n m k : Int} (h : sizesB p n m k = true) : primeB p = true ∧ sizeB n = true ∧ sizeB m = true ∧ sizeB k = true := by
  simp only [sizesB, Bool.and_eq_true] at h
  exact ⟨h.1.1.1, h.1.1.2, h.1.2, h.2⟩
theorem primeB_pos {p : Int} (h : primeB p = true) : 0 < p := by
  simp only [primeB, Bool.or_eq_true, beq_iff_eq] at h
  omega
abbrev SC (p n m k : Int) (A : Option Addr) (len c : Nat) : Array Value := #[.int .i64 p, .int .i64 n, .int .i64 m, .int .i64 k, .slice A len c]
def IsRel (w : World) (p n m k : Int) (A : Option Addr) (c : Nat) (qs : List (List Nat)) (i : Value) (wr : World) : Prop :=
  ∃ j : Nat, j ≤ qs.length ∧ i = .int .i64 j ∧ Below w.heap.size w wr ∧ At wr w.heap.size (.cells #[.int .i64 p, .int .i64 n, .int .i64 m, .int .i64 k, .slice A qs.length c] 31 (0, 0)) ∧
    ∀ (i : Nat) (hi : i < qs.length), i < j → prodB p n m k qs[i] = true
set_option maxHeartbeats 800000 in
theorem l01Is_c (p n m k : Int) (A : Option Addr) (c : Nat) (qs : List (List Nat)) (w : World) (hr : Rd w A qs) (hlen : qs.length ≤ 1048576) :
    Calls Try.prog 19 #[.agg #[.int .i64 p, .int .i64 n, .int .i64 m, .int .i64 k, .slice A qs.length c]] w fun e w' => e = .returned (.bool (schemeB p n m k qs)) ∧ Below w.heap.size w w' := by
  cases hs : sizesB p n m k with
  | false =>
    have Hs := Lib.hid hs
    have Hno : Hid (schemeB p n m k qs = false) := Lib.hid (by simp [schemeB, hs])
    clear hs
    go_enter Try.func19, Try.ntmps19
    go_wp2_with fail
    refine (l01Sizes_c p n m k _).mono ?_
    rintro e w1 ⟨rfl, rfl⟩
    rw [Hs.out]
    go_wp2_with fail
    go_ret
    exact ⟨by rw [Hno.out]; rfl, below1 _ _⟩
  | true =>
    have Hs := Lib.hid hs
    clear hs
    by_cases h30 : 30 < qs.length
    · have Hno : Hid (schemeB p n m k qs = false) := Lib.hid (by simp [schemeB]; omega)
      have d30 : decide ((30 : Int) < (qs.length : Int)) = true := by simp; omega
      go_enter Try.func19, Try.ntmps19
      go_wp2_with fail
      refine (l01Sizes_c p n m k _).mono ?_
      rintro e w1 ⟨rfl, rfl⟩
      rw [Hs.out]
      go_wp2_with fail
      go_ret
      exact ⟨by rw [Hno.out]; rfl, below1 _ _⟩
    · have d30 : decide ((30 : Int) < (qs.length : Int)) = false := by simp; omega
      go_enter Try.func19, Try.ntmps19
      go_wp2_with fail
      refine (l01Sizes_c p n m k _).mono ?_
      rintro e w1 ⟨rfl, rfl⟩
      rw [Hs.out]
      go_wp2_with fail
      go_loopw [3] (fun i wr => IsRel w p n m k A c qs i wr) (fun i _ => qs.length - (intOf i).toNat)
      case atStart => exact ⟨0, by omega, rfl, below1 _ _, al1_0 _ _, by omega⟩
      case round =>
        obtain ⟨j, hj, rfl, hB, h0, hall⟩ := hrel
        have Hall := Lib.hid hall
        clear hall
        have c4 : wr.cell? ⟨w.heap.size, 4, none⟩ = some (.slice A qs.length c) := h0.at_ 4
        by_cases hlt : j < qs.length
        · obtain ⟨b, off, hA0, hc⟩ := (hr.keep hB).at_ hlt
          have g1 := hr.good qs[j] (List.getElem_mem hlt)
          have Hc := Lib.hid hc
          clear hc
          subst hA0
          go_wp2_with fail
          refine wp_region_still_tail (P := Try.prog) 6 (by kernel_rfl) (by kernel_rfl) ?_
          simp only [List.take_succ_cons, List.take_zero, List.drop_succ_cons, List.drop_zero]
          refine wpStill_of_exec rfl (exec_load_all 31 _ rfl w.heap.size rfl _ _ _ (by exact h0) Try.underlying31 rfl 5 (by kernel_rfl) rfl) ?_
          go_frame
          refine wpStill_of_exec rfl (exec_fieldAddr 31 _ 4 rfl (.pointer (some ⟨w.heap.size, 4, none⟩)) (by kernel_rfl)) ?_
          go_frame
          refine wpStill_of_exec rfl (exec_load_one 29 _ rfl w.heap.size 4 rfl (.slice (some ⟨b, off, none⟩) qs.length c) _ Try.underlying29 rfl c4) ?_
          go_frame
          refine wpStill_of_exec rfl (exec_move _ rfl (.int .i64 j) rfl) ?_
          go_frame
          refine wpStill_of_exec rfl (exec_index_slice _ 47 _ _ rfl b off qs.length c j 27 rfl rfl Try.underlying29 (by kernel_rfl) hlt) ?_
          go_frame
          refine wpStill_of_exec rfl (exec_load_cells 47 _ rfl b (off + j * 27) rfl qs[j] _ 27 (by exact Hc.out) Try.underlying47 rfl (by kernel_rfl) g1.len) ?_
          go_frame
          refine wpStill_nil ?_
          go_wp2_with fail
          refine (l01Product_c p n m k _ qs[j] g1 (sizesB_parts Hs.out).2.1 (sizesB_parts Hs.out).2.2.1 (sizesB_parts Hs.out).2.2.2 _).mono ?_
          rintro e w2 ⟨rfl, b2⟩
          have hB2 := below_after hB.drew b2
          have h2 := At.after (h0.drewN 1) b2
          cases hx : prodB p n m k qs[j] with
          | false =>
            have Hno : Hid (schemeB p n m k qs = false) := Lib.hid (schemeB_no hlt hx)
            clear hx
            go_wp2_with fail
            go_ret
            exact ⟨by rw [Hno.out]; rfl, hB2⟩
          | true =>
            have Hx := Lib.hid hx
            clear hx
            go_wp2_with fail
            go_roundw
            case rel =>
              refine ⟨j + 1, by omega, by go_num, hB2, h2, fun i hi hij => ?_⟩
              by_cases e : i = j
              · subst e; exact Hx.out
              · exact Hall.out i hi (by omega)
            case measure => simp [intOf]; omega
        · obtain rfl : j = qs.length := by omega
          have Hyes : Hid (schemeB p n m k qs = true) := Lib.hid (schemeB_yes Hs.out (by omega) fun i hi => Hall.out i hi hi)
          go_wp2_with fail
          go_ret
          exact ⟨by rw [Hyes.out]; rfl, hB⟩
end Go.Proofs.Ytebmkmkhfhmfbaa
