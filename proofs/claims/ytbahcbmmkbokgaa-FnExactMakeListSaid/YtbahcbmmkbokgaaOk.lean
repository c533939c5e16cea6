/-
  Forms and products as told: spec.l01Form, l01Zero, l01Product; impl.isForm, isProductFor.
-/
import Derived.Test.YtbahcbmmkbokgaaSizes
namespace Go.Proofs.Ytbahcbmmkbokgaa
open Go.RowKit
set_option maxRecDepth 100000
def okAt (p n : Int) (f : List Nat) (i : Nat) : Bool := decide (((f[i]?.getD 0 : Nat) : Int) < p) && (decide ((i : Int) < n) || f[i]?.getD 0 == 0)
def formB (p : Int) (f : List Nat) (n : Int) : Bool := (List.range 9).all (okAt p n f)
def zeroB (f : List Nat) : Bool := f == List.replicate 9 0
theorem formB_of {p n : Int} {f : List Nat} (h : ∀ j, j < 9 → okAt p n f j = true) : formB p f n = true := by
  unfold formB
  rw [List.all_eq_true]
  intro j hj
  exact h j (List.mem_range.1 hj)
theorem formB_not {p n : Int} {f : List Nat} {j : Nat} (hj : j < 9) (h : okAt p n f j = false) : formB p f n = false := by
  unfold formB
  rw [List.all_eq_false]
  exact ⟨j, List.mem_range.2 hj, by simp [h]⟩
def FormRel (w : World) (p n : Int) (f : List Nat) (i : Value) (wr : World) : Prop :=
  ∃ k : Nat, k ≤ 9 ∧ i = .int .i64 k ∧ Below w.heap.size w wr ∧ At wr w.heap.size (.cells (u8s f) 59 (0, 0)) ∧ ∀ j, j < k → okAt p n f j = true
set_option maxHeartbeats 400000 in
theorem l01Form_c (p : Int) (f : List Nat) (n : Int) (hf : Bytes 9 f) (w : World) :
    Calls Try.prog 41 #[.int .i64 p, .agg (u8s f), .int .i64 n] w fun e w' => e = .returned (.bool (formB p f n)) ∧ Below w.heap.size w w' := by
  go_enter Try.func41, Try.ntmps41
  go_wp2_with fail
  go_loopw [7] (fun i wr => FormRel w p n f i wr) (fun i _ => 9 - (intOf i).toNat)
  case atStart => exact ⟨0, by omega, rfl, below1 _ _, al1_0 _ _, by omega⟩
  case round =>
    obtain ⟨k, hk, rfl, hB, h0, hall⟩ := hrel
    have Hall := Lib.hid hall
    clear hall
    by_cases hlt : k < 9
    · have c0 := h0.cell (i := k) (by rw [hf.len]; exact hlt)
      have hx := hf.lt k
      generalize hX : f[k]?.getD 0 = x at *
      have HX := Lib.hid hX
      clear hX
      by_cases h1 : p ≤ (x : Int)
      · have Hno : Hid (formB p f n = false) := Lib.hid (formB_not hlt (by unfold okAt; rw [HX.out]; simp; omega))
        have d1 : decide (p ≤ (x : Int)) = true := by simp [h1]
        go_wp2_with fail
        go_ret
        exact ⟨by rw [Hno.out]; rfl, hB⟩
      · have d1 : decide (p ≤ (x : Int)) = false := by simp [h1]
        by_cases h2 : n ≤ (k : Int)
        · have d2 : decide (n ≤ (k : Int)) = true := by simp [h2]
          by_cases h3 : x = 0
          · have d3 : (((x : Nat) : Int) != 0) = false := by simp [h3]
            have Hok : Hid (okAt p n f k = true) := Lib.hid (by unfold okAt; rw [HX.out]; simp [h3]; omega)
            clear h3
            go_wp2_with fail
            go_roundw
            case rel =>
              refine ⟨k + 1, by omega, by go_num, hB, h0, fun j hj => ?_⟩
              by_cases hjk : j = k
              · subst hjk; exact Hok.out
              · exact Hall.out j (by omega)
            case measure => simp [intOf]; omega
          · have d3 : (((x : Nat) : Int) != 0) = true := by simp; omega
            have Hno : Hid (formB p f n = false) := Lib.hid (formB_not hlt (by unfold okAt; rw [HX.out]; simp [h3]; omega))
            clear h3
            go_wp2_with fail
            go_ret
            exact ⟨by rw [Hno.out]; rfl, hB⟩
        · have d2 : decide (n ≤ (k : Int)) = false := by simp [h2]
          have Hok : Hid (okAt p n f k = true) := Lib.hid (by unfold okAt; rw [HX.out]; simp; omega)
          go_wp2_with fail
          go_roundw
          case rel =>
            refine ⟨k + 1, by omega, by go_num, hB, h0, fun j hj => ?_⟩
            by_cases hjk : j = k
            · subst hjk; exact Hok.out
            · exact Hall.out j (by omega)
          case measure => simp [intOf]; omega
    · obtain rfl : k = 9 := by omega
      have Hyes : Hid (formB p f n = true) := Lib.hid (formB_of Hall.out)
      go_wp2_with fail
      go_ret
      exact ⟨by rw [Hyes.out]; rfl, hB⟩
set_option maxHeartbeats 400000 in
theorem l01Zero_c (f : List Nat) (hf : Bytes 9 f) (w : World) :
    Calls Try.prog 42 #[.agg (u8s f)] w fun e w' => e = .returned (.bool (zeroB f)) ∧ Below w.heap.size w w' := by
  go_enter Try.func42, Try.ntmps42
  go_wp2_with (first | (refine wpList_abs1 ?_; intro W hsz hB h0) | (refine wpList_load_all rfl 59 _ rfl w.heap.size rfl _ _ _ h0 Try.underlying59 rfl 9 (by kernel_rfl) ((u8s_size _).trans hf.len) ?_) | (refine wpList_of_exec rfl (exec_eql_u8s 59 _ 5 _ _ rfl 9 Try.underlying59 Try.underlying5 (by kernel_rfl) (by kernel_rfl) f (List.replicate 9 0) rfl rfl hf.len (by simp)) ?_))
  go_ret
  exact ⟨rfl, hB⟩
def prodB (p n m k : Int) (q : List Nat) : Bool := formB p (segm q 0 9) (n * m) && formB p (segm q 9 9) (m * k) && formB p (segm q 18 9) (n * k) && !zeroB (segm q 0 9) && !zeroB (segm q 9 9) && !zeroB (segm q 18 9)
def IsFormRel (w : World) (p r c : Int) (f : List Nat) (i : Value) (wr : World) : Prop :=
  ∃ k : Nat, k ≤ 9 ∧ i = .int .i64 k ∧ Below w.heap.size w wr ∧ At wr w.heap.size (.cells #[.int .i64 r, .int .i64 c] 80 (0, 0)) ∧ ∀ j, j < k → okAt p (r * c) f j = true
set_option maxHeartbeats 800000 in
theorem isForm_g (p r c : Int) (f : List Nat) (hp : 0 < p) (hP : ∀ w : World, Calls Try.prog 71 #[.agg #[.int .i64 r, .int .i64 c]] w fun e w' => e = .returned (.int .i64 (r * c)) ∧ Below w.heap.size w w') (hf : Bytes 9 f) (w : World) :
    Calls Try.prog 70 #[.int .i64 p, .agg #[.int .i64 r, .int .i64 c], .agg (u8s f)] w fun e w' => e = .returned (.bool (formB p f (r * c))) ∧ Below w.heap.size w w' := by
  have HP := Lib.hid hP
  clear hP
  go_enter Try.func70, Try.ntmps70
  go_wp2_with (first | (refine wpList_abs2 ?_; intro W hsz hB h0 h1) | (refine wpList_load_all rfl 59 _ rfl (w.heap.size + 1) rfl _ _ _ h1 Try.underlying59 rfl 9 (by kernel_rfl) ((u8s_size _).trans hf.len) ?_))
  clear hsz h1
  go_loopw [11] (fun i wr => IsFormRel w p r c f i wr) (fun i _ => 9 - (intOf i).toNat)
  case atStart => exact ⟨0, by omega, rfl, hB, h0, by omega⟩
  case round =>
    clear hB h0
    obtain ⟨k, hk, rfl, hB, h0, hall⟩ := hrel
    have Hall := Lib.hid hall
    clear hall
    by_cases hlt : k < 9
    · have hx := hf.lt k
      go_wp2_with (first | (refine wpList_of_exec rfl (exec_index_u8s 59 5 _ _ rfl 9 k f rfl rfl Try.underlying59 Try.underlying5 (by kernel_rfl) hf.len hlt) ?_) | (refine wpList_load_all rfl 80 _ rfl w.heap.size rfl _ _ _ h0 Try.underlying80 rfl 2 (by kernel_rfl) rfl ?_))
      refine (HP.out _).mono ?_
      rintro e w2 ⟨rfl, c1⟩
      replace h0 := h0.after c1
      replace hB := below_after hB c1
      clear c1
      generalize hX : f[k]?.getD 0 = x at *
      have HX := Lib.hid hX
      clear hX
      have tail : ∀ (X : Hid (okAt p (r * c) f k = true)), ∀ j, j < k + 1 → okAt p (r * c) f j = true := fun X j hj => by
        by_cases hjk : j = k
        · subst hjk; exact X.out
        · exact Hall.out j (by omega)
      have Tail := Lib.hid tail
      clear tail
      by_cases hin : (k : Int) < r * c
      · have d1 : decide ((k : Int) < r * c) = true := by simp [hin]
        by_cases hbig : p ≤ (x : Int)
        · have d2 : decide (p ≤ (x : Int)) = true := by simp [hbig]
          have Hno : Hid (formB p f (r * c) = false) := Lib.hid (formB_not hlt (by unfold okAt; rw [HX.out]; simp; omega))
          go_wp2_with fail
          go_ret
          exact ⟨by rw [Hno.out]; rfl, hB⟩
        · have d2 : decide (p ≤ (x : Int)) = false := by simp [hbig]
          have Hok : Hid (okAt p (r * c) f k = true) := Lib.hid (by unfold okAt; rw [HX.out]; simp; omega)
          go_wp2_with fail
          go_roundw
          case rel => exact ⟨k + 1, by omega, by go_num, hB, h0, Tail.out Hok⟩
          case measure => simp [intOf]; omega
      · have d1 : decide ((k : Int) < r * c) = false := by simp [hin]
        by_cases h3 : x = 0
        · have d3 : (((x : Nat) : Int) != 0) = false := by simp [h3]
          have Hok : Hid (okAt p (r * c) f k = true) := Lib.hid (by unfold okAt; rw [HX.out]; simp [h3]; omega)
          clear h3
          go_wp2_with fail
          go_roundw
          case rel => exact ⟨k + 1, by omega, by go_num, hB, h0, Tail.out Hok⟩
          case measure => simp [intOf]; omega
        · have d3 : (((x : Nat) : Int) != 0) = true := by simp; omega
          have Hno : Hid (formB p f (r * c) = false) := Lib.hid (formB_not hlt (by unfold okAt; rw [HX.out]; simp [h3]; omega))
          clear h3
          go_wp2_with fail
          go_ret
          exact ⟨by rw [Hno.out]; rfl, hB⟩
    · obtain rfl : k = 9 := by omega
      have Hyes : Hid (formB p f (r * c) = true) := Lib.hid (formB_of Hall.out)
      go_wp2_with fail
      go_ret
      exact ⟨by rw [Hyes.out]; rfl, hB⟩
theorem isForm_c (p r c : Int) (f : List Nat) (hp : 0 < p) (hr : sizeB r = true) (hc : sizeB c = true) (hf : Bytes 9 f) (w : World) :
    Calls Try.prog 70 #[.int .i64 p, .agg #[.int .i64 r, .int .i64 c], .agg (u8s f)] w fun e w' => e = .returned (.bool (formB p f (r * c))) ∧ Below w.heap.size w w' :=
  isForm_g p r c f hp (fun w => places_c r c w hr hc) hf w
end Go.Proofs.Ytbahcbmmkbokgaa
