/-
  Forms and products as told: spec.l01Form, l01Zero, l01Product; impl.isForm, isProductFor.
-/
import Derived.Test.YtebmkmkhfhmfbaaSizes
namespace Go.Proofs.Ytebmkmkhfhmfbaa
open Go.RowKit
set_option maxRecDepth 100000
def okAt (p n : Int) (f : List Nat) (i : Nat) : Bool := decide (((f[i]?.getD 0 : Nat) : Int) < p) && (decide ((i : Int) < n) || f[i]?.getD 0 == 0)
def formB (p : Int) (f : List Nat) (n : Int) : Bool := (List.range 9).all (okAt p n f)
def zeroB (f : List Nat) : Bool := f == List.replicate 9 0
theorem formB_of {p n : Int} {f : List Nat} (h : ∀ j, j < 9 → okAt p n f j = true) : formB p f n = true := by
  unfold formB
  rw [List.all_eq_true]
  intro j hj
  exact h j (List.mem_range.1 hj)
theorem formB_not {p n : Int} {f : List Nat} {j : Nat} (hj : j < 9) (h : okAt p n f j = false) : formB p f n = false := by
  unfold formB
  rw [List.all_eq_false]
  exact ⟨j, List.mem_range.2 hj, by simp [h]⟩
def FormRel (w : World) (p n : Int) (f : List Nat) (i : Value) (wr : World) : Prop :=
  ∃ k : Nat, k ≤ 9 ∧ i = .int .i64 k ∧ Below w.heap.size w wr ∧ At wr w.heap.size (.cells (u8s f) 45 (0, 0)) ∧ ∀ j, j < k → okAt p n f j = true
set_option maxHeartbeats 400000 in
theorem l01Form_c (p : Int) (f : List Nat) (n : Int) (hf : Bytes 9 f) (w : World) :
    Calls Try.prog 65 #[.int .i64 p, .agg (u8s f), .int .i64 n] w fun e w' => e = .returned (.bool (formB p f n)) ∧ Below w.heap.size w w' := by
  go_enter Try.func65, Try.ntmps65
  go_wp2_with fail
  go_loopw [7] (fun i wr => FormRel w p n f i wr) (fun i _ => 9 - (intOf i).toNat)
  case atStart => exact ⟨0, by omega, rfl, below1 _ _, al1_0 _ _, by omega⟩
  case round =>
    obtain ⟨k, hk, rfl, hB, h0, hall⟩ := hrel
    have Hall := Lib.hid hall
    clear hall
    by_cases hlt : k < 9
    · have c0 := h0.cell (i := k) (by rw [hf.len]; exact hlt)
      have hx := hf.lt k
      generalize hX : f[k]?.getD 0 = x at *
      have HX := Lib.hid hX
      clear hX
      by_cases h1 : p ≤ (x : Int)
      · have Hno : Hid (formB p f n = false) := Lib.hid (formB_not hlt (by unfold okAt; rw [HX.out]; simp; omega))
        have d1 : decide (p ≤ (x : Int)) = true := by simp [h1]
        go_wp2_with fail
        go_ret
        exact ⟨by rw [Hno.out]; rfl, hB⟩
      · have d1 : decide (p ≤ (x : Int)) = false := by simp [h1]
        by_cases h2 : n ≤ (k : Int)
        · have d2 : decide (n ≤ (k : Int)) = true := by simp [h2]
          by_cases h3 : x = 0
          · have d3 : (((x : Nat) : Int) != 0) = false := by simp [h3]
            have Hok : Hid (okAt p n f k = true) := Lib.hid (by unfold okAt; rw [HX.out]; simp [h3]; omega)
            clear h3
            go_wp2_with fail
            go_roundw
            case rel =>
              refine ⟨k + 1, by omega, by go_num, hB, h0, fun j hj => ?_⟩
              by_cases hjk : j = k
              · subst hjk; exact Hok.out
              · exact Hall.out j (by omega)
            case measure => simp [intOf]; omega
          · have d3 : (((x : Nat) : Int) != 0) = true := by simp; omega
            have Hno : Hid (formB p f n = false) := Lib.hid (formB_not hlt (by unfold okAt; rw [HX.out]; simp [h3]; omega))
            clear h3
            go_wp2_with fail
            go_ret
            exact ⟨by rw [Hno.out]; rfl, hB⟩
        · have d2 : decide (n ≤ (k : Int)) = false := by simp [h2]
          have Hok : Hid (okAt p n f k = true) := Lib.hid (by unfold okAt; rw [HX.out]; simp; omega)
          go_wp2_with fail
          go_roundw
          case rel =>
            refine ⟨k + 1, by omega, by go_num, hB, h0, fun j hj => ?_⟩
            by_cases hjk : j = k
            · subst hjk; exact Hok.out
            · exact Hall.out j (by omega)
          case measure => simp [intOf]; omega
    · obtain rfl : k = 9 := by omega
      have Hyes : Hid (formB p f n = true) := Lib.hid (formB_of Hall.out)
      go_wp2_with fail
      go_ret
      exact ⟨by rw [Hyes.out]; rfl, hB⟩
set_option maxHeartbeats 400000 in
theorem l01Zero_c (f : List Nat) (hf : Bytes 9 f) (w : World) :
    Calls Try.prog 66 #[.agg (u8s f)] w fun e w' => e = .returned (.bool (zeroB f)) ∧ Below w.heap.size w w' := by
  go_enter Try.func66, Try.ntmps66
  go_wp2_with (first | (refine wpList_abs1 ?_; intro W hsz hB h0) | (refine wpList_load_all rfl 45 _ rfl w.heap.size rfl _ _ _ h0 Try.underlying45 rfl 9 (by kernel_rfl) ((u8s_size _).trans hf.len) ?_) | (refine wpList_of_exec rfl (exec_eql_u8s 45 _ 5 _ _ rfl 9 Try.underlying45 Try.underlying5 (by kernel_rfl) (by kernel_rfl) f (List.replicate 9 0) rfl rfl hf.len (by simp)) ?_))
  go_ret
  exact ⟨rfl, hB⟩
def prodB (p n m k : Int) (q : List Nat) : Bool := formB p (segm q 0 9) (n * m) && formB p (segm q 9 9) (m * k) && formB p (segm q 18 9) (n * k) && !zeroB (segm q 0 9) && !zeroB (segm q 9 9) && !zeroB (segm q 18 9)
set_option maxHeartbeats 400000 in
theorem l01Product_c (p n m k : Int) (v : Value) (q : List Nat) (hq : Bytes 27 q) (hn : sizeB n = true) (hm : sizeB m = true) (hk : sizeB k = true) (w : World) :
    Calls Try.prog 44 #[.agg #[.int .i64 p, .int .i64 n, .int .i64 m, .int .i64 k, v], .agg (u8s q)] w fun e w' => e = .returned (.bool (prodB p n m k q)) ∧ Below w.heap.size w w' := by
  have zq : 27 ≤ q.length := by rw [hq.len]; exact Nat.le_refl _
  have b0 : Bytes 9 (segm q 0 9) := segm_bytes hq (by omega)
  have b1 : Bytes 9 (segm q 9 9) := segm_bytes hq (by omega)
  have b2 : Bytes 9 (segm q 18 9) := segm_bytes hq (by omega)
  have HL := Lib.hid (fun w => l01Lengths_c p n m k v w hn hm hk)
  clear hn hm hk
  go_enter Try.func44, Try.ntmps44
  go_wp2_with (first | (refine wpList_abs2 ?_; intro W hsz hB h0 h1) | (refine wpList_load_all rfl 31 _ rfl w.heap.size rfl _ _ _ h0 Try.underlying31 rfl 5 (by kernel_rfl) rfl ?_))
  refine (HL.out _).mono ?_
  rintro e w1 ⟨rfl, c1⟩
  replace h0 := h0.after c1
  replace h1 := h1.after c1
  replace hB := below_after hB c1
  clear c1 hsz
  have k0 : w1.cell? ⟨w.heap.size, 0, none⟩ = some (.int .i64 p) := h0.at_ 0
  go_wp2_with (first | (refine wpList_load_u8s rfl 45 _ rfl (w.heap.size + 1) 0 rfl _ q _ 9 h1 Try.underlying45 rfl (by kernel_rfl) (by omega) ?_))
  refine (l01Form_c p _ (n * m) b0 _).mono ?_
  rintro e w2 ⟨rfl, c1⟩
  replace h0 := h0.after c1
  replace h1 := h1.after c1
  replace hB := below_after hB c1
  clear c1 k0
  have k0 : w2.cell? ⟨w.heap.size, 0, none⟩ = some (.int .i64 p) := h0.at_ 0
  cases f0 : formB p (segm q 0 9) (n * m) with
  | false =>
    have Hr : Hid (prodB p n m k q = false) := Lib.hid (by simp [prodB, f0])
    clear f0
    go_wp2_with fail
    go_ret
    exact ⟨by rw [Hr.out]; rfl, hB⟩
  | true =>
    have F0 := Lib.hid f0
    clear f0
    go_wp2_with (first | (refine wpList_want_exec rfl (exec_load_u8s 45 _ rfl (w.heap.size + 1) 9 rfl _ q _ 9 h1 Try.underlying45 rfl (by kernel_rfl) (by omega)) ?_))
    refine (l01Form_c p _ (m * k) b1 _).mono ?_
    rintro e w3 ⟨rfl, c1⟩
    replace h0 := h0.after c1
    replace h1 := h1.after c1
    replace hB := below_after hB c1
    clear c1 k0
    have k0 : w3.cell? ⟨w.heap.size, 0, none⟩ = some (.int .i64 p) := h0.at_ 0
    cases f1 : formB p (segm q 9 9) (m * k) with
    | false =>
      have Hr : Hid (prodB p n m k q = false) := Lib.hid (by simp [prodB, f1])
      clear f1
      go_wp2_with fail
      go_ret
      exact ⟨by rw [Hr.out]; rfl, hB⟩
    | true =>
      have F1 := Lib.hid f1
      clear f1
      go_wp2_with (first | (refine wpList_want_exec rfl (exec_load_u8s 45 _ rfl (w.heap.size + 1) 18 rfl _ q _ 9 h1 Try.underlying45 rfl (by kernel_rfl) (by omega)) ?_))
      refine (l01Form_c p _ (n * k) b2 _).mono ?_
      rintro e w4 ⟨rfl, c1⟩
      replace h0 := h0.after c1
      replace h1 := h1.after c1
      replace hB := below_after hB c1
      clear c1 k0
      have k0 : w4.cell? ⟨w.heap.size, 0, none⟩ = some (.int .i64 p) := h0.at_ 0
      cases f2 : formB p (segm q 18 9) (n * k) with
      | false =>
        have Hr : Hid (prodB p n m k q = false) := Lib.hid (by simp [prodB, f2])
        clear f2
        go_wp2_with fail
        go_ret
        exact ⟨by rw [Hr.out]; rfl, hB⟩
      | true =>
        have F2 := Lib.hid f2
        clear f2
        go_wp2_with (first | (refine wpList_want_exec rfl (exec_load_u8s 45 _ rfl (w.heap.size + 1) 0 rfl _ q _ 9 h1 Try.underlying45 rfl (by kernel_rfl) (by omega)) ?_))
        refine (l01Zero_c _ b0 _).mono ?_
        rintro e w5 ⟨rfl, c1⟩
        replace h0 := h0.after c1
        replace h1 := h1.after c1
        replace hB := below_after hB c1
        clear c1 k0
        have k0 : w5.cell? ⟨w.heap.size, 0, none⟩ = some (.int .i64 p) := h0.at_ 0
        cases z0 : zeroB (segm q 0 9) with
        | true =>
          have Hr : Hid (prodB p n m k q = false) := Lib.hid (by simp [prodB, z0])
          clear z0
          go_wp2_with fail
          go_ret
          exact ⟨by rw [Hr.out]; rfl, hB⟩
        | false =>
          have Z0 := Lib.hid z0
          clear z0
          go_wp2_with (first | (refine wpList_want_exec rfl (exec_load_u8s 45 _ rfl (w.heap.size + 1) 9 rfl _ q _ 9 h1 Try.underlying45 rfl (by kernel_rfl) (by omega)) ?_))
          refine (l01Zero_c _ b1 _).mono ?_
          rintro e w6 ⟨rfl, c1⟩
          replace h0 := h0.after c1
          replace h1 := h1.after c1
          replace hB := below_after hB c1
          clear c1 k0
          have k0 : w6.cell? ⟨w.heap.size, 0, none⟩ = some (.int .i64 p) := h0.at_ 0
          cases z1 : zeroB (segm q 9 9) with
          | true =>
            have Hr : Hid (prodB p n m k q = false) := Lib.hid (by simp [prodB, z1])
            clear z1
            go_wp2_with fail
            go_ret
            exact ⟨by rw [Hr.out]; rfl, hB⟩
          | false =>
            have Z1 := Lib.hid z1
            clear z1
            go_wp2_with (first | (refine wpList_want_exec rfl (exec_load_u8s 45 _ rfl (w.heap.size + 1) 18 rfl _ q _ 9 h1 Try.underlying45 rfl (by kernel_rfl) (by omega)) ?_))
            refine (l01Zero_c _ b2 _).mono ?_
            rintro e w7 ⟨rfl, c1⟩
            replace hB := below_after hB c1
            clear c1 k0
            have Hr : Hid (prodB p n m k q = !zeroB (segm q 18 9)) := Lib.hid (by simp [prodB, F0.out, F1.out, F2.out, Z0.out, Z1.out])
            go_wp2_with fail
            go_ret
            exact ⟨by rw [Hr.out]; rfl, hB⟩
def IsFormRel (w : World) (p r c : Int) (f : List Nat) (i : Value) (wr : World) : Prop :=
  ∃ k : Nat, k ≤ 9 ∧ i = .int .i64 k ∧ Below w.heap.size w wr ∧ At wr w.heap.size (.cells #[.int .i64 r, .int .i64 c] 52 (0, 0)) ∧ ∀ j, j < k → okAt p (r * c) f j = true
set_option maxHeartbeats 800000 in
theorem isForm_g (p r c : Int) (f : List Nat) (hp : 0 < p) (hP : ∀ w : World, Calls Try.prog 54 #[.agg #[.int .i64 r, .int .i64 c]] w fun e w' => e = .returned (.int .i64 (r * c)) ∧ Below w.heap.size w w') (hf : Bytes 9 f) (w : World) :
    Calls Try.prog 82 #[.int .i64 p, .agg #[.int .i64 r, .int .i64 c], .agg (u8s f)] w fun e w' => e = .returned (.bool (formB p f (r * c))) ∧ Below w.heap.size w w' := by
  have HP := Lib.hid hP
  clear hP
  go_enter Try.func82, Try.ntmps82
  go_wp2_with (first | (refine wpList_abs2 ?_; intro W hsz hB h0 h1) | (refine wpList_load_all rfl 45 _ rfl (w.heap.size + 1) rfl _ _ _ h1 Try.underlying45 rfl 9 (by kernel_rfl) ((u8s_size _).trans hf.len) ?_))
  clear hsz h1
  go_loopw [11] (fun i wr => IsFormRel w p r c f i wr) (fun i _ => 9 - (intOf i).toNat)
  case atStart => exact ⟨0, by omega, rfl, hB, h0, by omega⟩
  case round =>
    clear hB h0
    obtain ⟨k, hk, rfl, hB, h0, hall⟩ := hrel
    have Hall := Lib.hid hall
    clear hall
    by_cases hlt : k < 9
    · have hx := hf.lt k
      go_wp2_with (first | (refine wpList_of_exec rfl (exec_index_u8s 45 5 _ _ rfl 9 k f rfl rfl Try.underlying45 Try.underlying5 (by kernel_rfl) hf.len hlt) ?_) | (refine wpList_load_all rfl 52 _ rfl w.heap.size rfl _ _ _ h0 Try.underlying52 rfl 2 (by kernel_rfl) rfl ?_))
      refine (HP.out _).mono ?_
      rintro e w2 ⟨rfl, c1⟩
      replace h0 := h0.after c1
      replace hB := below_after hB c1
      clear c1
      generalize hX : f[k]?.getD 0 = x at *
      have HX := Lib.hid hX
      clear hX
      have tail : ∀ (X : Hid (okAt p (r * c) f k = true)), ∀ j, j < k + 1 → okAt p (r * c) f j = true := fun X j hj => by
        by_cases hjk : j = k
        · subst hjk; exact X.out
        · exact Hall.out j (by omega)
      have Tail := Lib.hid tail
      clear tail
      by_cases hin : (k : Int) < r * c
      · have d1 : decide ((k : Int) < r * c) = true := by simp [hin]
        by_cases hbig : p ≤ (x : Int)
        · have d2 : decide (p ≤ (x : Int)) = true := by simp [hbig]
          have Hno : Hid (formB p f (r * c) = false) := Lib.hid (formB_not hlt (by unfold okAt; rw [HX.out]; simp; omega))
          go_wp2_with fail
          go_ret
          exact ⟨by rw [Hno.out]; rfl, hB⟩
        · have d2 : decide (p ≤ (x : Int)) = false := by simp [hbig]
          have Hok : Hid (okAt p (r * c) f k = true) := Lib.hid (by unfold okAt; rw [HX.out]; simp; omega)
          go_wp2_with fail
          go_roundw
          case rel => exact ⟨k + 1, by omega, by go_num, hB, h0, Tail.out Hok⟩
          case measure => simp [intOf]; omega
      · have d1 : decide ((k : Int) < r * c) = false := by simp [hin]
        by_cases h3 : x = 0
        · have d3 : (((x : Nat) : Int) != 0) = false := by simp [h3]
          have Hok : Hid (okAt p (r * c) f k = true) := Lib.hid (by unfold okAt; rw [HX.out]; simp [h3]; omega)
          clear h3
          go_wp2_with fail
          go_roundw
          case rel => exact ⟨k + 1, by omega, by go_num, hB, h0, Tail.out Hok⟩
          case measure => simp [intOf]; omega
        · have d3 : (((x : Nat) : Int) != 0) = true := by simp; omega
          have Hno : Hid (formB p f (r * c) = false) := Lib.hid (formB_not hlt (by unfold okAt; rw [HX.out]; simp [h3]; omega))
          clear h3
          go_wp2_with fail
          go_ret
          exact ⟨by rw [Hno.out]; rfl, hB⟩
    · obtain rfl : k = 9 := by omega
      have Hyes : Hid (formB p f (r * c) = true) := Lib.hid (formB_of Hall.out)
      go_wp2_with fail
      go_ret
      exact ⟨by rw [Hyes.out]; rfl, hB⟩
theorem isForm_c (p r c : Int) (f : List Nat) (hp : 0 < p) (hr : sizeB r = true) (hc : sizeB c = true) (hf : Bytes 9 f) (w : World) :
    Calls Try.prog 82 #[.int .i64 p, .agg #[.int .i64 r, .int .i64 c], .agg (u8s f)] w fun e w' => e = .returned (.bool (formB p f (r * c))) ∧ Below w.heap.size w w' :=
  isForm_g p r c f hp (fun w => places_c r c w hr hc) hf w
end Go.Proofs.Ytebmkmkhfhmfbaa
