/-
  impl.sumOfForm, spec.l01At: the sum of a form's numbers times a matrix's entries.
-/
import Derived.Test.YtpoekhpchhmkaaaConcI
import Derived.BigQuiet
import Derived.Deep.QuietTactic
namespace Go.Proofs.Ytpoekhpchhmkaaa
open Go.RowKit
set_option maxRecDepth 100000
def sumF (f : List Nat) (xs : List Int) : Nat → Int
  | 0 => 0
  | k + 1 => sumF f xs k + ((f[k]?.getD 0 : Nat) : Int) * (xs[k]?.getD 0)
theorem mul_b {y : Nat} {x : Int} (hy : y < 256) (hx : 0 ≤ x ∧ x ≤ 5) : 0 ≤ (y : Int) * x ∧ (y : Int) * x ≤ 1280 := by
  have h1 : (y : Int) * x ≤ 256 * 5 := Int.mul_le_mul (by omega) (by omega) hx.1 (by omega)
  exact ⟨Int.mul_nonneg (by omega) hx.1, by omega⟩
theorem sumF_in {f : List Nat} {xs : List Int} (hf : Bytes 9 f) (hx : ∀ x ∈ xs, 0 ≤ x ∧ x ≤ 5) (k : Nat) : 0 ≤ sumF f xs k ∧ sumF f xs k ≤ k * 1280 := by
  induction k with
  | zero => exact ⟨Int.le_refl _, by simp [sumF]⟩
  | succ k ih =>
    have h := mul_b (hf.lt k) (x := xs[k]?.getD 0) (by
      cases hk : xs[k]? with
      | none => simp
      | some x => simpa using hx x (List.mem_of_getElem? hk))
    simp only [sumF]
    omega
theorem catI_mem {row : Nat → List Int} {n : Nat} {x : Int} (h : x ∈ catI row n) : ∃ i, i < n ∧ x ∈ row i := by
  induction n with
  | zero => cases h
  | succ n ih =>
    rw [catI, List.mem_append] at h
    rcases h with h | h
    · obtain ⟨i, hi, hx⟩ := ih h
      exact ⟨i, by omega, hx⟩
    · exact ⟨n, by omega, h⟩
set_option maxHeartbeats 1600000 in
theorem sumOfForm_c (f : List Nat) (A : Option Addr) (c n : Nat) (row : Nat → List Int) (w : World) (hf : Bytes 9 f) (hr : RdM w A n row) (hpos : ∀ i, i < n → 0 < (row i).length) (hn : n ≤ 3) (ht : tot row n ≤ 9) (hx : ∀ i, i < n → ∀ x ∈ row i, 0 ≤ x ∧ x ≤ 5) :
    Calls Try.prog 48 #[.agg (u8s f), .slice A n c] w fun e w' => e = .returned (.int .i64 (sumF f (catI row n) (tot row n))) ∧ Below w.heap.size w w' := by
  have hxx : ∀ x ∈ catI row n, 0 ≤ x ∧ x ≤ 5 := fun x h => by
    obtain ⟨i, hi, hm⟩ := catI_mem h
    exact hx i hi x hm
  have hlen := catI_len row n
  have HCo := Lib.hid (fun w hr => concatI_c A c n row w hr hpos (by omega) (by omega))
  rw [← hlen] at ht ⊢
  clear hx hpos hlen
  generalize catI row n = xs at *
  go_enter Try.func48, Try.ntmps48
  go_wp2_with fail
  refine (HCo.out _ (hr.keep (below1 _ _))).mono ?_
  rintro e w1 ⟨v, rfl, o1, b1⟩
  have hB := below_after (below1 _ _) b1
  have hbx := At.after (al1_0 _ _) b1
  obtain ⟨A1, c1, rfl, hrd⟩ := o1.rd
  clear o1 b1
  go_wp2_with fail
  go_loop [5, 11] (fun sv i => ∃ k : Nat, k ≤ xs.length ∧ i = .int .i64 k ∧ sv = .int .i64 (sumF f xs k)) (fun _ i => xs.length - (intOf i).toNat)
  case atStart => exact ⟨0, by omega, rfl, rfl⟩
  case round =>
    obtain ⟨k, hk, rfl, rfl⟩ := hrel
    by_cases hlt : k < xs.length
    · have e0 : IntKind.i64.wrap ((k : Int) + 1) = (k : Int) + 1 := IntWalk.i64_in _ (by omega)
      have hlt' : (k : Int) < (xs.length : Int) := by omega
      have hk9 : (k : Int) < 9 := by omega
      obtain ⟨b, off, rfl, hc⟩ := hrd.at_ hlt
      have hfk := hbx.cell (i := k) (by rw [hf.len]; omega)
      have bx := hxx _ (List.getElem_mem hlt)
      have by' := hf.lt k
      have bs := sumF_in hf hxx k
      have Hst : Hid (sumF f xs (k + 1) = sumF f xs k + ((f[k]?.getD 0 : Nat) : Int) * xs[k]) := Lib.hid (by
        simp only [sumF]
        rw [List.getElem?_eq_getElem hlt]
        rfl)
      generalize xs[k] = x at *
      generalize f[k]?.getD 0 = y at *
      generalize sumF f xs k = s at *
      have bm := mul_b by' bx
      have a1 : IntKind.i64.wrap ((y : Int) * x) = (y : Int) * x := IntWalk.i64_in _ (by omega)
      have a2 : IntKind.i64.wrap (s + (y : Int) * x) = s + (y : Int) * x := IntWalk.i64_in _ (by omega)
      go_wp2_with fail
      exact ⟨⟨k + 1, by omega, by go_num, by rw [Hst.out]⟩, by simp [intOf]; omega⟩
    · obtain rfl : k = xs.length := by omega
      go_wp2_with fail
      go_ret
      exact ⟨rfl, hB⟩
set_option maxHeartbeats 1600000 in
theorem l01At_c (f : List Nat) (A : Option Addr) (c n : Nat) (row : Nat → List Int) (w : World) (hf : Bytes 9 f) (hr : RdM w A n row) (hn : n ≤ 3) (ht : tot row n ≤ 9) (hx : ∀ i, i < n → ∀ x ∈ row i, 0 ≤ x ∧ x ≤ 5) :
    Calls Try.prog 68 #[.agg (u8s f), .slice A n c] w fun e w' => e = .returned (.int .i64 (sumF f (catI row n) (tot row n))) ∧ Below w.heap.size w w' := by
  have hxx : ∀ x ∈ catI row n, 0 ≤ x ∧ x ≤ 5 := fun x h => by
    obtain ⟨i, hi, hm⟩ := catI_mem h
    exact hx i hi x hm
  have HG := Lib.hid (fun i k hi hk => catI_get row (i := i) (n := n) (k := k) hi hk)
  have HX := Lib.hid hx
  clear hx
  generalize hcat : catI row n = xs at *
  clear hcat
  go_enter Try.func68, Try.ntmps68
  go_wp2_with fail
  go_loopw [5, 6, 7] (fun sv av iv wr => ∃ i : Nat, i ≤ n ∧ iv = .int .i64 i ∧ av = .int .i64 ((tot row i : Nat) : Int) ∧ sv = .int .i64 (sumF f xs (tot row i)) ∧ Below w.heap.size w wr ∧ At wr w.heap.size (.cells (u8s f) 35 (0, 0))) (fun _ _ iv _ => n - (intOf iv).toNat)
  case atStart => exact ⟨0, by omega, rfl, rfl, rfl, below1 _ _, al1_0 _ _⟩
  case round =>
    obtain ⟨i, hi, rfl, rfl, rfl, hB, hbx⟩ := hrel
    by_cases hlt : i < n
    · have e0 : IntKind.i64.wrap ((i : Int) + 1) = (i : Int) + 1 := IntWalk.i64_in _ (by omega)
      have hlt' : (i : Int) < (n : Int) := by omega
      have hst := tot_mono row (show i + 1 ≤ n by omega)
      simp only [tot] at hst
      have HT : Hid (tot row (i + 1) = tot row i + (row i).length) := Lib.hid rfl
      have HGi := Lib.hid (fun k hk => HG.out i k hlt hk)
      generalize tot row i = t at *
      go_wp2_with fail
      go_loopw [5, 6, 8] (fun sv av kv wr => ∃ k : Nat, k ≤ (row i).length ∧ kv = .int .i64 k ∧ av = .int .i64 ((t + k : Nat) : Int) ∧ sv = .int .i64 (sumF f xs (t + k)) ∧ Below w.heap.size w wr ∧ At wr w.heap.size (.cells (u8s f) 35 (0, 0))) (fun _ _ kv _ => (row i).length - (intOf kv).toNat)
      case atStart => exact ⟨0, by omega, rfl, rfl, rfl, hB, hbx⟩
      case round =>
        clear hB hbx
        obtain ⟨k, hk, rfl, rfl, rfl, hB, hbx⟩ := hrel
        obtain ⟨b, off, B, cB, rfl, hc, hI⟩ := (hr.keep hB).at_ hlt
        by_cases hlt2 : k < (row i).length
        · have f0 : IntKind.i64.wrap ((k : Int) + 1) = (k : Int) + 1 := IntWalk.i64_in _ (by omega)
          have g0 : IntKind.i64.wrap (((t + k : Nat) : Int) + 1) = ((t + k : Nat) : Int) + 1 := IntWalk.i64_in _ (by omega)
          have g1 : IntKind.i64.wrap ((t : Int) + (k : Int) + 1) = (t : Int) + (k : Int) + 1 := IntWalk.i64_in _ (by omega)
          have hlt2' : (k : Int) < ((row i).length : Int) := by omega
          have hk9 : ((t + k : Nat) : Int) < 9 := by omega
          have hk9' : (t : Int) + (k : Int) < 9 := by omega
          obtain ⟨b3, off3, rfl, hcx⟩ := hI.at_ hlt2
          have hfk := hbx.cell (i := t + k) (by rw [hf.len]; omega)
          have bx := HX.out i hlt _ (List.getElem_mem hlt2)
          have bx5 : 0 ≤ (row i)[k] ∧ (row i)[k] ≤ 5 := bx
          have by' := hf.lt (t + k)
          have bs := sumF_in hf hxx (t + k)
          have Hst : Hid (sumF f xs (t + k + 1) = sumF f xs (t + k) + ((f[t + k]?.getD 0 : Nat) : Int) * (row i)[k]) := Lib.hid (by
            simp only [sumF]
            rw [HGi.out k hlt2, List.getElem?_eq_getElem hlt2]
            rfl)
          generalize (row i)[k] = x at *
          generalize f[t + k]?.getD 0 = y at *
          generalize sumF f xs (t + k) = s at *
          have bm := mul_b by' bx5
          have a1 : IntKind.i64.wrap ((y : Int) * x) = (y : Int) * x := IntWalk.i64_in _ (by omega)
          have a2 : IntKind.i64.wrap (s + (y : Int) * x) = s + (y : Int) * x := IntWalk.i64_in _ (by omega)
          go_wp2_with fail
          go_quiet (fail)
          go_wp2_with fail
          go_roundw
          case rel => exact ⟨k + 1, by omega, by go_num, by go_num, by rw [← Nat.add_assoc, Hst.out], below_drawn hB _, hbx.drewN _⟩
          case measure => simp [intOf]; omega
        · obtain rfl : k = (row i).length := by omega
          go_wp2_with fail
          go_roundw
          case rel => exact ⟨i + 1, by omega, by go_num, by rw [HT.out], by rw [HT.out], hB, hbx⟩
          case measure => simp [intOf]; omega
    · obtain rfl : i = n := by omega
      go_wp2_with fail
      go_ret
      exact ⟨rfl, hB⟩
end Go.Proofs.Ytpoekhpchhmkaaa
