/-
  Tensor.sides, places, isAllowed (slices.Min, slices.Max), isList.
-/
import Derived.Test.YtopdfblfhdooaaaTen2
namespace Go.Proofs.Ytopdfblfhdooaaa
open Go.RowKit
set_option maxRecDepth 100000
def min3 (i j k : Int) : Nat → Int
  | 0 => i
  | 1 => i
  | 2 => if j < i then j else i
  | _ => if k < (if j < i then j else i) then k else (if j < i then j else i)
theorem min3_eq (i j k : Int) : min3 i j k 3 = min (min i j) k := by
  simp only [min3]
  split <;> split <;> omega
def max3 (i j k : Int) : Nat → Int
  | 0 => i
  | 1 => i
  | 2 => if i < j then j else i
  | _ => if (if i < j then j else i) < k then k else (if i < j then j else i)
theorem max3_eq (i j k : Int) : max3 i j k 3 = max (max i j) k := by
  simp only [max3]
  split <;> split <;> omega
theorem min3_s1 (i j k : Int) : min (min3 i j k 1) j = min3 i j k 2 := by
  simp only [min3]
  split <;> omega
theorem min3_s2 (i j k : Int) : min (min3 i j k 2) k = min3 i j k 3 := by
  have h : min3 i j k 3 = min (min3 i j k 2) k := by
    simp only [min3]
    split <;> split <;> omega
  exact h.symm
set_option maxHeartbeats 800000 in
theorem boxMin_c (g : Nat) (i j k : Int) (w : World) (h0 : At w g (.cells #[.int .i64 i, .int .i64 j, .int .i64 k] 57 (0, 0))) :
    Calls Try.prog 57 #[.slice (some ⟨g, 0, none⟩) 3 3] w fun e w' => e = .returned (.int .i64 (min3 i j k 3)) ∧ w = w' := by
  have c0 : w.cell? ⟨g, 0, none⟩ = some (.int .i64 i) := h0.at_ 0
  have c1 : w.cell? ⟨g, 1, none⟩ = some (.int .i64 j) := h0.at_ 1
  have c2 : w.cell? ⟨g, 2, none⟩ = some (.int .i64 k) := h0.at_ 2
  go_enter Try.func57, Try.ntmps57
  go_wp2_with fail
  go_loop [3, 4] (fun m v => ∃ a : Nat, 1 ≤ a ∧ a ≤ 3 ∧ v = .int .i64 a ∧ m = .int .i64 (min3 i j k a)) (fun _ v => 3 - (intOf v).toNat)
  case atStart => exact ⟨1, by omega, by omega, rfl, rfl⟩
  case round =>
    obtain ⟨a, ha1, ha3, rfl, rfl⟩ := hrel
    have hc : a = 1 ∨ a = 2 ∨ a = 3 := by omega
    rcases hc with rfl | rfl | rfl
    · go_wp2_with fail
      exact ⟨⟨2, by omega, by omega, rfl, by first | rfl | exact congrArg (Value.int IntKind.i64) (min3_s1 i j k)⟩, by simp [intOf]⟩
    · go_wp2_with fail
      exact ⟨⟨3, by omega, by omega, rfl, by first | rfl | exact congrArg (Value.int IntKind.i64) (min3_s2 i j k)⟩, by simp [intOf]⟩
    · go_wp2_with fail
      go_ret
      exact ⟨rfl, rfl⟩
theorem max3_s1 (i j k : Int) : max (max3 i j k 1) j = max3 i j k 2 := by
  simp only [max3]
  split <;> omega
theorem max3_s2 (i j k : Int) : max (max3 i j k 2) k = max3 i j k 3 := by
  have h : max3 i j k 3 = max (max3 i j k 2) k := by
    simp only [max3]
    split <;> split <;> omega
  exact h.symm
set_option maxHeartbeats 800000 in
theorem boxMax_c (g : Nat) (i j k : Int) (w : World) (h0 : At w g (.cells #[.int .i64 i, .int .i64 j, .int .i64 k] 57 (0, 0))) :
    Calls Try.prog 40 #[.slice (some ⟨g, 0, none⟩) 3 3] w fun e w' => e = .returned (.int .i64 (max3 i j k 3)) ∧ w = w' := by
  have c0 : w.cell? ⟨g, 0, none⟩ = some (.int .i64 i) := h0.at_ 0
  have c1 : w.cell? ⟨g, 1, none⟩ = some (.int .i64 j) := h0.at_ 1
  have c2 : w.cell? ⟨g, 2, none⟩ = some (.int .i64 k) := h0.at_ 2
  go_enter Try.func40, Try.ntmps40
  go_wp2_with fail
  go_loop [3, 4] (fun m v => ∃ a : Nat, 1 ≤ a ∧ a ≤ 3 ∧ v = .int .i64 a ∧ m = .int .i64 (max3 i j k a)) (fun _ v => 3 - (intOf v).toNat)
  case atStart => exact ⟨1, by omega, by omega, rfl, rfl⟩
  case round =>
    obtain ⟨a, ha1, ha3, rfl, rfl⟩ := hrel
    have hc : a = 1 ∨ a = 2 ∨ a = 3 := by omega
    rcases hc with rfl | rfl | rfl
    · go_wp2_with fail
      exact ⟨⟨2, by omega, by omega, rfl, by first | rfl | exact congrArg (Value.int IntKind.i64) (max3_s1 i j k)⟩, by simp [intOf]⟩
    · go_wp2_with fail
      exact ⟨⟨3, by omega, by omega, rfl, by first | rfl | exact congrArg (Value.int IntKind.i64) (max3_s2 i j k)⟩, by simp [intOf]⟩
    · go_wp2_with fail
      go_ret
      exact ⟨rfl, rfl⟩
theorem isAllowed_c (i j k : Int) (w : World) :
    Calls Try.prog 29 #[.agg #[.int .i64 i, .int .i64 j, .int .i64 k]] w fun e w' => e = .returned (.bool (sideB i && sideB j && sideB k)) ∧ Below w.heap.size w w' := by
  have h0 := al1_0 w (.cells #[.int .i64 i, .int .i64 j, .int .i64 k] 57 (0, 0))
  have HMin := Lib.hid (boxMin_c w.heap.size i j k _ h0)
  have HMax := Lib.hid (boxMax_c w.heap.size i j k _ h0)
  have em := min3_eq i j k
  have ex := max3_eq i j k
  by_cases h : 1 ≤ min3 i j k 3
  · have Hr : Hid (decide (max3 i j k 3 ≤ 9) = (sideB i && sideB j && sideB k)) := Lib.hid (by
      have h1 : 1 ≤ i := by omega
      have h2 : 1 ≤ j := by omega
      have h3 : 1 ≤ k := by omega
      simp only [sideB, h1, h2, h3, decide_true, Bool.true_and]
      rw [Bool.eq_iff_iff]
      simp only [Bool.and_eq_true, decide_eq_true_eq]
      omega)
    have hd : decide (1 ≤ min3 i j k 3) = true := by simp only [decide_eq_true_eq]; exact h
    clear h em ex
    go_enter Try.func29, Try.ntmps29
    go_wp2_with fail
    refine HMin.out.mono ?_
    rintro e w' ⟨rfl, rfl⟩
    generalize min3 i j k 3 = m at *
    go_wp2_with fail
    refine HMax.out.mono ?_
    rintro e w' ⟨rfl, rfl⟩
    generalize max3 i j k 3 = m' at *
    go_wp2_with fail
    go_ret
    exact ⟨by rw [← Hr.out]; rfl, below1 _ _⟩
  · have Hr : Hid ((sideB i && sideB j && sideB k) = false) := Lib.hid (by
      rw [Bool.eq_false_iff]
      intro hc
      simp only [sideB, Bool.and_eq_true, decide_eq_true_eq] at hc
      omega)
    have hd : decide (1 ≤ min3 i j k 3) = false := by simp only [decide_eq_false_iff_not]; exact h
    clear h em ex
    go_enter Try.func29, Try.ntmps29
    go_wp2_with fail
    refine HMin.out.mono ?_
    rintro e w' ⟨rfl, rfl⟩
    generalize min3 i j k 3 = m at *
    go_wp2_with fail
    go_ret
    exact ⟨by rw [Hr.out]; rfl, below1 _ _⟩
/-! ### isList -/
/-- Where a list has a number that is none, or -1. -/
def IdxNum (p : Int) (xs : List Int) (r : Int) : Prop := (r = -1 ∧ numsB p xs = true) ∨ (0 ≤ r ∧ numsB p xs = false)
def listB (p n : Int) (xs : List Int) : Bool := decide ((xs.length : Int) = n) && numsB p xs
end Go.Proofs.Ytopdfblfhdooaaa
