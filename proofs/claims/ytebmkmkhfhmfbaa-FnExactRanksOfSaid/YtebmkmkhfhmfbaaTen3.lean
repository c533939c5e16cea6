/-
  Tensor.sides, places, isAllowed (slices.Min, slices.Max), isList.
-/
import Derived.Test.YtebmkmkhfhmfbaaTen2
namespace Go.Proofs.Ytebmkmkhfhmfbaa
open Go.RowKit
set_option maxRecDepth 100000
def min3 (i j k : Int) : Nat → Int
  | 0 => i
  | 1 => i
  | 2 => if j < i then j else i
  | _ => if k < (if j < i then j else i) then k else (if j < i then j else i)
theorem min3_eq (i j k : Int) : min3 i j k 3 = min (min i j) k := by
  simp only [min3]
  split <;> split <;> omega
def max3 (i j k : Int) : Nat → Int
  | 0 => i
  | 1 => i
  | 2 => if i < j then j else i
  | _ => if (if i < j then j else i) < k then k else (if i < j then j else i)
theorem max3_eq (i j k : Int) : max3 i j k 3 = max (max i j) k := by
  simp only [max3]
  split <;> split <;> omega
theorem min3_s1 (i j k : Int) : min (min3 i j k 1) j = min3 i j k 2 := by
  simp only [min3]
  split <;> omega
theorem min3_s2 (i j k : Int) : min (min3 i j k 2) k = min3 i j k 3 := by
  have h : min3 i j k 3 = min (min3 i j k 2) k := by
    simp only [min3]
    split <;> split <;> omega
  exact h.symm
theorem max3_s1 (i j k : Int) : max (max3 i j k 1) j = max3 i j k 2 := by
  simp only [max3]
  split <;> omega
theorem max3_s2 (i j k : Int) : max (max3 i j k 2) k = max3 i j k 3 := by
  have h : max3 i j k 3 = max (max3 i j k 2) k := by
    simp only [max3]
    split <;> split <;> omega
  exact h.symm
/-! ### isList -/
theorem isList1_c (x p : Int) (g : Nat) (w : World) (hc : w.cell? ⟨g, 0, none⟩ = some (.int .i64 p)) :
    Calls Try.prog 77 #[.int .i64 x, .pointer (some ⟨g, 0, none⟩)] w fun e w' => e = .returned (.bool (!(inB x p))) ∧ w = w' := by
  cases hb : inB x p with
  | false =>
    have HC := Lib.hid (isIndex_c x p)
    rw [hb] at HC
    clear hb
    go_enter Try.func77, Try.ntmps77
    go_wp2_with fail
    refine (HC.out _).mono ?_
    rintro e w' ⟨rfl, rfl⟩
    go_wp2_with fail
    go_ret
    exact ⟨rfl, rfl⟩
  | true =>
    have HC := Lib.hid (isIndex_c x p)
    rw [hb] at HC
    clear hb
    go_enter Try.func77, Try.ntmps77
    go_wp2_with fail
    refine (HC.out _).mono ?_
    rintro e w' ⟨rfl, rfl⟩
    go_wp2_with fail
    go_ret
    exact ⟨rfl, rfl⟩
/-- Where a list has a number that is none, or -1. -/
def IdxNum (p : Int) (xs : List Int) (r : Int) : Prop := (r = -1 ∧ numsB p xs = true) ∨ (0 ≤ r ∧ numsB p xs = false)
set_option maxHeartbeats 800000 in
theorem indexNum_c (A : Option Addr) (c g : Nat) (p : Int) (xs : List Int) (w : World) (hr : RdI w A xs) (hn : xs.length ≤ 1048576) (hc : w.cell? ⟨g, 0, none⟩ = some (.int .i64 p)) :
    Calls Try.prog 81 #[.slice A xs.length c, .func (.func 77) #[] #[.pointer (some ⟨g, 0, none⟩)]] w fun e w' => ∃ r, e = .returned (.int .i64 r) ∧ IdxNum p xs r ∧ w = w' := by
  go_enter Try.func81, Try.ntmps81
  go_wp2_with fail
  go_loop [8] (fun v => ∃ a : Nat, a ≤ xs.length ∧ v = .int .i64 a ∧ ∀ (y : Nat) (hy : y < xs.length), y < a → inB xs[y] p = true) (fun v => xs.length - (intOf v).toNat)
  case atStart => exact ⟨0, by omega, rfl, by omega⟩
  case round =>
    obtain ⟨a, ha, rfl, hall⟩ := hrel
    have Hall := Lib.hid hall
    clear hall
    by_cases hlt : a < xs.length
    · obtain ⟨b, off, rfl, hx0⟩ := hr.at_ hlt
      have e0 : IntKind.i64.wrap ((a : Int) + 1) = (a : Int) + 1 := IntWalk.i64_in _ (by omega)
      have hlt' : (a : Int) < (xs.length : Int) := by omega
      have Hx1 : Hid (∃ x, xs[a] = x) := Lib.hid ⟨_, rfl⟩
      obtain ⟨x, hx⟩ := Hx1.out
      rw [hx] at hx0
      have Hx1 := Lib.hid hx
      clear hx
      have HC := Lib.hid (isList1_c x p g w hc)
      cases hb : inB x p with
      | false =>
        have Hno : Hid (IdxNum p xs a) := Lib.hid (.inr ⟨by omega, numsB_no hlt (by rw [Hx1.out]; exact hb)⟩)
        rw [hb] at HC
        clear hb hc
        go_wp2_with fail
        refine HC.out.mono ?_
        rintro e w' ⟨rfl, rfl⟩
        go_wp2_with fail
        go_ret
        exact ⟨_, rfl, Hno.out, rfl⟩
      | true =>
        have Hstep : Hid (∀ (y : Nat) (hy : y < xs.length), y < a + 1 → inB xs[y] p = true) := Lib.hid (fun y hy hyk => by
          by_cases e : y = a
          · subst e; rw [Hx1.out]; exact hb
          · exact Hall.out y hy (by omega))
        rw [hb] at HC
        clear hb hc
        go_wp2_with fail
        refine HC.out.mono ?_
        rintro e w' ⟨rfl, rfl⟩
        go_wp2_with fail
        exact ⟨⟨a + 1, by omega, by go_num, Hstep.out⟩, by simp [intOf]; omega⟩
    · obtain rfl : a = xs.length := by omega
      have Hyes : Hid (IdxNum p xs (-1)) := Lib.hid (.inl ⟨rfl, numsB_yes fun y hy => Hall.out y hy hy⟩)
      go_wp2_with fail
      go_ret
      exact ⟨_, rfl, Hyes.out, rfl⟩
theorem containsNum_c (A : Option Addr) (c g : Nat) (p : Int) (xs : List Int) (w : World) (hr : RdI w A xs) (hn : xs.length ≤ 1048576) (hc : w.cell? ⟨g, 0, none⟩ = some (.int .i64 p)) :
    Calls Try.prog 76 #[.slice A xs.length c, .func (.func 77) #[] #[.pointer (some ⟨g, 0, none⟩)]] w fun e w' => e = .returned (.bool (!(numsB p xs))) ∧ w = w' := by
  have HC := Lib.hid (indexNum_c A c g p xs w hr hn hc)
  clear hr hc
  go_enter Try.func76, Try.ntmps76
  go_wp2_with fail
  refine HC.out.mono ?_
  rintro e w' ⟨r, rfl, hr, rfl⟩
  rcases hr with ⟨rfl, hb⟩ | ⟨h0, hb⟩
  · have Hb := Lib.hid hb
    clear hb
    go_wp2_with fail
    go_ret
    exact ⟨by rw [Hb.out]; rfl, rfl⟩
  · have Hb := Lib.hid hb
    have hd : decide (0 ≤ r) = true := by simp only [decide_eq_true_eq]; exact h0
    clear hb h0
    go_wp2_with fail
    go_ret
    exact ⟨by rw [Hb.out]; rfl, rfl⟩
def listB (p n : Int) (xs : List Int) : Bool := decide ((xs.length : Int) = n) && numsB p xs
theorem isList_c (A : Option Addr) (c : Nat) (p n : Int) (xs : List Int) (w : World) (hr : RdI w A xs) (hn : xs.length ≤ 1048576) :
    Calls Try.prog 59 #[.int .i64 p, .int .i64 n, .slice A xs.length c] w fun e w' => e = .returned (.bool (listB p n xs)) ∧ Below w.heap.size w w' := by
  have h0 := al1_0 w (.cells #[.int .i64 p] 2 (0, 0))
  have HC := Lib.hid (containsNum_c A c w.heap.size p xs _ (hr.keep (below1 w (.cells #[.int .i64 p] 2 (0, 0)))) hn (At.at_ h0 0))
  clear hr h0
  by_cases hl : (xs.length : Int) = n
  · have hne : (((xs.length : Nat) : Int) != n) = false := by simp [hl]
    have HV : Hid (listB p n xs = numsB p xs) := Lib.hid (by simp [listB, hl])
    clear hl
    cases hb : numsB p xs with
    | false =>
      rw [hb] at HC HV
      clear hb
      go_enter Try.func59, Try.ntmps59
      go_wp2_with fail
      refine HC.out.mono ?_
      rintro e w' ⟨rfl, rfl⟩
      go_wp2_with fail
      go_ret
      exact ⟨by rw [HV.out]; rfl, below1 _ _⟩
    | true =>
      rw [hb] at HC HV
      clear hb
      go_enter Try.func59, Try.ntmps59
      go_wp2_with fail
      refine HC.out.mono ?_
      rintro e w' ⟨rfl, rfl⟩
      go_wp2_with fail
      go_ret
      exact ⟨by rw [HV.out]; rfl, below1 _ _⟩
  · have hne : (((xs.length : Nat) : Int) != n) = true := by simp [hl]
    have HV : Hid (listB p n xs = false) := Lib.hid (by simp [listB, hl])
    clear hl HC
    go_enter Try.func59, Try.ntmps59
    go_wp2_with fail
    go_ret
    exact ⟨by rw [HV.out]; rfl, below1 _ _⟩
end Go.Proofs.Ytebmkmkhfhmfbaa
