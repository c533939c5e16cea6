/-
  What a tensor is: spec.l05Is and impl.IsTensor; areNumbers, isAllowed, places, boxOf, has, numberAt, l05At.
-/
import Derived.Test.YtolgfpcadfjliaaTen1
import Derived.Test.YtolgfpcadfjliaaRight1
import Derived.BigQuiet
namespace Go.Proofs.Ytolgfpcadfjliaa
open Go.RowKit
set_option maxRecDepth 100000
def sideB (n : Int) : Bool := decide (1 ≤ n) && decide (n ≤ 9)
def numsB (p : Int) (xs : List Int) : Bool := xs.all (fun x => inB x p)
def tenB (p i j k : Int) (xs : List Int) : Bool := primeB p && sideB i && sideB j && sideB k && decide ((xs.length : Int) = i * j * k) && numsB p xs
theorem prime_le5 {p : Int} (h : primeB p = true) : 2 ≤ p ∧ p ≤ 5 := by
  simp only [primeB, Bool.or_eq_true, beq_iff_eq] at h
  omega
theorem numsB_no {p : Int} {xs : List Int} {i : Nat} (hi : i < xs.length) (h : inB xs[i] p = false) : numsB p xs = false := by
  unfold numsB
  rw [List.all_eq_false]
  exact ⟨xs[i], List.getElem_mem hi, by simp [h]⟩
theorem numsB_yes {p : Int} {xs : List Int} (h : ∀ (i : Nat) (hi : i < xs.length), inB xs[i] p = true) : numsB p xs = true := by
  unfold numsB
  rw [List.all_eq_true]
  intro q hq
  obtain ⟨i, hi, rfl⟩ := List.getElem_of_mem hq
  exact h i hi
theorem sideB_in {n : Int} (h : sideB n = true) : 1 ≤ n ∧ n ≤ 9 := by
  simpa [sideB] using h
theorem side_mul {a b : Int} (ha : sideB a = true) (hb : sideB b = true) : 1 ≤ a * b ∧ a * b ≤ 81 := by
  obtain ⟨h1, h2⟩ := sideB_in ha
  obtain ⟨h3, h4⟩ := sideB_in hb
  constructor
  · have := Int.mul_le_mul h1 h3 (by omega) (by omega)
    omega
  · have := Int.mul_le_mul h2 h4 (by omega) (by omega)
    omega
theorem side_mul3 {a b c : Int} (ha : sideB a = true) (hb : sideB b = true) (hc : sideB c = true) : 1 ≤ a * b * c ∧ a * b * c ≤ 729 := by
  obtain ⟨h1, h2⟩ := side_mul ha hb
  obtain ⟨h3, h4⟩ := sideB_in hc
  constructor
  · have := Int.mul_le_mul h1 h3 (by omega) (by omega)
    omega
  · have := Int.mul_le_mul h2 h4 (by omega) (by omega)
    omega
theorem wrap_side2 {a b : Int} (ha : sideB a = true) (hb : sideB b = true) : IntKind.i64.wrap (a * b) = a * b := by
  have := side_mul ha hb
  exact IntWalk.i64_in _ (by omega)
theorem wrap_side3 {a b c : Int} (ha : sideB a = true) (hb : sideB b = true) (hc : sideB c = true) : IntKind.i64.wrap (a * b * c) = a * b * c := by
  have := side_mul3 ha hb hc
  exact IntWalk.i64_in _ (by omega)
theorem l01In_side (n : Int) (w : World) : Calls Try.prog 26 #[.int .i64 n, .int .i64 1, .int .i64 9] w fun e w' => e = .returned (.bool (sideB n)) ∧ w = w' := l01In_c n 1 9 w
theorem l01In_num (x p q : Int) (hq : q = p - 1) (w : World) : Calls Try.prog 26 #[.int .i64 x, .int .i64 0, .int .i64 q] w fun e w' => e = .returned (.bool (inB x p)) ∧ w = w' := by
  have h : (decide (0 ≤ x) && decide (x ≤ q)) = inB x p := by
    unfold inB
    subst hq
    congr 1
    simp only [decide_eq_decide]
    omega
  rw [← h]
  exact l01In_c x 0 q w
section
variable {p i j k : Int} {xs : List Int}
theorem tenB_parts (h : tenB p i j k xs = true) : primeB p = true ∧ sideB i = true ∧ sideB j = true ∧ sideB k = true ∧ (xs.length : Int) = i * j * k ∧ numsB p xs = true := by
  simp only [tenB, Bool.and_eq_true, decide_eq_true_eq] at h
  exact ⟨h.1.1.1.1.1, h.1.1.1.1.2, h.1.1.1.2, h.1.1.2, h.1.2, h.2⟩
theorem tenB_p (h : primeB p = false) : tenB p i j k xs = false := by simp [tenB, h]
theorem tenB_i (h : sideB i = false) : tenB p i j k xs = false := by simp [tenB, h]
theorem tenB_j (h : sideB j = false) : tenB p i j k xs = false := by simp [tenB, h]
theorem tenB_k (h : sideB k = false) : tenB p i j k xs = false := by simp [tenB, h]
theorem tenB_l (h : (xs.length : Int) ≠ i * j * k) : tenB p i j k xs = false := by simp [tenB, h]
theorem tenB_n (h : numsB p xs = false) : tenB p i j k xs = false := by simp [tenB, h]
theorem tenB_yes (h1 : primeB p = true) (h2 : sideB i = true) (h3 : sideB j = true) (h4 : sideB k = true) (h5 : (xs.length : Int) = i * j * k) (h6 : numsB p xs = true) : tenB p i j k xs = true := by
  simp only [tenB, h1, h2, h3, h4, h6, Bool.and_true, Bool.true_and, decide_eq_true_eq]
  exact h5
end
set_option maxHeartbeats 1600000 in
theorem l05Is_c (p i j k : Int) (A : Option Addr) (c : Nat) (xs : List Int) (w : World) (hr : RdI w A xs) (hn : xs.length ≤ 1048576) :
    Calls Try.prog 25 #[.agg #[.int .i64 p, .int .i64 i, .int .i64 j, .int .i64 k, .slice A xs.length c]] w fun e w' => e = .returned (.bool (tenB p i j k xs)) ∧ Below w.heap.size w w' := by
  cases hp : primeB p with
  | false =>
    have Hno := Lib.hid (tenB_p (i := i) (j := j) (k := k) (xs := xs) hp)
    have Hp := Lib.hid hp
    clear hp
    go_enter Try.func25, Try.ntmps25
    go_wp2_with fail
    refine (l01Prime_c p _).mono ?_
    rintro e w1 ⟨rfl, rfl⟩
    rw [Hp.out]
    go_wp2_with fail
    go_ret
    exact ⟨by rw [Hno.out]; rfl, below1 _ _⟩
  | true =>
  cases hi : sideB i with
  | false =>
    have Hno := Lib.hid (tenB_i (p := p) (j := j) (k := k) (xs := xs) hi)
    have Hp := Lib.hid hp
    have Hi := Lib.hid hi
    clear hp hi
    go_enter Try.func25, Try.ntmps25
    go_wp2_with fail
    refine (l01Prime_c p _).mono ?_
    rintro e w1 ⟨rfl, rfl⟩
    rw [Hp.out]
    go_wp2_with fail
    refine (l01In_side i _).mono ?_
    rintro e w1 ⟨rfl, rfl⟩
    rw [Hi.out]
    go_wp2_with fail
    go_ret
    exact ⟨by rw [Hno.out]; rfl, below1 _ _⟩
  | true =>
  cases hj : sideB j with
  | false =>
    have Hno := Lib.hid (tenB_j (p := p) (i := i) (k := k) (xs := xs) hj)
    have Hp := Lib.hid hp
    have Hi := Lib.hid hi
    have Hj := Lib.hid hj
    clear hp hi hj
    go_enter Try.func25, Try.ntmps25
    go_wp2_with fail
    refine (l01Prime_c p _).mono ?_
    rintro e w1 ⟨rfl, rfl⟩
    rw [Hp.out]
    go_wp2_with fail
    refine (l01In_side i _).mono ?_
    rintro e w1 ⟨rfl, rfl⟩
    rw [Hi.out]
    go_wp2_with fail
    refine (l01In_side j _).mono ?_
    rintro e w1 ⟨rfl, rfl⟩
    rw [Hj.out]
    go_wp2_with fail
    go_ret
    exact ⟨by rw [Hno.out]; rfl, below1 _ _⟩
  | true =>
  cases hk : sideB k with
  | false =>
    have Hno := Lib.hid (tenB_k (p := p) (i := i) (j := j) (xs := xs) hk)
    have Hp := Lib.hid hp
    have Hi := Lib.hid hi
    have Hj := Lib.hid hj
    have Hk := Lib.hid hk
    clear hp hi hj hk
    go_enter Try.func25, Try.ntmps25
    go_wp2_with fail
    refine (l01Prime_c p _).mono ?_
    rintro e w1 ⟨rfl, rfl⟩
    rw [Hp.out]
    go_wp2_with fail
    refine (l01In_side i _).mono ?_
    rintro e w1 ⟨rfl, rfl⟩
    rw [Hi.out]
    go_wp2_with fail
    refine (l01In_side j _).mono ?_
    rintro e w1 ⟨rfl, rfl⟩
    rw [Hj.out]
    go_wp2_with fail
    refine (l01In_side k _).mono ?_
    rintro e w1 ⟨rfl, rfl⟩
    rw [Hk.out]
    go_wp2_with fail
    go_ret
    exact ⟨by rw [Hno.out]; rfl, below1 _ _⟩
  | true =>
  have e1 := wrap_side2 hi hj
  have e2 := wrap_side3 hi hj hk
  by_cases hl : (xs.length : Int) = i * j * k
  · have hle : (((xs.length : Nat) : Int) != i * j * k) = false := by simp [hl]
    have Hx := Lib.hid (fun h => tenB_yes hp hi hj hk hl h)
    have Hp := Lib.hid hp
    have Hi := Lib.hid hi
    have Hj := Lib.hid hj
    have Hk := Lib.hid hk
    have hpp := prime_le5 hp
    clear hp hi hj hk hl
    have e9 : IntKind.i64.wrap (p - 1) = p - 1 := IntWalk.i64_in _ (by omega)
    go_enter Try.func25, Try.ntmps25
    go_wp2_with fail
    refine (l01Prime_c p _).mono ?_
    rintro e w1 ⟨rfl, rfl⟩
    rw [Hp.out]
    go_wp2_with fail
    refine (l01In_side i _).mono ?_
    rintro e w1 ⟨rfl, rfl⟩
    rw [Hi.out]
    go_wp2_with fail
    refine (l01In_side j _).mono ?_
    rintro e w1 ⟨rfl, rfl⟩
    rw [Hj.out]
    go_wp2_with fail
    refine (l01In_side k _).mono ?_
    rintro e w1 ⟨rfl, rfl⟩
    rw [Hk.out]
    go_wp2_with fail
    clear hle e1 e2
    go_loopw [3] (fun v wr => ∃ a : Nat, a ≤ xs.length ∧ v = .int .i64 a ∧ Below w.heap.size w wr ∧ At wr w.heap.size (.cells #[.int .i64 p, .int .i64 i, .int .i64 j, .int .i64 k, .slice A xs.length c] 29 (0, 0)) ∧ ∀ (y : Nat) (hy : y < xs.length), y < a → inB xs[y] p = true) (fun v _ => xs.length - (intOf v).toNat)
    case atStart => exact ⟨0, by omega, rfl, below1 _ _, al1_0 _ _, by omega⟩
    case round =>
      obtain ⟨a, ha, rfl, hB, h0, hall⟩ := hrel
      have Hall := Lib.hid hall
      clear hall
      have c0 : wr.cell? ⟨w.heap.size, 0, none⟩ = some (.int .i64 p) := h0.at_ 0
      have c4 : wr.cell? ⟨w.heap.size, 4, none⟩ = some (.slice A xs.length c) := h0.at_ 4
      by_cases hlt : a < xs.length
      · obtain ⟨b, off, rfl, hc⟩ := (hr.keep hB).at_ hlt
        have e0 : IntKind.i64.wrap ((a : Int) + 1) = (a : Int) + 1 := IntWalk.i64_in _ (by omega)
        have hlt' : (a : Int) < (xs.length : Int) := by omega
        have Hx1 : Hid (∃ x, xs[a] = x) := Lib.hid ⟨_, rfl⟩
        obtain ⟨x, hx⟩ := Hx1.out
        rw [hx] at hc
        have Hx1 := Lib.hid hx
        clear hx
        cases hb : inB x p with
        | false =>
          have Hno : Hid (tenB p i j k xs = false) := Lib.hid (tenB_n (numsB_no hlt (by rw [Hx1.out]; exact hb)))
          have HC := Lib.hid (l01In_num x p (p - 1) rfl)
          rw [hb] at HC
          clear hb
          go_wp2_with fail
          go_quiet ((go_at_call 26; exact Calls.quiet_of_same ((HC.out _).mono fun _ _ h => ⟨h.1, h.2.symm⟩)))
          go_wp2_with fail
          go_ret
          exact ⟨by rw [Hno.out]; rfl, below_drawn hB _⟩
        | true =>
          have HC := Lib.hid (l01In_num x p (p - 1) rfl)
          have Hstep : Hid (∀ (y : Nat) (hy : y < xs.length), y < a + 1 → inB xs[y] p = true) := Lib.hid (fun y hy hyk => by
            by_cases e : y = a
            · subst e; rw [Hx1.out]; exact hb
            · exact Hall.out y hy (by omega))
          rw [hb] at HC
          clear hb
          go_wp2_with fail
          go_quiet ((go_at_call 26; exact Calls.quiet_of_same ((HC.out _).mono fun _ _ h => ⟨h.1, h.2.symm⟩)))
          go_wp2_with fail
          go_roundw
          case rel => exact ⟨a + 1, by omega, by go_num, below_drawn hB _, h0.drewN _, Hstep.out⟩
          case measure => simp [intOf]; omega
      · obtain rfl : a = xs.length := by omega
        have Hyes : Hid (tenB p i j k xs = true) := Lib.hid (Hx.out (numsB_yes fun y hy => Hall.out y hy hy))
        go_wp2_with fail
        go_ret
        exact ⟨by rw [Hyes.out]; rfl, hB⟩
  · have hle : (((xs.length : Nat) : Int) != i * j * k) = true := by simp [hl]
    have Hno := Lib.hid (tenB_l (p := p) hl)
    have Hp := Lib.hid hp
    have Hi := Lib.hid hi
    have Hj := Lib.hid hj
    have Hk := Lib.hid hk
    clear hp hi hj hk hl
    go_enter Try.func25, Try.ntmps25
    go_wp2_with fail
    refine (l01Prime_c p _).mono ?_
    rintro e w1 ⟨rfl, rfl⟩
    rw [Hp.out]
    go_wp2_with fail
    refine (l01In_side i _).mono ?_
    rintro e w1 ⟨rfl, rfl⟩
    rw [Hi.out]
    go_wp2_with fail
    refine (l01In_side j _).mono ?_
    rintro e w1 ⟨rfl, rfl⟩
    rw [Hj.out]
    go_wp2_with fail
    refine (l01In_side k _).mono ?_
    rintro e w1 ⟨rfl, rfl⟩
    rw [Hk.out]
    go_wp2_with fail
    go_ret
    exact ⟨by rw [Hno.out]; rfl, below1 _ _⟩
end Go.Proofs.Ytolgfpcadfjliaa
