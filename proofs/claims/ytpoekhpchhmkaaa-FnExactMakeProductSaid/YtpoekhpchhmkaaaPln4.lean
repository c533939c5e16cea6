/-
  spec.PlainProduct, impl.PlainProduct.
-/
import Derived.Test.YtpoekhpchhmkaaaPln3
import Derived.Test.YtpoekhpchhmkaaaMat1
namespace Go.Proofs.Ytpoekhpchhmkaaa
open Go.RowKit
set_option maxRecDepth 100000
def plOk (p : Int) (n : Nat) (X : Nat → List Int) (m : Nat) (Y : Nat → List Int) : Bool := primeB p && smallB p n X && smallB p m Y && decide (colM n X = (m : Int))
theorem colM_pos {n : Nat} {X : Nat → List Int} (h : 1 ≤ n) : colM n X = ((X 0).length : Int) := by
  unfold colM
  rw [if_neg (by omega)]
theorem RdM.drewN {w : World} {A : Option Addr} {n : Nat} {row : Nat → List Int} (h : RdM w A n row) (j : Nat) : RdM (w.drewN j) A n row := h.keep (below_drawn (Below.refl _ _) j)
theorem plOk_parts {p : Int} {n m : Nat} {X Y : Nat → List Int} (h : plOk p n X m Y = true) : primeB p = true ∧ 1 ≤ n ∧ n ≤ 3 ∧ 1 ≤ m ∧ m ≤ 3 ∧ 1 ≤ (Y 0).length ∧ (Y 0).length ≤ 3 ∧ matB p n m n X = true ∧ matB p m (Y 0).length m Y = true ∧ ((X 0).length : Int) = m := by
  simp only [plOk, smallB, Bool.and_eq_true, decide_eq_true_eq] at h
  obtain ⟨⟨⟨hp, ⟨h1, h2⟩, h3⟩, ⟨h4, h5⟩, h6⟩, h7⟩ := h
  rw [h7] at h3
  simp only [sizeB, Bool.and_eq_true, decide_eq_true_eq] at h1 h4 h5
  have hm : 1 ≤ m := by omega
  have hn : 1 ≤ n := by omega
  rw [colM_pos hm] at h5 h6
  rw [colM_pos hn] at h7
  exact ⟨hp, hn, by omega, hm, by omega, by omega, by omega, h3, h6, h7⟩
theorem plOk_of {p : Int} {n m : Nat} {X Y : Nat → List Int} (hp : primeB p = true) (hn : 1 ≤ n) (hn3 : n ≤ 3) (hm : 1 ≤ m) (hm3 : m ≤ 3) (hk : sizeB ((Y 0).length : Int) = true) (h1 : matB p n m n X = true) (h2 : matB p m (Y 0).length m Y = true) : plOk p n X m Y = true := by
  have hx := ((matB_parts h1).2 0 (by omega)).1
  have sn : sizeB (n : Int) = true := by simp only [sizeB, Bool.and_eq_true, decide_eq_true_eq]; omega
  have sm : sizeB (m : Int) = true := by simp only [sizeB, Bool.and_eq_true, decide_eq_true_eq]; omega
  simp only [plOk, smallB, colM_pos hn, colM_pos hm, hx, hp, sn, sm, hk, h1, h2]
  simp

set_option maxHeartbeats 1600000 in
theorem specPlainProduct_no (p : Int) (A B : Option Addr) (c1 c2 n m : Nat) (X Y : Nat → List Int) (w : World) (hX : RdM w A n X) (hY : RdM w B m Y) (hn : n ≤ 1048576) (hm : m ≤ 1048576) (hXl : ∀ i, i < n → (X i).length ≤ 1048576) (hYl : ∀ i, i < m → (Y i).length ≤ 1048576) (R : Nat → List Int) (hno : plOk p n X m Y = false) :
    Calls Try.prog 24 #[.int .i64 p, .slice A n c1, .slice B m c2] w (ResM w 0 R 2) := by
  have HP0 := l01Prime_c p
  cases hp : primeB p with
  | false =>
    rw [hp] at HP0
    have HP := Lib.hid HP0
    go_enter Try.func24, Try.ntmps24
    go_wp2_with fail
    refine (HP.out _).mono ?_
    rintro e w1 ⟨rfl, rfl⟩
    go_wp2_with fail
    go_ret2
    exact ⟨_, rfl, OwnM.nil _ _ _ _, Below.refl _ _⟩
  | true =>
    rw [hp] at HP0
    have HP := Lib.hid HP0
    by_cases a1 : n < 1
    · have d1 : decide ((n : Int) < 1) = true := by simp; omega
      go_enter Try.func24, Try.ntmps24
      go_wp2_with fail
      refine (HP.out _).mono ?_
      rintro e w1 ⟨rfl, rfl⟩
      go_wp2_with fail
      go_ret2
      exact ⟨_, rfl, OwnM.nil _ _ _ _, Below.refl _ _⟩
    · have d1 : decide ((n : Int) < 1) = false := by simp; omega
      by_cases a2 : 3 < n
      · have d2 : decide ((3 : Int) < (n : Int)) = true := by simp; omega
        go_enter Try.func24, Try.ntmps24
        go_wp2_with fail
        refine (HP.out _).mono ?_
        rintro e w1 ⟨rfl, rfl⟩
        go_wp2_with fail
        go_ret2
        exact ⟨_, rfl, OwnM.nil _ _ _ _, Below.refl _ _⟩
      · have d2 : decide ((3 : Int) < (n : Int)) = false := by simp; omega
        by_cases a3 : m < 1
        · have d3 : decide ((m : Int) < 1) = true := by simp; omega
          go_enter Try.func24, Try.ntmps24
          go_wp2_with fail
          refine (HP.out _).mono ?_
          rintro e w1 ⟨rfl, rfl⟩
          go_wp2_with fail
          go_ret2
          exact ⟨_, rfl, OwnM.nil _ _ _ _, Below.refl _ _⟩
        · have d3 : decide ((m : Int) < 1) = false := by simp; omega
          by_cases a4 : 3 < m
          · have d4 : decide ((3 : Int) < (m : Int)) = true := by simp; omega
            go_enter Try.func24, Try.ntmps24
            go_wp2_with fail
            refine (HP.out _).mono ?_
            rintro e w1 ⟨rfl, rfl⟩
            go_wp2_with fail
            go_ret2
            exact ⟨_, rfl, OwnM.nil _ _ _ _, Below.refl _ _⟩
          · have d4 : decide ((3 : Int) < (m : Int)) = false := by simp; omega
            obtain ⟨b2, off2, B0, cB0, rfl, hc0, _⟩ := hY.at_ (i := 0) (by omega)
            have hc0' : w.cell? ⟨b2, off2, none⟩ = some (.slice B0 (Y 0).length cB0) := hc0
            have hpos : (0 : Int) < (m : Int) := by omega
            have HI0 := l01In_size ((Y 0).length : Int)
            have HL0 := fun j => l01Matrix_c p n m A c1 n X (w.drewN j) (hX.drewN j) hp hn hXl
            have HR0 := fun j => l01Matrix_c p m (Y 0).length (some ⟨b2, off2, none⟩) c2 m Y (w.drewN j) (hY.drewN j) hp hm hYl
            cases hk : sizeB ((Y 0).length : Int) with
            | false =>
              rw [hk] at HI0
              have HI := Lib.hid HI0
              clear HL0 HR0
              go_enter Try.func24, Try.ntmps24
              go_wp2_with fail
              refine (HP.out _).mono ?_
              rintro e w1 ⟨rfl, rfl⟩
              go_wp2_with fail
              go_quiet (fail)
              go_wp2_with fail
              refine (HI.out _).mono ?_
              rintro e w1 ⟨rfl, rfl⟩
              go_wp2_with fail
              go_ret2
              exact ⟨_, rfl, OwnM.nil _ _ _ _, below_drawn (Below.refl _ _) _⟩
            | true =>
              rw [hk] at HI0
              have HI := Lib.hid HI0
              cases h1 : matB p n m n X with
              | false =>
                simp only [h1] at HL0
                have HL := Lib.hid HL0
                clear HR0
                go_enter Try.func24, Try.ntmps24
                go_wp2_with fail
                refine (HP.out _).mono ?_
                rintro e w1 ⟨rfl, rfl⟩
                go_wp2_with fail
                go_quiet (fail)
                go_wp2_with fail
                refine (HI.out _).mono ?_
                rintro e w1 ⟨rfl, rfl⟩
                go_wp2_with fail
                refine (HL.out _).mono ?_
                rintro e w1 ⟨rfl, rfl⟩
                go_wp2_with fail
                go_ret2
                exact ⟨_, rfl, OwnM.nil _ _ _ _, below_drawn (Below.refl _ _) _⟩
              | true =>
                simp only [h1] at HL0
                have HL := Lib.hid HL0
                cases h2 : matB p m (Y 0).length m Y with
                | false =>
                  simp only [h2] at HR0
                  have HR := Lib.hid HR0
                  go_enter Try.func24, Try.ntmps24
                  go_wp2_with fail
                  refine (HP.out _).mono ?_
                  rintro e w1 ⟨rfl, rfl⟩
                  go_wp2_with fail
                  go_quiet (fail)
                  go_wp2_with fail
                  refine (HI.out _).mono ?_
                  rintro e w1 ⟨rfl, rfl⟩
                  go_wp2_with fail
                  refine (HL.out _).mono ?_
                  rintro e w1 ⟨rfl, rfl⟩
                  go_wp2_with fail
                  refine (HR.out _).mono ?_
                  rintro e w1 ⟨rfl, rfl⟩
                  go_wp2_with fail
                  go_ret2
                  exact ⟨_, rfl, OwnM.nil _ _ _ _, below_drawn (Below.refl _ _) _⟩
                | true =>
                  rw [plOk_of hp (by omega) (by omega) (by omega) (by omega) hk h1 h2] at hno
                  cases hno
set_option maxHeartbeats 1600000 in
theorem specPlainProduct_yes (p : Int) (A B : Option Addr) (c1 c2 n m : Nat) (X Y : Nat → List Int) (w : World) (hX : RdM w A n X) (hY : RdM w B m Y) (hn : n ≤ 1048576) (hm : m ≤ 1048576) (hXl : ∀ i, i < n → (X i).length ≤ 1048576) (hYl : ∀ i, i < m → (Y i).length ≤ 1048576) (hok : plOk p n X m Y = true) :
    Calls Try.prog 24 #[.int .i64 p, .slice A n c1, .slice B m c2] w (ResM w n (plRow p X Y m (Y 0).length) 0) := by
  obtain ⟨hp, hn1, hn3, hm1, hm3, hk1, hk3, h1, h2, _⟩ := plOk_parts hok
  have HP0 := l01Prime_c p
  rw [hp] at HP0
  have HP := Lib.hid HP0
  have d1 : decide ((n : Int) < 1) = false := by simp; omega
  have d2 : decide ((3 : Int) < (n : Int)) = false := by simp; omega
  have d3 : decide ((m : Int) < 1) = false := by simp; omega
  have hk : sizeB ((Y 0).length : Int) = true := by simp only [sizeB, Bool.and_eq_true, decide_eq_true_eq]; omega
  have d4 : decide ((3 : Int) < (m : Int)) = false := by simp; omega
  obtain ⟨b2, off2, B0, cB0, rfl, hc0, _⟩ := hY.at_ (i := 0) (by omega)
  have hc0' : w.cell? ⟨b2, off2, none⟩ = some (.slice B0 (Y 0).length cB0) := hc0
  have hpos : (0 : Int) < (m : Int) := by omega
  have HI0 := l01In_size ((Y 0).length : Int)
  have HL0 := fun j => l01Matrix_c p n m A c1 n X (w.drewN j) (hX.drewN j) hp hn hXl
  have HR0 := fun j => l01Matrix_c p m (Y 0).length (some ⟨b2, off2, none⟩) c2 m Y (w.drewN j) (hY.drewN j) hp hm hYl
  have HPl := Lib.hid (fun j => l01Plain_c p A (some ⟨b2, off2, none⟩) c1 c2 n m (Y 0).length X Y (w.drewN j) (hX.drewN j) (hY.drewN j) hp hn3 hm1 hm3 hk3 (fun i hi => ⟨by have := ((matB_parts h1).2 i hi).1; omega, ((matB_parts h1).2 i hi).2⟩) (fun i hi => ⟨by have := ((matB_parts h2).2 i hi).1; omega, ((matB_parts h2).2 i hi).2⟩))
  rw [hk] at HI0
  have HI := Lib.hid HI0
  simp only [h1] at HL0
  have HL := Lib.hid HL0
  simp only [h2] at HR0
  have HR := Lib.hid HR0
  clear HL0 HR0 HI0
  go_enter Try.func24, Try.ntmps24
  go_wp2_with fail
  refine (HP.out _).mono ?_
  rintro e w1 ⟨rfl, rfl⟩
  go_wp2_with fail
  go_quiet (fail)
  go_wp2_with fail
  refine (HI.out _).mono ?_
  rintro e w1 ⟨rfl, rfl⟩
  go_wp2_with fail
  refine (HL.out _).mono ?_
  rintro e w1 ⟨rfl, rfl⟩
  go_wp2_with fail
  refine (HR.out _).mono ?_
  rintro e w1 ⟨rfl, rfl⟩
  go_wp2_with fail
  refine (HPl.out _).mono ?_
  rintro e w2 ⟨v, rfl, oM, b2⟩
  go_wp2_with fail
  go_ret2
  exact ⟨_, rfl, oM, below_after (below_drawn (Below.refl _ _) _) b2⟩
end Go.Proofs.Ytpoekhpchhmkaaa
