/-
  laws.FnExactPlainProduct: the walk: it returns true and writes nothing that was there.
-/
import Derived.Test.YtpoekhpchhmkaaaPln5
import Derived.Test.YtpoekhpchhmkaaaLKM
namespace Go.Proofs.Ytpoekhpchhmkaaa
open Go.RowKit
set_option maxRecDepth 100000
set_option maxHeartbeats 3200000 in
theorem lawPlain_walk0 (p : Int) (A : Option Addr) (c1 n : Nat) (X : Nat → List Int) (B : Option Addr) (c2 m : Nat) (Y : Nat → List Int) (N : Nat) (R : Nat → List Int) (code : Int) (w : World) (hX : RdM w A n X) (hn : n ≤ 9223372036854775807) (hXl : ∀ i, i < n → (X i).length ≤ 9223372036854775807)
    (hY : RdM w B m Y) (hm : m ≤ 9223372036854775807) (hYl : ∀ i, i < m → (Y i).length ≤ 9223372036854775807) (hN : N + tot R N ≤ 1048576)
    (hS : n + tot X n ≤ 1048576 → m + tot Y m ≤ 1048576 → ∀ A B c1 c2 w, RdM w A n X → RdM w B m Y → Calls Try.prog 24 #[.int .i64 p, .slice A n c1, .slice B m c2] w (ResM w N R code))
    (hI : n + tot X n ≤ 1048576 → m + tot Y m ≤ 1048576 → ∀ A B c1 c2 w, RdM w A n X → RdM w B m Y → Calls Try.prog 25 #[.int .i64 p, .slice A n c1, .slice B m c2] w (ResM w N R code)) :
    Calls Try.prog 6 #[.int .i64 p, .slice A n c1, .slice B m c2] w fun e w' => e = .returned (.bool true) ∧ Below w.heap.size w w' := by
  have HZX := Lib.hid (szInt64SS_c A n c1 X 1048576 w hX (by omega) hn hXl (by omega))
  have hcode : (code != code) = false := by simp
  go_enter Try.func6, Try.ntmps6
  go_wp2_with fail
  refine HZX.out.mono ?_
  rintro e w' ⟨r1, rfl, hr1, rfl⟩
  rcases hr1 with rfl | ⟨hr1, he1⟩
  · go_wp2_with fail
    go_ret
    exact ⟨rfl, Below.refl _ _⟩
  have h1' : ¬ r1 < 0 := by omega
  have HZY := Lib.hid (szInt64SS_c B m c2 Y r1 w hY hr1 hm hYl (by omega))
  go_wp2_with fail
  refine HZY.out.mono ?_
  rintro e w' ⟨r2, rfl, hr2, rfl⟩
  rcases hr2 with rfl | ⟨hr2, he2⟩
  · go_wp2_with fail
    go_ret
    exact ⟨rfl, Below.refl _ _⟩
  have h2' : ¬ r2 < 0 := by omega
  have tX : n + tot X n ≤ 1048576 := by omega
  have tY : m + tot Y m ≤ 1048576 := by omega
  have HSp := Lib.hid (hS tX tY)
  have HIm := Lib.hid (hI tX tY)
  have lX : Hid (∀ i, i < n → (X i).length ≤ 1048576) := Lib.hid (fun i hi => by have := tot_ge X hi; omega)
  have lY : Hid (∀ i, i < m → (Y i).length ≤ 1048576) := Lib.hid (fun i hi => by have := tot_ge Y hi; omega)
  have lX9 : Hid (∀ i, i < n → (X i).length ≤ 9000000000000000000) := Lib.hid (fun i hi => by have := tot_ge X hi; omega)
  have lY9 : Hid (∀ i, i < m → (Y i).length ≤ 9000000000000000000) := Lib.hid (fun i hi => by have := tot_ge Y hi; omega)
  have lR9 : Hid (∀ i, i < N → (R i).length ≤ 9000000000000000000) := Lib.hid (fun i hi => by have := tot_ge R hi; omega)
  clear hS hI HZX HZY hr1 he1 hr2 he2 hXl hYl
  go_wp2_with fail
  refine (toInt64SS_c A c1 n X w hX (by omega) lX.out).mono ?_
  rintro e w1 ⟨vl, rfl, ol, hB⟩
  obtain ⟨Al, cl, rfl, _⟩ := ol.rd
  go_wp2_with fail
  refine (toInt64SS_c B c2 m Y _ (hY.keep hB) (by omega) lY.out).mono ?_
  rintro e w2 ⟨vr, rfl, or, b2⟩
  obtain ⟨Ar, cr, rfl, _⟩ := or.rd
  replace hB := below_after hB b2
  go_wp2_with fail
  refine (HSp.out _ _ _ _ _ (ol.below b2).rd' or.rd').mono ?_
  rintro e w3 ⟨v0, rfl, o0, b3⟩
  obtain ⟨A0, c0, rfl, _⟩ := o0.rd
  have l2 := hB.size
  replace hB := below_after hB b3
  clear ol or b2 b3
  go_wp2_with fail
  refine (toInt64SS_c A c1 n X _ (hX.keep hB) (by omega) lX.out).mono ?_
  rintro e w4 ⟨vx, rfl, ox, b4⟩
  obtain ⟨Ax, cx, rfl, _⟩ := ox.rd
  have l3 := hB.size
  replace o0 := o0.below b4
  replace hB := below_after hB b4
  have s34 := b4.size
  clear b4
  go_wp2_with fail
  refine (toInt64SS_c B c2 m Y _ (hY.keep hB) (by omega) lY.out).mono ?_
  rintro e w5 ⟨vy, rfl, oy, b5⟩
  obtain ⟨Ay, cy, rfl, _⟩ := oy.rd
  have l4 := hB.size
  replace o0 := o0.below b5
  replace ox := ox.below b5
  replace hB := below_after hB b5
  have s45 := b5.size
  clear b5
  go_wp2_with fail
  refine (HIm.out _ _ _ _ _ ox.rd' oy.rd').mono ?_
  rintro e w6 ⟨vg, rfl, og, b6⟩
  obtain ⟨Ag, cg, rfl, _⟩ := og.rd
  have l5 := hB.size
  replace o0 := o0.below b6
  replace ox := ox.below b6
  replace oy := oy.below b6
  replace hB := below_after hB b6
  clear b6
  go_wp2_with fail
  refine (eqInt64SS_c Ag A0 cg c0 N R _ og.rd' o0.rd' (by omega) lR9.out).mono ?_
  rintro e w7 ⟨rfl, b7⟩
  replace o0 := o0.below b7
  replace ox := ox.below b7
  replace oy := oy.below b7
  replace og := og.below b7
  replace hB := below_after hB b7
  clear b7
  go_wp2_with fail
  refine (toInt64SS_c A c1 n X _ (hX.keep hB) (by omega) lX.out).mono ?_
  rintro e w8 ⟨vz, rfl, oz, b8⟩
  obtain ⟨Az, cz, rfl, _⟩ := oz.rd
  replace o0 := o0.below b8
  replace ox := ox.below b8
  replace oy := oy.below b8
  replace og := og.below b8
  replace hB := below_after hB b8
  clear b8
  go_wp2_with fail
  refine (eqInt64SS_c Ax Az cx cz n X _ ox.rd' oz.rd' (by omega) lX9.out).mono ?_
  rintro e w9 ⟨rfl, b9⟩
  replace o0 := o0.below b9
  replace ox := ox.below b9
  replace oy := oy.below b9
  replace og := og.below b9
  replace hB := below_after hB b9
  clear b9 oz
  go_wp2_with fail
  refine (toInt64SS_c B c2 m Y _ (hY.keep hB) (by omega) lY.out).mono ?_
  rintro e w10 ⟨vz, rfl, oz, b10⟩
  obtain ⟨Az, cz, rfl, _⟩ := oz.rd
  replace o0 := o0.below b10
  replace ox := ox.below b10
  replace oy := oy.below b10
  replace og := og.below b10
  replace hB := below_after hB b10
  clear b10
  go_wp2_with fail
  refine (eqInt64SS_c Ay Az cy cz m Y _ oy.rd' oz.rd' (by omega) lY9.out).mono ?_
  rintro e w11 ⟨rfl, b11⟩
  replace o0 := o0.below b11
  replace ox := ox.below b11
  replace oy := oy.below b11
  replace og := og.below b11
  replace hB := below_after hB b11
  clear b11 oz
  go_wp2_with fail
  refine (markInt64SS_2 1 _ n X _ (by simp) ox tX (by omega)).mono ?_
  rintro e w12 ⟨rfl, ox', S12⟩
  replace o0 := o0.same S12 (.inl (Nat.le_refl _))
  replace oy := oy.same S12 (.inr (Nat.le_refl _))
  replace og := og.same S12 (.inr s45)
  replace hB := Below.of_same hB S12 l3
  clear S12 ox ox'
  go_wp2_with fail
  refine (markInt64SS_2 (1 + tot X n) _ m Y _ (by simp) oy tY (by omega)).mono ?_
  rintro e w13 ⟨rfl, oy', S13⟩
  replace o0 := o0.same S13 (.inl s34)
  replace og := og.same S13 (.inr (Nat.le_refl _))
  replace hB := Below.of_same hB S13 l4
  clear S13 oy oy'
  have hneg : ¬ (1 : Int) + ((tot X n : Nat) : Int) + ((tot Y m : Nat) : Int) < 0 := by omega
  go_wp2_with fail
  refine (eqInt64SS_c Ag A0 cg c0 N R _ og.rd' o0.rd' (by omega) lR9.out).mono ?_
  rintro e w14 ⟨rfl, b14⟩
  replace o0 := o0.below b14
  replace og := og.below b14
  replace hB := below_after hB b14
  clear b14 hneg
  go_wp2_with fail
  refine (markInt64SS_2 1 _ N R _ (by simp) og hN (by omega)).mono ?_
  rintro e w15 ⟨rfl, og', S15⟩
  replace o0 := o0.same S15 (.inl (by omega))
  replace hB := Below.of_same hB S15 l5
  clear S15 og
  have hneg : ¬ (1 : Int) + ((tot R N : Nat) : Int) < 0 := by omega
  go_wp2_with fail
  refine (heldInt64SS_2 N R _ og' hN).mono ?_
  rintro e w16 ⟨rfl, rfl⟩
  go_wp2_with fail
  refine (toInt64SS_c A c1 n X _ (hX.keep hB) (by omega) lX.out).mono ?_
  rintro e w17 ⟨vl, rfl, ol, b17⟩
  obtain ⟨Al, cl, rfl, _⟩ := ol.rd
  replace o0 := o0.below b17
  replace og' := og'.below b17
  replace hB := below_after hB b17
  clear b17
  go_wp2_with fail
  refine (toInt64SS_c B c2 m Y _ (hY.keep hB) (by omega) lY.out).mono ?_
  rintro e w18 ⟨vr, rfl, or, b18⟩
  obtain ⟨Ar, cr, rfl, _⟩ := or.rd
  replace o0 := o0.below b18
  replace og' := og'.below b18
  replace ol := ol.below b18
  replace hB := below_after hB b18
  clear b18
  go_wp2_with fail
  refine (HIm.out _ _ _ _ _ ol.rd' or.rd').mono ?_
  rintro e w19 ⟨vh, rfl, oh, b19⟩
  obtain ⟨Ah, ch, rfl, _⟩ := oh.rd
  replace o0 := o0.below b19
  replace og' := og'.below b19
  replace hB := below_after hB b19
  clear b19 ol or
  go_wp2_with fail
  refine (eqInt64SS_c Ah A0 ch c0 N R _ oh.rd' o0.rd' (by omega) lR9.out).mono ?_
  rintro e w20 ⟨rfl, b20⟩
  replace og' := og'.below b20
  replace hB := below_after hB b20
  clear b20 oh o0
  go_wp2_with fail
  refine (heldInt64SS_2 N R _ og' hN).mono ?_
  rintro e w21 ⟨rfl, rfl⟩
  go_wp2_with fail
  go_ret
  exact ⟨rfl, hB⟩
theorem lawPlainProduct (p : Int) (A : Option Addr) (c1 n : Nat) (X : Nat → List Int) (B : Option Addr) (c2 m : Nat) (Y : Nat → List Int) (w : World)
    (hX : RdM w A n X ∧ n ≤ 9223372036854775807 ∧ ∀ i, i < n → (X i).length ≤ 9223372036854775807) (hY : RdM w B m Y ∧ m ≤ 9223372036854775807 ∧ ∀ i, i < m → (Y i).length ≤ 9223372036854775807) :
    Calls Try.prog 6 #[.int .i64 p, .slice A n c1, .slice B m c2] w fun e w' => e = .returned (.bool true) ∧ Below w.heap.size w w' := by
  cases hok : plOk p n X m Y with
  | false =>
    exact lawPlain_walk0 p A c1 n X B c2 m Y 0 X 2 w hX.1 hX.2.1 hX.2.2 hY.1 hY.2.1 hY.2.2 (by simp [tot])
      (fun tX tY A B c1 c2 w hX hY => specPlainProduct_no p A B c1 c2 n m X Y w hX hY (by omega) (by omega) (fun i hi => by have := tot_ge X hi; omega) (fun i hi => by have := tot_ge Y hi; omega) X hok)
      (fun tX tY A B c1 c2 w hX hY => implPlainProduct_no p A B c1 c2 n m X Y w hX hY (by omega) (by omega) (fun i hi => by have := tot_ge X hi; omega) (fun i hi => by have := tot_ge Y hi; omega) X hok)
  | true =>
    obtain ⟨_, hn1, hn3, _, _, hk1, hk3, _⟩ := plOk_parts hok
    have ht : tot (plRow p X Y m (Y 0).length) n ≤ n * 3 := tot_le (fun i _ => by rw [plRow, mapRow_len]; exact hk3)
    exact lawPlain_walk0 p A c1 n X B c2 m Y n (plRow p X Y m (Y 0).length) 0 w hX.1 hX.2.1 hX.2.2 hY.1 hY.2.1 hY.2.2 (by omega)
      (fun tX tY A B c1 c2 w hX hY => specPlainProduct_yes p A B c1 c2 n m X Y w hX hY (by omega) (by omega) (fun i hi => by have := tot_ge X hi; omega) (fun i hi => by have := tot_ge Y hi; omega) hok)
      (fun tX tY A B c1 c2 w hX hY => implPlainProduct_yes p A B c1 c2 n m X Y w hX hY (by omega) (by omega) (fun i hi => by have := tot_ge X hi; omega) (fun i hi => by have := tot_ge Y hi; omega) hok)
end Go.Proofs.Ytpoekhpchhmkaaa
