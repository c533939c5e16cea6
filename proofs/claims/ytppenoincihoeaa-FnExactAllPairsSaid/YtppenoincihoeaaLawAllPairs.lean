/-
  laws.FnExactAllPairs: the walk: it returns true and writes nothing that was there. (Made by genlaw2.py.)
-/
import Derived.Test.YtppenoincihoeaaPrR
namespace Go.Proofs.Ytppenoincihoeaa
open Go.RowKit
set_option maxRecDepth 100000
theorem ka_world {w wr : World} {bs : List (Nat × Obj)} (_ : KA w bs wr) : ∃ x : World, x = wr := ⟨wr, rfl⟩
set_option maxHeartbeats 6400000 in
theorem lawAllPairs_walk (n : Int) (m : Int) (k : Int) (rs : List (List Nat)) (code : Int) (w : World)  (hrb : ∀ r ∈ rs, Bytes 18 r) (hrl : rs.length ≤ 1048576)
    (hS : (∀  (w : World), Calls Try.prog 21 #[.int .i64 n, .int .i64 m, .int .i64 k] w (ResR w rs code)))
    (hI : (∀  (w : World), Calls Try.prog 22 #[.int .i64 n, .int .i64 m, .int .i64 k] w (ResR w rs code))) :
    Calls Try.prog 6 #[.int .i64 n, .int .i64 m, .int .i64 k] w fun e w' => e = .returned (.bool true) ∧ Below w.heap.size w w' := by
  have hcode : (code != code) = false := by simp
  go_enter Try.func6, Try.ntmps6
  have HSp := Lib.hid hS
  have HIm := Lib.hid hI
  clear hS hI
  have hK : KA w [] w := ⟨Below.refl _ _, by intro b hb; cases hb⟩
  go_wp2_with fail
  refine (HSp.out _).mono ?_
  rintro e w1 ⟨v1, rfl, o0, b1⟩
  have z1 : w.heap.size ≤ w1.heap.size := size_after (Nat.le_refl _) b1
  replace hK := hK.after b1
  clear b1
  replace o0 := o0.mono (Nat.le_refl _)
  have io0 := o0.inn
  obtain ⟨A0, c0, rfl, _⟩ := o0.rd hrb
  go_wp2_with fail
  refine (HIm.out _).mono ?_
  rintro e w2 ⟨v2, rfl, o1, b2⟩
  have z2 : w1.heap.size ≤ w2.heap.size := size_after (Nat.le_refl _) b2
  replace hK := hK.after b2
  replace o0 := o0.below b2
  clear b2
  replace o1 := o1.mono (Nat.le_refl _)
  have io1 := o1.inn
  obtain ⟨A1, c1, rfl, _⟩ := o1.rd hrb
  go_wp2_with fail
  refine (eqPairS_c _ _ _ _ rs _ (o1.rd' hrb) (o0.rd' hrb) (by omega)).mono ?_
  rintro e w3 ⟨rfl, b3⟩
  have z3 : w2.heap.size ≤ w3.heap.size := size_after (Nat.le_refl _) b3
  replace hK := hK.after b3
  replace o0 := o0.below b3
  replace o1 := o1.below b3
  clear b3
  go_wp2_with fail
  have hneg4 : ¬ (1 : Int) + (rs.length : Int) * 18 < 0 := by omega
  refine (markPairS_2 (1) _ _ (by simp) o1 hrl (by omega)).mono ?_
  rintro e w4 ⟨rfl, hG, hH⟩
  have S4 := Same.of_in hG io1
  have z4 : w3.heap.size ≤ w4.heap.size := Nat.le_trans (Nat.le_refl _) S4.size
  replace hK := hK.same S4 (by omega) (by intro b hb; cases hb)
  replace o0 := o0.same io0 S4 (by omega)
  clear S4 hG
  have s1 := o1.shp
  clear o1
  have ihH := io1
  go_wp2_with fail
  refine (heldPairS_1 _ s1 hH hrl).mono ?_
  rintro e w5 ⟨rfl, rfl⟩
  go_wp2_with fail
  refine (HIm.out _).mono ?_
  rintro e w6 ⟨v6, rfl, o2, b6⟩
  have z6 : w4.heap.size ≤ w6.heap.size := size_after (Nat.le_refl _) b6
  replace hK := hK.after b6
  replace o0 := o0.below b6
  replace hH := hH.below b6
  clear b6
  replace o2 := o2.mono (Nat.le_refl _)
  have io2 := o2.inn
  obtain ⟨A2, c2, rfl, _⟩ := o2.rd hrb
  go_wp2_with fail
  refine (eqPairS_c _ _ _ _ rs _ (o2.rd' hrb) (o0.rd' hrb) (by omega)).mono ?_
  rintro e w7 ⟨rfl, b7⟩
  have z7 : w6.heap.size ≤ w7.heap.size := size_after (Nat.le_refl _) b7
  replace hK := hK.after b7
  replace o0 := o0.below b7
  replace hH := hH.below b7
  replace o2 := o2.below b7
  clear b7
  clear o2 o0
  go_wp2_with fail
  refine (heldPairS_1 _ s1 hH hrl).mono ?_
  rintro e w8 ⟨rfl, rfl⟩
  go_wp2_with fail
  go_ret
  exact ⟨rfl, hK.below⟩
end Go.Proofs.Ytppenoincihoeaa
