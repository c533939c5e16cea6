/-
  laws.FnExactCountInvertible: the walk: it returns true and writes nothing that was there. (Made by genlaw2.py.)
-/
import Derived.Test.YtokmchadckcilaaLK1
namespace Go.Proofs.Ytokmchadckcilaa
open Go.RowKit
set_option maxRecDepth 100000
set_option maxHeartbeats 6400000 in
theorem lawCountInvertible_walk (p : Int) (n : Int) (r : Int) (code : Int) (w : World) 
    (hS : (∀  (w : World), Calls Try.prog 8 #[.int .i64 p, .int .i64 n] w (fun e w' => e = .returned (.tuple #[.int .i64 r, .int .i64 code]) ∧ Below w.heap.size w w')))
    (hI : (∀  (w : World), Calls Try.prog 9 #[.int .i64 p, .int .i64 n] w (fun e w' => e = .returned (.tuple #[.int .i64 r, .int .i64 code]) ∧ Below w.heap.size w w'))) :
    Calls Try.prog 3 #[.int .i64 p, .int .i64 n] w fun e w' => e = .returned (.bool true) ∧ Below w.heap.size w w' := by
  have hcode : (code != code) = false := by simp
  have hr0 : (r != r) = false := by simp
  go_enter Try.func3, Try.ntmps3
  have HSp := Lib.hid hS
  have HIm := Lib.hid hI
  clear hS hI
  have hK : KA w [] w := ⟨Below.refl _ _, by intro b hb; cases hb⟩
  go_wp2_with fail
  refine (HSp.out _).mono ?_
  rintro e w1 ⟨rfl, b1⟩
  have z1 : w.heap.size ≤ w1.heap.size := size_after (Nat.le_refl _) b1
  replace hK := hK.after b1
  clear b1
  go_wp2_with fail
  refine (HIm.out _).mono ?_
  rintro e w2 ⟨rfl, b2⟩
  have z2 : w1.heap.size ≤ w2.heap.size := size_after (Nat.le_refl _) b2
  replace hK := hK.after b2
  clear b2
  go_wp2_with fail
  go_ret
  exact ⟨rfl, hK.below⟩
end Go.Proofs.Ytokmchadckcilaa
