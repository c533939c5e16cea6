/-
  laws.FnExactRowRank: the walk: it returns true and writes nothing that was there. (Made by genlaw2.py.)
-/
import Derived.Test.YtolgfpcadfjliaaMat1
namespace Go.Proofs.Ytolgfpcadfjliaa
open Go.RowKit
set_option maxRecDepth 100000
theorem ka_world {w wr : World} {bs : List (Nat × Obj)} (_ : KA w bs wr) : ∃ x : World, x = wr := ⟨wr, rfl⟩
set_option maxHeartbeats 6400000 in
theorem lawRowRank_walk (p : Int) (rowsA : Option Addr) (rowsc rowsn : Nat) (rows : Nat → List Int) (r : Int) (code : Int) (w : World) (hm_rows : RdM w rowsA rowsn rows) (hn_rows : rowsn ≤ 9223372036854775807) (hl_rows : ∀ i, i < rowsn → (rows i).length ≤ 9223372036854775807)
    (hS : (rowsn + tot rows rowsn ≤ 1048576 → ∀ (Arows : Option Addr) (crows : Nat) (w : World), RdM w Arows rowsn rows → Calls Try.prog 21 #[.int .i64 p, .slice Arows rowsn crows] w (fun e w' => e = .returned (.tuple #[.int .i64 r, .int .i64 code]) ∧ Below w.heap.size w w')))
    (hI : (rowsn + tot rows rowsn ≤ 1048576 → ∀ (Arows : Option Addr) (crows : Nat) (w : World), RdM w Arows rowsn rows → Calls Try.prog 23 #[.int .i64 p, .slice Arows rowsn crows] w (fun e w' => e = .returned (.tuple #[.int .i64 r, .int .i64 code]) ∧ Below w.heap.size w w'))) :
    Calls Try.prog 5 #[.int .i64 p, .slice rowsA rowsn rowsc] w fun e w' => e = .returned (.bool true) ∧ Below w.heap.size w w' := by
  have hcode : (code != code) = false := by simp
  have hr0 : (r != r) = false := by simp
  go_enter Try.func5, Try.ntmps5
  have hK : KA w [] w := ⟨Below.refl _ _, by intro b hb; cases hb⟩
  go_wp2_with fail
  refine (szInt64SS_c rowsA rowsn rowsc rows 1048576 _ (hm_rows.keep hK.below) (by omega) hn_rows hl_rows (by omega)).mono ?_
  rintro e w1 ⟨r1, rfl, hr1, hw1⟩
  subst hw1
  rcases hr1 with rfl | ⟨hr1, he1⟩
  · go_wp2_with fail
    go_ret
    exact ⟨rfl, hK.below⟩
  have hg1 : ¬ r1 < 0 := by omega
  have t_rows : rowsn + tot rows rowsn ≤ 1048576 := by omega
  have tl_rows : Hid (∀ i, i < rowsn → (rows i).length ≤ 1048576) := Lib.hid (fun i hi => by have := tot_ge rows hi; omega)
  have t9_rows : Hid (∀ i, i < rowsn → (rows i).length ≤ 9000000000000000000) := Lib.hid (fun i hi => by have := tot_ge rows hi; omega)
  have HSp := Lib.hid (hS t_rows)
  have HIm := Lib.hid (hI t_rows)
  clear hS hI
  clear hl_rows
  go_wp2_with fail
  refine (toInt64SS_c rowsA rowsc rowsn rows _ (hm_rows.keep hK.below) (by omega) tl_rows.out).mono ?_
  rintro e w2 ⟨v2, rfl, h2, b2⟩
  have z2 : w.heap.size ≤ w2.heap.size := size_after (Nat.le_refl _) b2
  replace hK := hK.after b2
  clear b2
  obtain ⟨A2, c2, rfl, _⟩ := h2.rd
  replace h2 := h2.mono (Nat.le_refl _) (Nat.le_refl _)
  go_wp2_with fail
  refine (HSp.out _ _ _ (h2.rd')).mono ?_
  rintro e w3 ⟨rfl, b3⟩
  have z3 : w2.heap.size ≤ w3.heap.size := size_after (Nat.le_refl _) b3
  replace hK := hK.after b3
  replace h2 := h2.below b3
  clear b3
  clear h2
  go_wp2_with fail
  refine (toInt64SS_c rowsA rowsc rowsn rows _ (hm_rows.keep hK.below) (by omega) tl_rows.out).mono ?_
  rintro e w4 ⟨v4, rfl, h4, b4⟩
  have z4 : w3.heap.size ≤ w4.heap.size := size_after (Nat.le_refl _) b4
  replace hK := hK.after b4
  clear b4
  obtain ⟨A4, c4, rfl, _⟩ := h4.rd
  replace h4 := h4.mono (Nat.le_refl _) (Nat.le_refl _)
  go_wp2_with fail
  refine (HIm.out _ _ _ (h4.rd')).mono ?_
  rintro e w5 ⟨rfl, b5⟩
  have z5 : w4.heap.size ≤ w5.heap.size := size_after (Nat.le_refl _) b5
  replace hK := hK.after b5
  replace h4 := h4.below b5
  clear b5
  go_wp2_with fail
  refine (toInt64SS_c rowsA rowsc rowsn rows _ (hm_rows.keep hK.below) (by omega) tl_rows.out).mono ?_
  rintro e w6 ⟨v6, rfl, h6, b6⟩
  have z6 : w5.heap.size ≤ w6.heap.size := size_after (Nat.le_refl _) b6
  replace hK := hK.after b6
  replace h4 := h4.below b6
  clear b6
  obtain ⟨A6, c6, rfl, _⟩ := h6.rd
  replace h6 := h6.mono (Nat.le_refl _) (Nat.le_refl _)
  go_wp2_with fail
  refine (eqInt64SS_c _ _ _ _ rowsn rows _ (h4.rd') (h6.rd') (by omega) t9_rows.out).mono ?_
  rintro e w7 ⟨rfl, b7⟩
  have z7 : w6.heap.size ≤ w7.heap.size := size_after (Nat.le_refl _) b7
  replace hK := hK.after b7
  replace h4 := h4.below b7
  replace h6 := h6.below b7
  clear b7
  clear h6
  go_wp2_with fail
  go_ret
  exact ⟨rfl, hK.below⟩
end Go.Proofs.Ytolgfpcadfjliaa
