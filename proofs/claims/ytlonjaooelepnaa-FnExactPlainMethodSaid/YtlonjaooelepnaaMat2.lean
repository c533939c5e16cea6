/-
  laws.szInt64S, szInt64SS, eqInt64SS, markInt64SS, heldInt64SS.
-/
import Derived.Test.YtlonjaooelepnaaMat1
namespace Go.Proofs.Ytlonjaooelepnaa
open Go.RowKit
set_option maxRecDepth 100000
def tot (row : Nat → List Int) : Nat → Nat
  | 0 => 0
  | k + 1 => tot row k + (row k).length
theorem tot_mono (row : Nat → List Int) {i j : Nat} (h : i ≤ j) : tot row i ≤ tot row j := by
  induction h with
  | refl => exact Nat.le_refl _
  | step _ ih => exact Nat.le_trans ih (by simp [tot])
set_option maxHeartbeats 400000 in
theorem szInt64S_c (A : Option Addr) (n c : Nat) (l : Int) (w : World) (h0 : 0 ≤ l) (hn : n ≤ 9223372036854775807) (hl : l ≤ 1048576) :
    Calls Try.prog 37 #[.slice A n c, .int .i64 l] w fun e w' => e = .returned (.int .i64 (if l < n then -1 else l - n)) ∧ w = w' := by
  by_cases h : l - n < 0
  · have h' : l < n := by omega
    go_enter Try.func37, Try.ntmps37
    go_wp2_with fail
    go_ret
    exact ⟨by simp, rfl⟩
  · have h' : ¬ l < n := by omega
    go_enter Try.func37, Try.ntmps37
    go_wp2_with fail
    go_ret
    exact ⟨by simp, rfl⟩
def SzM (n : Nat) (row : Nat → List Int) (l r : Int) : Prop := r = -1 ∨ (0 ≤ r ∧ r + n + tot row n = l)
def markRow (K : Nat) (row : Nat → List Int) (i : Nat) : List Int := (List.range (row i).length).map fun j => ((K + tot row i + j : Nat) : Int)
theorem markRow_len (K : Nat) (row : Nat → List Int) (i : Nat) : (markRow K row i).length = (row i).length := by simp [markRow]
theorem markCI_row (K : Nat) (row : Nat → List Int) (i : Nat) : markCI (iar (row i)) (K + tot row i) (row i).length = iar (markRow K row i) := by
  apply Array.ext'
  simp only [markCI, iar, i64s, markRow]
  rw [List.drop_of_length_le (by simp)]
  simp [List.map_map, markVI, Function.comp_def]
def stage (K : Nat) (row : Nat → List Int) (a x : Nat) : List Int := if x < a then markRow K row x else row x
theorem stage_at (K : Nat) (row : Nat → List Int) (a : Nat) : stage K row a a = row a := by simp [stage]
theorem stage_new (K : Nat) (row : Nat → List Int) (a : Nat) : stage K row (a + 1) a = markRow K row a := by simp [stage]
theorem stage_ne (K : Nat) (row : Nat → List Int) (a x : Nat) (h : x ≠ a) : stage K row (a + 1) x = stage K row a x := by
  unfold stage
  by_cases h1 : x < a
  · rw [if_pos h1, if_pos (by omega)]
  · rw [if_neg h1, if_neg (by omega)]
theorem MatB.congr {w : World} {lo hi g n : Nat} {cs : Array Value} {gs : Nat → Nat} {row row' : Nat → List Int} (h : MatB w lo hi g cs gs n row) (he : ∀ i, i < n → row' i = row i) : MatB w lo hi g cs gs n row' :=
  ⟨h.out, h.og, fun i hi => by rw [he i hi]; exact h.cell i hi, fun i hi => by rw [he i hi]; exact h.row i hi, h.inj⟩
end Go.Proofs.Ytlonjaooelepnaa
