/-
  How many equations do not hold, and which is the first: plain functions, loop by loop.
-/
import Derived.Test.YtpoekhpchhmkaaaLeft3
namespace Go.Proofs.Ytpoekhpchhmkaaa
open Go.RowKit
/-- How many were wrong, and the first. -/
abbrev Wst := Nat × Option (Nat × Nat × Nat)
def stp (b : Bool) (s : Wst) (t : Nat × Nat × Nat) : Wst := if b then (s.1 + 1, if s.1 = 0 then some t else s.2) else s
def runC (W : Nat → Nat → Nat → Bool) (s : Wst) (a b : Nat) : Nat → Wst
  | 0 => s
  | c + 1 => stp (W a b c) (runC W s a b c) (a, b, c)
def runB (W : Nat → Nat → Nat → Bool) (N3 : Nat) (s : Wst) (a : Nat) : Nat → Wst
  | 0 => s
  | b + 1 => runC W (runB W N3 s a b) a b N3
def runA (W : Nat → Nat → Nat → Bool) (N2 N3 : Nat) : Nat → Wst
  | 0 => (0, none)
  | a + 1 => runB W N3 (runA W N2 N3 a) a N2
theorem stp_le (b : Bool) (s : Wst) (t : Nat × Nat × Nat) : (stp b s t).1 ≤ s.1 + 1 := by unfold stp; split <;> simp
theorem runC_le (W : Nat → Nat → Nat → Bool) (s : Wst) (a b c : Nat) : (runC W s a b c).1 ≤ s.1 + c := by
  induction c with
  | zero => simp [runC]
  | succ c ih => have := stp_le (W a b c) (runC W s a b c) (a, b, c); simp only [runC]; omega
theorem runB_le (W : Nat → Nat → Nat → Bool) (N3 : Nat) (s : Wst) (a b : Nat) : (runB W N3 s a b).1 ≤ s.1 + b * N3 := by
  induction b with
  | zero => simp [runB]
  | succ b ih => have := runC_le W (runB W N3 s a b) a b N3; simp only [runB]; rw [Nat.succ_mul]; omega
theorem runA_le (W : Nat → Nat → Nat → Bool) (N2 N3 a : Nat) : (runA W N2 N3 a).1 ≤ a * (N2 * N3) := by
  induction a with
  | zero => simp [runA]
  | succ a ih => have := runB_le W N3 (runA W N2 N3 a) a N2; simp only [runA]; rw [Nat.succ_mul]; omega
/-- The list of the first's places. -/
def fstL : Option (Nat × Nat × Nat) → List Value
  | none => []
  | some (a, b, c) => [.int .i64 a, .int .i64 b, .int .i64 c]
def WF (s : Wst) : Prop := s.1 = 0 ↔ s.2 = none
theorem WF.stp {s : Wst} (h : WF s) (b : Bool) (t : Nat × Nat × Nat) : WF (stp b s t) := by
  unfold Go.Proofs.Ytpoekhpchhmkaaa.stp
  split
  · unfold WF at *
    by_cases h0 : s.1 = 0
    · simp [h0]
    · simp [h0]; exact fun e => h0 (h.2 e)
  · exact h
theorem WF.runC {s : Wst} (h : WF s) (W : Nat → Nat → Nat → Bool) (a b c : Nat) : WF (runC W s a b c) := by
  induction c with
  | zero => exact h
  | succ c ih => exact ih.stp _ _
theorem WF.runB {s : Wst} (h : WF s) (W : Nat → Nat → Nat → Bool) (N3 a b : Nat) : WF (runB W N3 s a b) := by
  induction b with
  | zero => exact h
  | succ b ih => exact ih.runC _ _ _ _
theorem WF.runA (W : Nat → Nat → Nat → Bool) (N2 N3 a : Nat) : WF (runA W N2 N3 a) := by
  induction a with
  | zero => simp [Go.Proofs.Ytpoekhpchhmkaaa.runA, WF]
  | succ a ih => exact ih.runB _ _ _ _
theorem own_below {w w' : World} {base : Nat} {e : TypeId} {size n : Nat} {v : Value} {xs : List Value} (h : w.ownsRow base e size v n xs) (hb : Below w.heap.size w w') : w'.ownsRow base e size v n xs :=
  h.kept (row := none) ⟨hb.os, hb.tape, hb.output, hb.size, fun k hk _ => hb.block k hk⟩ (by
    rcases hv : v.ownBlock with _ | g
    · exact .inl rfl
    · exact .inr (by simp))
end Go.Proofs.Ytpoekhpchhmkaaa
