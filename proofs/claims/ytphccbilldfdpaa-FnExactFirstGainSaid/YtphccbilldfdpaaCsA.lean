/-
  RepeatedCost and MixedCost of both sides. (Made by mkcsa.py.)
-/
import Derived.Test.YtphccbilldfdpaaCs9
namespace Go.Proofs.Ytphccbilldfdpaa
open Go.RowKit
set_option maxRecDepth 100000
attribute [local irreducible] wpList
def mxO : Option (Int × Int) → Option Int
  | some (t, s) => if t + s ≤ 1000000000000000 then some (t + s) else none
  | none => none
def mcCode (p n m k : Int) (qs : List (List Nat)) (l b : Int) : Int :=
  if sqCode p n m k qs ((decide (0 ≤ l) && decide (l ≤ 8)) && (decide (1 ≤ b) && decide (b ≤ 1000))) = 0 then (match mxO (countsO qs.length (coAdd qs) n l.toNat b) with | some _ => 0 | none => 3) else sqCode p n m k qs ((decide (0 ≤ l) && decide (l ≤ 8)) && (decide (1 ≤ b) && decide (b ≤ 1000)))
def mcR (p n m k : Int) (qs : List (List Nat)) (l b : Int) : Int :=
  if sqCode p n m k qs ((decide (0 ≤ l) && decide (l ≤ 8)) && (decide (1 ≤ b) && decide (b ≤ 1000))) = 0 then (match mxO (countsO qs.length (coAdd qs) n l.toNat b) with | some v => v | none => 0) else 0
def rcCode (p n m k : Int) (qs : List (List Nat)) (l : Int) : Int :=
  if sqCode p n m k qs (decide (0 ≤ l) && decide (l ≤ 8)) = 0 then (match countsO qs.length (coAdd qs) n l.toNat 1 with | some _ => 0 | none => 3) else sqCode p n m k qs (decide (0 ≤ l) && decide (l ≤ 8))
def rcR (p n m k : Int) (qs : List (List Nat)) (l : Int) : List Int :=
  if sqCode p n m k qs (decide (0 ≤ l) && decide (l ≤ 8)) = 0 then (match countsO qs.length (coAdd qs) n l.toNat 1 with | some (t, s) => [t, s] | none => []) else []
theorem mixedO_some (n r l1 l2 l3 : Int) (L : Nat) (b : Int) (hn : 2 ≤ n ∧ n ≤ 3) (hr : 0 ≤ r ∧ r ≤ 30) (h1 : 0 ≤ l1 ∧ l1 ≤ 1000) (h2 : 0 ≤ l2 ∧ l2 ≤ 1000) (h3 : 0 ≤ l3 ∧ l3 ≤ 1000) (hL : L ≤ 8) (hb : 1 ≤ b) (w : World) (v : Int) (h : mxO (countsO r (l1 + l2 + l3) n L b) = some v) : Calls Try.prog 43 #[.agg #[.int .i64 n, .int .i64 r, .int .i64 l1, .int .i64 l2, .int .i64 l3], .int .i64 (L : Int), .int .i64 b] w fun e w' => e = .returned (.int .i64 v) ∧ Below w.heap.size w w' := by
  cases ho : countsO r (l1 + l2 + l3) n L b with
  | none => rw [ho] at h; cases h
  | some x =>
    obtain ⟨t, s⟩ := x
    rw [ho] at h
    simp only [mxO] at h
    split at h
    · rename_i hm
      simp only [Option.some.injEq] at h
      subst h
      exact mixed_some n r l1 l2 l3 L b hn hr h1 h2 h3 hL hb w t s ho hm
    · cases h
theorem mixedO_none (n r l1 l2 l3 : Int) (L : Nat) (b : Int) (hn : 2 ≤ n ∧ n ≤ 3) (hr : 0 ≤ r ∧ r ≤ 30) (h1 : 0 ≤ l1 ∧ l1 ≤ 1000) (h2 : 0 ≤ l2 ∧ l2 ≤ 1000) (h3 : 0 ≤ l3 ∧ l3 ≤ 1000) (hL : L ≤ 8) (hb : 1 ≤ b) (w : World) (h : mxO (countsO r (l1 + l2 + l3) n L b) = none) : Calls Try.prog 43 #[.agg #[.int .i64 n, .int .i64 r, .int .i64 l1, .int .i64 l2, .int .i64 l3], .int .i64 (L : Int), .int .i64 b] w fun e w' => Fails e ∧ Below w.heap.size w w' := by
  cases ho : countsO r (l1 + l2 + l3) n L b with
  | none => exact mixed_none n r l1 l2 l3 L b hn hr h1 h2 h3 hL hb w ho
  | some x =>
    obtain ⟨t, s⟩ := x
    rw [ho] at h
    simp only [mxO] at h
    split at h
    · cases h
    · rename_i hm
      exact mixed_big n r l1 l2 l3 L b hn hr h1 h2 h3 hL hb w t s ho (by omega)
theorem lmixedO_some (p n m k : Int) (g c : Nat) (qs : List (List Nat)) (L : Nat) (b : Int) (w : World) (hR : Rd w (some ⟨g, 0, none⟩) qs) (hs : schemeB p n m k qs = true) (hn : 2 ≤ n ∧ n ≤ 3) (hL : L ≤ 8) (hb : 1 ≤ b ∧ b ≤ 100000) (v : Int) (h : mxO (countsO qs.length (coAdd qs) n L b) = some v) : Calls Try.prog 20 #[.agg #[.int .i64 p, .int .i64 n, .int .i64 m, .int .i64 k, .slice (some ⟨g, 0, none⟩) qs.length c], .int .i64 (L : Int), .int .i64 b] w fun e w' => e = .returned (.tuple #[.int .i64 v, .bool true]) ∧ Below w.heap.size w w' := by
  cases ho : countsO qs.length (coAdd qs) n L b with
  | none => rw [ho] at h; cases h
  | some x =>
    obtain ⟨t, s⟩ := x
    rw [ho] at h
    simp only [mxO] at h
    split at h
    · rename_i hm
      simp only [Option.some.injEq] at h
      subst h
      exact lmixed_some p n m k g c qs L b w hR hs hn hL hb t s ho hm
    · cases h
theorem lmixedO_none (p n m k : Int) (g c : Nat) (qs : List (List Nat)) (L : Nat) (b : Int) (w : World) (hR : Rd w (some ⟨g, 0, none⟩) qs) (hs : schemeB p n m k qs = true) (hn : 2 ≤ n ∧ n ≤ 3) (hL : L ≤ 8) (hb : 1 ≤ b ∧ b ≤ 100000) (h : mxO (countsO qs.length (coAdd qs) n L b) = none) : Calls Try.prog 20 #[.agg #[.int .i64 p, .int .i64 n, .int .i64 m, .int .i64 k, .slice (some ⟨g, 0, none⟩) qs.length c], .int .i64 (L : Int), .int .i64 b] w fun e w' => e = .returned (.tuple #[.int .i64 0, .bool false]) ∧ Below w.heap.size w w' := by
  cases ho : countsO qs.length (coAdd qs) n L b with
  | none => exact lmixed_none p n m k g c qs L b w hR hs hn hL hb ho
  | some x =>
    obtain ⟨t, s⟩ := x
    rw [ho] at h
    simp only [mxO] at h
    split at h
    · cases h
    · rename_i hm
      exact lmixed_big p n m k g c qs L b w hR hs hn hL hb t s ho (by omega)
end Go.Proofs.Ytphccbilldfdpaa
