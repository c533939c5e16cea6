/-
  FirstGain of both sides. (Made by mkcsb.py.)
-/
import Derived.Test.YtbpapkpdlplfcaaCsA
namespace Go.Proofs.Ytbpapkpdlplfcaa
open Go.RowKit
set_option maxRecDepth 100000
attribute [local irreducible] wpList
/-- The first number of levels, from a on, of f numbers, that gains, and the code. -/
def fgF (r ad n b : Int) : Nat → Nat → Int × Int
  | 0, _ => (0, 4)
  | f + 1, a => match mxO (countsO r ad n a b) with
    | none => (0, 3)
    | some v => if v < (powI n a * b) * (powI n a * b) * (2 * (powI n a * b) - 1) then ((a : Int), 0) else fgF r ad n b f (a + 1)
theorem fgF_step (r ad n b : Int) {a : Nat} (h : a < 9) : fgF r ad n b (9 - a) a = match mxO (countsO r ad n a b) with
    | none => (0, 3)
    | some v => if v < (powI n a * b) * (powI n a * b) * (2 * (powI n a * b) - 1) then ((a : Int), 0) else fgF r ad n b (9 - (a + 1)) (a + 1) := by
  rw [show 9 - a = (9 - (a + 1)) + 1 by omega]
  rfl
theorem fg_none {r ad n b : Int} {a : Nat} (h : a < 9) (hg : fgF r ad n b (9 - a) a = fgF r ad n b 8 1) (ho : mxO (countsO r ad n a b) = none) : fgF r ad n b 8 1 = (0, 3) := by
  rw [← hg, fgF_step r ad n b h, ho]
theorem fg_yes {r ad n b v : Int} {a : Nat} (h : a < 9) (hg : fgF r ad n b (9 - a) a = fgF r ad n b 8 1) (ho : mxO (countsO r ad n a b) = some v) (hv : v < (powI n a * b) * (powI n a * b) * (2 * (powI n a * b) - 1)) : fgF r ad n b 8 1 = ((a : Int), 0) := by
  rw [← hg, fgF_step r ad n b h, ho]
  exact if_pos hv
theorem fg_next {r ad n b v : Int} {a : Nat} (h : a < 9) (hg : fgF r ad n b (9 - a) a = fgF r ad n b 8 1) (ho : mxO (countsO r ad n a b) = some v) (hv : ¬ v < (powI n a * b) * (powI n a * b) * (2 * (powI n a * b) - 1)) : fgF r ad n b (9 - (a + 1)) (a + 1) = fgF r ad n b 8 1 := by
  rw [← hg, fgF_step r ad n b h, ho]
  exact (if_neg hv).symm
theorem fg_end {r ad n b : Int} {a : Nat} (h : 9 ≤ a) (hg : fgF r ad n b (9 - a) a = fgF r ad n b 8 1) : fgF r ad n b 8 1 = (0, 4) := by
  rw [← hg, show 9 - a = 0 by omega]
  rfl
theorem fg_zero (r ad n : Int) {b : Int} : ∀ {f a : Nat}, (fgF r ad n b f a).2 = 3 → (fgF r ad n b f a).1 = 0 := by
  intro f
  induction f with
  | zero => intro a h; rfl
  | succ f ih =>
    intro a h
    unfold fgF at h ⊢
    cases ho : mxO (countsO r ad n a b) with
    | none => rfl
    | some v =>
      rw [ho] at h
      simp only at h ⊢
      split at h
      · simp at h
      · rename_i hv; rw [if_neg hv]; exact ih h
def FEnd (x : Int × Int) (e : Ending) : Prop := if x.2 = 3 then Fails e else e = .returned (.tuple #[.int .i64 x.1, .int .i64 x.2])
theorem fend_ok {x c : Int} (h : c ≠ 3) : FEnd (x, c) (.returned (.tuple #[.int .i64 x, .int .i64 c])) := by
  unfold FEnd
  rw [if_neg h]
theorem fend_no {x : Int} {e : Ending} (h : Fails e) : FEnd (x, 3) e := by
  unfold FEnd
  rw [if_pos rfl]
  exact h
theorem mxO_b {r add n b v : Int} {L : Nat} (hr : 0 ≤ r) (ha : 0 ≤ add) (hb : 1 ≤ b) (h : mxO (countsO r add n L b) = some v) : 0 ≤ v ∧ v ≤ 1000000000000000 := by
  cases ho : countsO r add n L b with
  | none => rw [ho] at h; cases h
  | some x =>
    obtain ⟨t, s⟩ := x
    have hv := countsO_b hr ha hb ho
    rw [ho] at h
    simp only [mxO] at h
    split at h
    · simp only [Option.some.injEq] at h
      omega
    · cases h
theorem fg_size {n b : Int} {a : Nat} (hn : 2 ≤ n ∧ n ≤ 3) (hb : 1 ≤ b ∧ b ≤ 1000) (_ : 1 ≤ a) (ha : a ≤ 8) : 1 ≤ powI n a * b ∧ powI n a * b ≤ 6561000 := by
  have h1 := powI_pos (show 1 ≤ n by omega) a
  have h2 := powI_up (show 1 ≤ n by omega) ha
  have h3 := powI_le (show 1 ≤ n by omega) hn.2 8
  have h4 : powI 3 8 = 6561 := by decide
  have h5 : 1 * 1 ≤ powI n a * b := Int.mul_le_mul h1 hb.1 (by omega) (by omega)
  have h6 : powI n a * b ≤ 6561 * 1000 := Int.mul_le_mul (by omega) hb.2 (by omega) (by omega)
  omega
theorem fg_start (n b : Int) : b * n = powI n 1 * b := by
  simp only [powI, Int.one_mul]
  exact Int.mul_comm _ _
theorem plain_eq (Z : Int) : 2 * Z * Z * Z - Z * Z = Z * Z * (2 * Z - 1) := by
  rw [Int.mul_sub, Int.mul_one, Int.mul_assoc 2 Z Z, Int.mul_assoc 2 (Z * Z) Z, Int.mul_left_comm]
theorem fg_big {Z v : Int} (hv : v ≤ 1000000000000000) (h : 80000 < Z) : v < Z * Z * (2 * Z - 1) := by
  have h1 : 80001 * 80001 ≤ Z * Z := Int.mul_le_mul (by omega) (by omega) (by omega) (by omega)
  have h2 : 80001 * 80001 * 160001 ≤ Z * Z * (2 * Z - 1) := Int.mul_le_mul h1 (by omega) (by omega) (by omega)
  omega
def fgCode (p n m k : Int) (qs : List (List Nat)) (b : Int) : Int := if sqCode p n m k qs (decide (1 ≤ b) && decide (b ≤ 1000)) = 0 then (fgF qs.length (coAdd qs) n b 8 1).2 else sqCode p n m k qs (decide (1 ≤ b) && decide (b ≤ 1000))
def fgR (p n m k : Int) (qs : List (List Nat)) (b : Int) : Int := if sqCode p n m k qs (decide (1 ≤ b) && decide (b ≤ 1000)) = 0 then (fgF qs.length (coAdd qs) n b 8 1).1 else 0
end Go.Proofs.Ytbpapkpdlplfcaa
