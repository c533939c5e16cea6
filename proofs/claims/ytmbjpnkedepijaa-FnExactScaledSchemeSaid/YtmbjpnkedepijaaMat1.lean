/-
  Matrices: slices of slices of int64: read, owned; laws.toInt64S, toInt64SS, szInt64S, szInt64SS, eqInt64SS.
  laws.szInt64S, szInt64SS, eqInt64SS, markInt64SS, heldInt64SS.
  For the laws' walks: matrices.
-/
import Derived.Test.YtmbjpnkedepijaaLKI
namespace Go.Proofs.Ytmbjpnkedepijaa
open Go.RowKit
set_option maxRecDepth 100000
def iar (xs : List Int) : Array Value := (i64s xs).toArray
theorem iar_size (xs : List Int) : (iar xs).size = xs.length := by simp [iar, i64s]
theorem iar_get {xs : List Int} {i : Nat} (h : i < xs.length) : (iar xs)[i]? = some (.int .i64 xs[i]) := by simp [iar, i64s, h]
theorem iar_set (xs : List Int) (i : Nat) (x : Int) : (iar xs).setIfInBounds i (.int .i64 x) = iar (xs.set i x) := by
  apply Array.ext'
  simp [iar, i64s, List.map_set]
theorem iar_zero (n : Nat) : Array.replicate n (Value.int .i64 0) = iar (List.replicate n 0) := by
  apply Array.ext'
  simp [iar, i64s]
theorem made_one (z : Value) (n : Nat) : madeCells #[z] (n * 1) = Array.replicate n z := by
  apply Array.ext
  · simp [size_madeCells]
  · intro i h1 h2
    simp [madeCells, Nat.mod_one]
section
variable {P : Program} {ops : Array Oper} {rest : List Oper} {o : Oper} {a : Act} {w : World} {Q : Exit → Act → World → Prop}
theorem wpList_make_one (hg : o.guard = none) (l c : Operand) (t : TypeId) (hop : o.op = Op.makeSlice t l c) (e : TypeId) (z : Value) (b : Nat)
    (ht : P.underlying t = some (.slice e)) (hi : (P.info? e).map (fun i => (i.zero, i.size, i.bytes)) = some (some z, 1, b)) (hzc : z.cells = #[z])
    (n : Nat) (hl : a.eval l = .int .i64 n) (hc : a.eval c = .int .i64 n) (hb : b * n ≤ 281474976710656) (h63 : n ≤ 9223372036854775807)
    (h : ∀ w', New w w' (.cells (Array.replicate n z) e (0, 0)) → wpList P ops Q rest (a.put o.dst (.slice (some ⟨w.heap.size, 0, none⟩) n n)) w') : wpList P ops Q (o :: rest) a w := by
  obtain ⟨i, hi0, hz, h1, h2⟩ := info_parts hi
  refine wpList_plain hg fun K hK => ?_
  have hr := run_make (P := P) w t e i _ ht hi0 hz .i64 .i64 n n (by omega) (Int.le_refl _) (by rw [h2]; omega) (by omega)
  simp only [Int.toNat_natCast, h1, hzc, made_one] at hr
  unfold Oper.wp
  simp [execOp, hop, hl, hc, hr, Result.andThen]
  exact hK _ _ (h _ (New.alloc _ _))
end
theorem infoI64 : (Try.prog.info? 2).map (fun i => (i.zero, i.size, i.bytes)) = some (some (.int .i64 0), 1, 8) := by kernel_rfl
theorem fillI_step {xs : List Int} {k : Nat} (hk : k < xs.length) : (xs.take k ++ List.replicate (xs.length - k) 0).set k xs[k] = xs.take (k + 1) ++ List.replicate (xs.length - (k + 1)) 0 := by
  have hl : (xs.take k).length = k := by simp; omega
  rw [List.set_append_right _ _ (by omega), hl, Nat.sub_self, show xs.length - k = (xs.length - (k + 1)) + 1 by omega, List.replicate_succ, List.set_cons_zero, List.take_succ_eq_append_getElem hk, List.append_assoc]
  rfl
theorem fillI_end (xs : List Int) : xs.take xs.length ++ List.replicate (xs.length - xs.length) 0 = xs := by simp
theorem iar_old {w : World} {g k : Nat} {xs : List Int} (h : At w g (.cells (iar xs) 2 (0, 0))) (hk : k < xs.length) : w.cell? ⟨g, k, none⟩ = some ((iar xs)[k]?.getD undef) := by
  rw [h.at_ k, iar_get hk]
  rfl
theorem cells_old {w : World} {g k : Nat} {cs : Array Value} {t : TypeId} (h : At w g (.cells cs t (0, 0))) (hk : k < cs.size) : w.cell? ⟨g, k, none⟩ = some (cs[k]?.getD undef) := by
  rw [h.at_ k, Array.getElem?_eq_getElem hk]
  rfl
def NewI (w : World) (xs : List Int) (e : Ending) (w' : World) : Prop :=
  ∃ g : Nat, e = .returned (.slice (some ⟨g, 0, none⟩) xs.length xs.length) ∧ w.heap.size ≤ g ∧ At w' g (.cells (iar xs) 2 (0, 0)) ∧ Below w.heap.size w w'
/-! ### Matrices -/
def RdM (w : World) (A : Option Addr) (n : Nat) (row : Nat → List Int) : Prop :=
  n = 0 ∨ ∃ b off, A = some ⟨b, off, none⟩ ∧ ∀ i, i < n → ∃ B c, w.cell? ⟨b, off + i, none⟩ = some (.slice B (row i).length c) ∧ RdI w B (row i)
theorem RdM.at_ {w : World} {A : Option Addr} {n : Nat} {row : Nat → List Int} (h : RdM w A n row) {i : Nat} (hi : i < n) : ∃ b off B c, A = some ⟨b, off, none⟩ ∧ w.cell? ⟨b, off + i, none⟩ = some (.slice B (row i).length c) ∧ RdI w B (row i) := by
  rcases h with rfl | ⟨b, off, hA, hc⟩
  · omega
  · obtain ⟨B, c, h1, h2⟩ := hc i hi
    exact ⟨b, off, B, c, hA, h1, h2⟩
theorem RdM.keep {w w' : World} {A : Option Addr} {n : Nat} {row : Nat → List Int} (h : RdM w A n row) (hb : Below w.heap.size w w') : RdM w' A n row := by
  rcases h with h0 | ⟨b, off, hA, hc⟩
  · exact .inl h0
  · refine .inr ⟨b, off, hA, fun i hi => ?_⟩
    obtain ⟨B, c, h1, h2⟩ := hc i hi
    exact ⟨B, c, by rw [hb.cell (p := ⟨b, off + i, none⟩) (block_lt_of_cell h1)]; exact h1, h2.keep hb⟩
section
variable {w w' w'' w0 : World} {lo hi lo' hi' g k b n : Nat} {cs : Array Value} {gs : Nat → Nat} {row row' : Nat → List Int} {v : Value}
theorem RdI.of_iar {g : Nat} {xs : List Int} (h : At w g (.cells (iar xs) 2 (0, 0))) : RdI w (some ⟨g, 0, none⟩) xs := by
  refine .inr ⟨g, 0, rfl, fun i x hi => ?_⟩
  obtain ⟨hlt, rfl⟩ := List.getElem?_eq_some_iff.1 hi
  rw [h.at_, Nat.zero_add, iar_get hlt]
end
end Go.Proofs.Ytmbjpnkedepijaa
namespace Go.Proofs.Ytmbjpnkedepijaa
open Go.RowKit
set_option maxRecDepth 100000
def tot (row : Nat → List Int) : Nat → Nat
  | 0 => 0
  | k + 1 => tot row k + (row k).length
theorem tot_mono (row : Nat → List Int) {i j : Nat} (h : i ≤ j) : tot row i ≤ tot row j := by
  induction h with
  | refl => exact Nat.le_refl _
  | step _ ih => exact Nat.le_trans ih (by simp [tot])
def SzM (n : Nat) (row : Nat → List Int) (l r : Int) : Prop := r = -1 ∨ (0 ≤ r ∧ r + n + tot row n = l)
def markRow (K : Nat) (row : Nat → List Int) (i : Nat) : List Int := (List.range (row i).length).map fun j => ((K + tot row i + j : Nat) : Int)
theorem markRow_len (K : Nat) (row : Nat → List Int) (i : Nat) : (markRow K row i).length = (row i).length := by simp [markRow]
theorem markCI_row (K : Nat) (row : Nat → List Int) (i : Nat) : markCI (iar (row i)) (K + tot row i) (row i).length = iar (markRow K row i) := by
  apply Array.ext'
  simp only [markCI, iar, i64s, markRow]
  rw [List.drop_of_length_le (by simp)]
  simp [List.map_map, markVI, Function.comp_def]
def stage (K : Nat) (row : Nat → List Int) (a x : Nat) : List Int := if x < a then markRow K row x else row x
theorem stage_at (K : Nat) (row : Nat → List Int) (a : Nat) : stage K row a a = row a := by simp [stage]
theorem stage_new (K : Nat) (row : Nat → List Int) (a : Nat) : stage K row (a + 1) a = markRow K row a := by simp [stage]
theorem stage_ne (K : Nat) (row : Nat → List Int) (a x : Nat) (h : x ≠ a) : stage K row (a + 1) x = stage K row a x := by
  unfold stage
  by_cases h1 : x < a
  · rw [if_pos h1, if_pos (by omega)]
  · rw [if_neg h1, if_neg (by omega)]
end Go.Proofs.Ytmbjpnkedepijaa
namespace Go.Proofs.Ytmbjpnkedepijaa
open Go.RowKit
set_option maxRecDepth 100000
theorem tot_ge (row : Nat → List Int) {i n : Nat} (h : i < n) : (row i).length ≤ tot row n := by
  have := tot_mono row (show i + 1 ≤ n by omega)
  simp only [tot] at this
  omega
theorem tot_le {row : Nat → List Int} {n K : Nat} (h : ∀ i, i < n → (row i).length ≤ K) : tot row n ≤ n * K := by
  induction n with
  | zero => simp [tot]
  | succ n ih =>
    have h1 := ih (fun i hi => h i (by omega))
    have h2 := h n (by omega)
    simp only [tot, Nat.succ_mul]
    omega
theorem OwnI.of_at {w : World} {lo g : Nat} {xs : List Int} (h : At w g (.cells (iar xs) 2 (0, 0))) (hl : lo ≤ g) (hn : xs.length ≤ 1048576) : OwnI w lo (.slice (some ⟨g, 0, none⟩) xs.length xs.length) xs := by
  refine ⟨by rw [i64s_len]; simp, .inr ⟨g, xs.length, iar xs, rfl, hl, h, Nat.le_refl _, by unfold maxLen; omega, by rw [iar_size]; simp, ?_⟩⟩
  rw [List.take_of_length_le (by simp [iar, i64s])]
  simp [iar]
end Go.Proofs.Ytmbjpnkedepijaa
