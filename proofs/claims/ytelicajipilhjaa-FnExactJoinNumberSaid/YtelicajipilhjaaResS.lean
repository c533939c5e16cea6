/-
  Calls that answer a scheme and a code; what the marks of a law leave.
-/
import Derived.Test.YtelicajipilhjaaMark
namespace Go.Proofs.Ytelicajipilhjaa
open Go.RowKit
set_option maxRecDepth 100000
/-- The call answers this scheme, its products in memory of its own, and this code. -/
def ResS (w : World) (p n m k : Int) (qs : List (List Nat)) (code : Int) (e : Ending) (w' : World) : Prop :=
  ∃ v, e = .returned (.tuple #[.agg #[.int .i64 p, .int .i64 n, .int .i64 m, .int .i64 k, v], .int .i64 code]) ∧ Own w' w.heap.size v qs ∧ Below w.heap.size w w'
theorem At.grown {w w' : World} {g : Nat} {o : Obj} {r : Option Nat} (h : At w g o) (hb : w.grownBy w' r) (hne : some g ≠ r) : At w' g o := (hb.block g h.lt hne).trans h
theorem below_grown {w0 w w' : World} {v : Value} {lo : Nat} {qs : List (List Nat)} (h : Below w0.heap.size w0 w) (hb : w.grownBy w' v.ownBlock) (ho : Own w lo v qs) (hl : w0.heap.size ≤ lo) : Below w0.heap.size w0 w' :=
  h.grown hb h.size (fun k hk => by have := (ho.lt hk).1; omega)
theorem Own.ne {w w' : World} {lo lo' : Nat} {v v' : Value} {qs qs' : List (List Nat)} (h : Own w lo v qs) (h' : Own w' lo' v' qs') (hl : w.heap.size ≤ lo') : v.ownBlock = none ∨ v.ownBlock ≠ v'.ownBlock := by
  rcases hv : v.ownBlock with _ | g
  · exact .inl rfl
  · refine .inr fun e => ?_
    have h1 := (h.lt hv).2
    have h2 := (h'.lt e.symm).1
    omega
theorem Own.away {w w' : World} {lo' g : Nat} {v' : Value} {qs' : List (List Nat)} {o : Obj} (h : At w g o) (h' : Own w' lo' v' qs') (hl : w.heap.size ≤ lo') : some g ≠ v'.ownBlock := fun e => by
  have h1 := h.lt
  have h2 := (h'.lt e.symm).1
  omega
theorem Own.away_new {w : World} {lo' : Nat} {v' : Value} {qs' : List (List Nat)} (h' : Own w lo' v' qs') : some w.heap.size ≠ v'.ownBlock := fun e => by
  have h2 := (h'.lt e.symm).2
  omega
theorem Held.below {w w' : World} {v : Value} {k n : Nat} (h : Held w v k n) (hb : Below w.heap.size w w') : Held w' v k n := fun g hg i hi => by
  have := h g hg i hi
  rw [hb.cell (p := ⟨g, i, none⟩) (block_lt_of_cell this)]
  exact this
theorem Rd.after {w w' : World} {A : Option Addr} {qs : List (List Nat)} (h : Rd w A qs) (hb : Below w.heap.size w w') : Rd w' A qs := h.keep hb
theorem Own.rd' {w : World} {lo : Nat} {A : Option Addr} {c n : Nat} {qs : List (List Nat)} (h : Own w lo (.slice A n c) qs) (hq : ∀ q ∈ qs, Bytes 27 q) : Rd w A qs := by
  obtain ⟨A', c', e, hr⟩ := h.rd hq
  simp only [Value.slice.injEq] at e
  rw [e.1]
  exact hr
theorem Own.len {w : World} {lo : Nat} {A : Option Addr} {c n : Nat} {qs : List (List Nat)} (h : Own w lo (.slice A n c) qs) : n = qs.length := by
  rcases h.2 with ⟨e, h0⟩ | ⟨g, cap, cur, e, _⟩
  · simp only [Value.slice.injEq] at e
    omega
  · simp only [Value.slice.injEq] at e
    exact e.2.1
theorem markScheme_1 (p n m k : Int) {lo : Nat} {v : Value} {qs : List (List Nat)} (w : World) (h : Own w lo v qs) (hn : qs.length ≤ 1048576) :
    Calls Try.prog 13 #[.agg #[.int .i64 p, .int .i64 n, .int .i64 m, .int .i64 k, v], .int .i64 1] w
      fun e w' => e = .returned (.int .i64 ((1 + qs.length * 27 : Nat) : Int)) ∧ w.grownBy w' v.ownBlock ∧ Held w' v 1 qs.length := markScheme_c p n m k 1 w h hn (by omega)
theorem heldScheme_1 (p n m k : Int) {v : Value} {N : Nat} (w : World) (h : Shp v N) (hh : Held w v 1 N) (hn : N ≤ 1048576) :
    Calls Try.prog 14 #[.agg #[.int .i64 p, .int .i64 n, .int .i64 m, .int .i64 k, v], .int .i64 1] w
      fun e w' => e = .returned (.int .i64 ((1 + N * 27 : Nat) : Int)) ∧ Below w.heap.size w w' := heldScheme_c p n m k 1 w h hh hn (by omega)
end Go.Proofs.Ytelicajipilhjaa
