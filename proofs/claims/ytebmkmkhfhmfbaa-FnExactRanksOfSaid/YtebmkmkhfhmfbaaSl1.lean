/-
  impl.turnedTo, spec.l05Turned. (Made by mksl1.py.)
-/
import Derived.Test.YtebmkmkhfhmfbaaTen8
import Derived.Test.YtebmkmkhfhmfbaaTenT
import Derived.Test.YtebmkmkhfhmfbaaRowB
namespace Go.Proofs.Ytebmkmkhfhmfbaa
open Go.RowKit
set_option maxRecDepth 100000
theorem ten_parts {p : Int} {a b d : Nat} {xs : List Int} (h : tenB p a b d xs = true) : primeB p = true ∧ (1 ≤ a ∧ a ≤ 9) ∧ (1 ≤ b ∧ b ≤ 9) ∧ (1 ≤ d ∧ d ≤ 9) ∧ xs.length = a * b * d ∧ numsB p xs = true := by
  unfold tenB sideB at h
  simp only [Bool.and_eq_true, decide_eq_true_eq] at h
  obtain ⟨⟨⟨⟨⟨h1, h2⟩, h3⟩, h4⟩, h5⟩, h6⟩ := h
  refine ⟨h1, by omega, by omega, by omega, ?_, h6⟩
  rw [← Int.natCast_mul, ← Int.natCast_mul] at h5
  omega
/-- A tensor's list, read, in none of these two blocks. -/
def RdX (w : World) (x y : Nat) (A : Option Addr) (xs : List Int) : Prop := RdI w A xs ∧ ∃ b off, A = some ⟨b, off, none⟩ ∧ b ≠ x ∧ b ≠ y
theorem RdX.below {w w' : World} {x y : Nat} {A : Option Addr} {xs : List Int} (h : RdX w x y A xs) (hb : Below w.heap.size w w') : RdX w' x y A xs := ⟨h.1.keep hb, h.2⟩
theorem RdX.drew {w : World} {x y : Nat} {A : Option Addr} {xs : List Int} (h : RdX w x y A xs) : RdX w.drew x y A xs := h.below (Below.refl _ _).drew
theorem RdX.put {w w' : World} {x y g : Nat} {A : Option Addr} {xs : List Int} {o : Obj} (h : RdX w x y A xs) (hp : Put w w' g o) (hg : g = x ∨ g = y) : RdX w' x y A xs := by
  obtain ⟨h1, b, off, rfl, hx, hy⟩ := h
  refine ⟨?_, b, off, rfl, hx, hy⟩
  rcases h1 with h1 | ⟨b', off', e, hc⟩
  · exact .inl h1
  · simp only [Option.some.injEq, Addr.mk.injEq, and_true] at e
    obtain ⟨rfl, rfl⟩ := e
    refine .inr ⟨b, off, rfl, fun i v hi => ?_⟩
    have c1 := hc i v hi
    have hb := block_lt_of_cell c1
    have hA : At w b w.heap[b] := Array.getElem?_eq_getElem hb
    have hA' : At w' b w.heap[b] := hp.other hA (by rcases hg with rfl | rfl <;> assumption)
    rw [World.cell?_of_block (w := w) (a := ⟨b, off + i, none⟩) (Eq.trans hA' (Eq.symm hA))]
    exact c1
theorem RdX.of_own {w : World} {lo x y N : Nat} {v : Value} {xs : List Int} (h : OwnI w lo v xs) (hx : x < lo) (hy : y < lo) (hl : xs.length = N) (hN : 0 < N) : ∃ A c, v = .slice A N c ∧ N ≤ c ∧ RdX w x y A xs := by
  rcases h.2 with ⟨_, h0⟩ | ⟨g, cap, cur, e, hb, _, hle, _⟩
  · omega
  · obtain ⟨A, c, e2, hr⟩ := h.rd
    rw [hl] at e2
    have e3 := e2
    rw [e] at e3
    simp only [Value.slice.injEq] at e3
    rw [hl] at hle
    exact ⟨A, c, e2, by omega, hr, g, 0, e3.1.symm, by omega, by omega⟩
theorem RdX.of_rd {w : World} {x y b off : Nat} {xs : List Int} (h : RdI w (some ⟨b, off, none⟩) xs) (hx : b ≠ x) (hy : b ≠ y) : RdX w x y (some ⟨b, off, none⟩) xs := ⟨h, b, off, rfl, hx, hy⟩
/-- A tensor turned so often. -/
def trn (p : Int) : Nat → Nat × Nat × Nat × List Int → Nat × Nat × Nat × List Int
  | 0, q => q
  | k + 1, q => ((trn p k q).2.1, (trn p k q).2.2.1, (trn p k q).1, turnL p (trn p k q).1 (trn p k q).2.1 (trn p k q).2.2.1 (trn p k q).2.2.2)
theorem turnL_ten {p : Int} {a b d : Nat} {xs : List Int} (h : tenB p a b d xs = true) : tenB p b d a (turnL p a b d xs) = true := by
  have hp := prime_le5 (ten_parts h).1
  obtain ⟨h1, h2, h3, h4, h5, h6⟩ := ten_parts h
  unfold tenB sideB
  simp only [Bool.and_eq_true, decide_eq_true_eq]
  refine ⟨⟨⟨⟨⟨h1, by omega⟩, by omega⟩, by omega⟩, by rw [turnL_len]; simp⟩, ?_⟩
  unfold numsB turnL genL
  rw [List.all_eq_true]
  intro x hx
  obtain ⟨t, _, rfl⟩ := List.mem_map.1 hx
  have e1 : ∀ z : Int, 0 ≤ z % p ∧ z % p < p := fun z => ⟨Int.emod_nonneg _ (by omega), Int.emod_lt_of_pos _ (by omega)⟩
  simp only [inB, gen, Bool.and_eq_true, decide_eq_true_eq]
  exact ⟨decide_eq_true (e1 _).1, decide_eq_true (e1 _).2⟩
attribute [local irreducible] wpList
end Go.Proofs.Ytebmkmkhfhmfbaa
