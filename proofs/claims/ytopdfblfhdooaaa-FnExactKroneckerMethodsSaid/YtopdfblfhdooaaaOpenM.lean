/-
  A []int64 and a [][]int64 that came in, read as data.
-/
import Derived.Test.YtopdfblfhdooaaaOpen
import Derived.Test.YtopdfblfhdooaaaMat1
namespace Go.Proofs.Ytopdfblfhdooaaa
open Go.RowKit Go.ChangeShapes Go.WideShapes
set_option maxRecDepth 100000
section
variable {H : Type} {enc : TypeId × Value → H} {w : World} {base : Nat} {spare : Nat → Bool} {held : Bool}
theorem cells_is : Try.prog.cellsOf 71 = 1 := by kernel_rfl
theorem open_ints {fuel : Nat} {v : Value} {x : DataW H × List MemPlace} (h : DataW.trod enc Try.prog w base spare held fuel 71 [v] = some x) :
    ∃ (A : Option Addr) (c : Nat) (xs : List Int), v = .slice A xs.length c ∧ RdI w A xs ∧ xs.length ≤ 9223372036854775807 := by
  rcases Go.Deep.open_slice Try.underlying71 h with ⟨hv, _⟩ | ⟨a, len, cap, m, n, D, Pl, hv, hb, hl, hm, hmm, _, hi⟩
  · simp only [List.cons.injEq, and_true] at hv
    exact ⟨none, 0, [], by rw [hv]; rfl, .inl rfl, by simp⟩
  · simp only [List.cons.injEq, and_true] at hv
    rw [cells_int64] at hi
    have hlm : len ≤ m := by rw [hmm]; split <;> omega
    obtain ⟨F, hF⟩ := Go.Deep.choose_lt (α := Int) (n := len) (p := fun i x => w.cell? (a.add i) = some (.int .i64 x)) (fun i hlt => by
      obtain ⟨cs', hc, ht⟩ := hi i (by omega)
      obtain ⟨x, hx, _, _⟩ := DataW.trod_int Try.underlying2 ht
      obtain ⟨_, hcl, hat⟩ := World.cells?_some hc
      refine ⟨x, ?_⟩
      have h0 := hat 0 (by omega)
      rw [Go.Deep.add_add, Nat.mul_one, Nat.add_zero, hx] at h0
      exact h0)
    refine ⟨some a, cap, (List.range len).map F, by rw [hv]; simp, ?_, by simp; unfold maxLen at hm; omega⟩
    rcases Nat.eq_zero_or_pos len with h0 | hpos
    · left; subst h0; rfl
    · right
      obtain ⟨b, off, spot⟩ := a
      have hc0 := hF 0 hpos
      have hspot : spot = none := by simpa [Addr.add] using World.cell?_spot hc0
      subst hspot
      refine ⟨b, off, rfl, fun i x hx => ?_⟩
      rw [List.getElem?_map] at hx
      have hlt : i < len := by
        by_cases hh : i < len
        · exact hh
        · simp [hh] at hx
      simp only [List.getElem?_range hlt, Option.map_some, Option.some.injEq] at hx
      subst hx
      have := hF i hlt
      rw [add_none] at this
      exact this
theorem open_list {r : Reach} {b0 : Nat} {v : Value} {d : DataW H} {ps : List MemPlace} (hv : Value.okWide Try.prog w r b0 71 v) (h : DataW.Trod enc Try.prog w base spare held 71 v d ps) :
    ∃ (A : Option Addr) (c : Nat) (xs : List Int), v = .slice A xs.length c ∧ RdI w A xs ∧ xs.length ≤ 9223372036854775807 := by
  obtain ⟨a, len, cap, rfl⟩ := okWide_slice Try.underlying71 hv
  obtain ⟨fuel, hf⟩ := h
  exact open_ints (v := .slice a len cap) hf
end
end Go.Proofs.Ytopdfblfhdooaaa
