/-
  A []int64 and a [][]int64 that came in, read as data.
-/
import Derived.Test.YtolgfpcadfjliaaOpen
import Derived.Test.YtolgfpcadfjliaaMat1
namespace Go.Proofs.Ytolgfpcadfjliaa
open Go.RowKit Go.ChangeShapes Go.WideShapes
set_option maxRecDepth 100000
section
variable {H : Type} {enc : TypeId × Value → H} {w : World} {base : Nat} {spare : Nat → Bool} {held : Bool}
theorem cells_is : Try.prog.cellsOf 22 = 1 := by kernel_rfl
theorem open_ints {fuel : Nat} {v : Value} {x : DataW H × List MemPlace} (h : DataW.trod enc Try.prog w base spare held fuel 22 [v] = some x) :
    ∃ (A : Option Addr) (c : Nat) (xs : List Int), v = .slice A xs.length c ∧ RdI w A xs ∧ xs.length ≤ 9223372036854775807 := by
  rcases Go.Deep.open_slice Try.underlying22 h with ⟨hv, _⟩ | ⟨a, len, cap, m, n, D, Pl, hv, hb, hl, hm, hmm, _, hi⟩
  · simp only [List.cons.injEq, and_true] at hv
    exact ⟨none, 0, [], by rw [hv]; rfl, .inl rfl, by simp⟩
  · simp only [List.cons.injEq, and_true] at hv
    rw [cells_int64] at hi
    have hlm : len ≤ m := by rw [hmm]; split <;> omega
    obtain ⟨F, hF⟩ := Go.Deep.choose_lt (α := Int) (n := len) (p := fun i x => w.cell? (a.add i) = some (.int .i64 x)) (fun i hlt => by
      obtain ⟨cs', hc, ht⟩ := hi i (by omega)
      obtain ⟨x, hx, _, _⟩ := DataW.trod_int Try.underlying2 ht
      obtain ⟨_, hcl, hat⟩ := World.cells?_some hc
      refine ⟨x, ?_⟩
      have h0 := hat 0 (by omega)
      rw [Go.Deep.add_add, Nat.mul_one, Nat.add_zero, hx] at h0
      exact h0)
    refine ⟨some a, cap, (List.range len).map F, by rw [hv]; simp, ?_, by simp; unfold maxLen at hm; omega⟩
    rcases Nat.eq_zero_or_pos len with h0 | hpos
    · left; subst h0; rfl
    · right
      obtain ⟨b, off, spot⟩ := a
      have hc0 := hF 0 hpos
      have hspot : spot = none := by simpa [Addr.add] using World.cell?_spot hc0
      subst hspot
      refine ⟨b, off, rfl, fun i x hx => ?_⟩
      rw [List.getElem?_map] at hx
      have hlt : i < len := by
        by_cases hh : i < len
        · exact hh
        · simp [hh] at hx
      simp only [List.getElem?_range hlt, Option.map_some, Option.some.injEq] at hx
      subst hx
      have := hF i hlt
      rw [add_none] at this
      exact this
theorem open_intss {fuel : Nat} {v : Value} {x : DataW H × List MemPlace} (h : DataW.trod enc Try.prog w base spare held fuel 26 [v] = some x) :
    ∃ (A : Option Addr) (c n : Nat) (row : Nat → List Int), v = .slice A n c ∧ RdM w A n row ∧ n ≤ 9223372036854775807 ∧ ∀ i, i < n → (row i).length ≤ 9223372036854775807 := by
  rcases Go.Deep.open_slice Try.underlying26 h with ⟨hv, _⟩ | ⟨a, len, cap, m, n, D, Pl, hv, hb, hl, hm, hmm, _, hi⟩
  · simp only [List.cons.injEq, and_true] at hv
    exact ⟨none, 0, 0, fun _ => [], by rw [hv], .inl rfl, by simp, by simp⟩
  · simp only [List.cons.injEq, and_true] at hv
    rw [cells_is] at hi
    have hlm : len ≤ m := by rw [hmm]; split <;> omega
    obtain ⟨F, hF⟩ := Go.Deep.choose_lt (α := Option Addr × Nat × List Int) (n := len) (p := fun i x => w.cell? (a.add i) = some (.slice x.1 x.2.2.length x.2.1) ∧ RdI w x.1 x.2.2 ∧ x.2.2.length ≤ 9223372036854775807) (fun i hlt => by
      obtain ⟨cs', hc, ht⟩ := hi i (by omega)
      obtain ⟨_, hcl, hat⟩ := World.cells?_some hc
      match cs', hcl with
      | [c0], _ =>
        obtain ⟨B, cB, xs, hx, hI, hb⟩ := open_ints ht
        refine ⟨(B, cB, xs), ?_, hI, hb⟩
        have h0 := hat 0 (by omega)
        rw [Go.Deep.add_add, Nat.mul_one, Nat.add_zero] at h0
        rw [h0, hx]
        rfl)
    refine ⟨some a, cap, len, fun i => (F i).2.2, by rw [hv], ?_, by unfold maxLen at hm; omega, fun i hi => (hF i hi).2.2⟩
    rcases Nat.eq_zero_or_pos len with h0 | hpos
    · exact .inl h0
    · right
      obtain ⟨b, off, spot⟩ := a
      have hc0 := (hF 0 hpos).1
      have hspot : spot = none := by simpa [Addr.add] using World.cell?_spot hc0
      subst hspot
      refine ⟨b, off, rfl, fun i hi => ⟨(F i).1, (F i).2.1, ?_, (hF i hi).2.1⟩⟩
      have := (hF i hi).1
      rw [add_none] at this
      exact this
theorem open_list {r : Reach} {b0 : Nat} {v : Value} {d : DataW H} {ps : List MemPlace} (hv : Value.okWide Try.prog w r b0 22 v) (h : DataW.Trod enc Try.prog w base spare held 22 v d ps) :
    ∃ (A : Option Addr) (c : Nat) (xs : List Int), v = .slice A xs.length c ∧ RdI w A xs ∧ xs.length ≤ 9223372036854775807 := by
  obtain ⟨a, len, cap, rfl⟩ := okWide_slice Try.underlying22 hv
  obtain ⟨fuel, hf⟩ := h
  exact open_ints (v := .slice a len cap) hf
theorem open_rows {r : Reach} {b0 : Nat} {v : Value} {d : DataW H} {ps : List MemPlace} (hv : Value.okWide Try.prog w r b0 26 v) (h : DataW.Trod enc Try.prog w base spare held 26 v d ps) :
    ∃ (A : Option Addr) (c n : Nat) (row : Nat → List Int), v = .slice A n c ∧ RdM w A n row ∧ n ≤ 9223372036854775807 ∧ ∀ i, i < n → (row i).length ≤ 9223372036854775807 := by
  obtain ⟨a, len, cap, rfl⟩ := okWide_slice Try.underlying26 hv
  obtain ⟨fuel, hf⟩ := h
  exact open_intss (v := .slice a len cap) hf
end
end Go.Proofs.Ytolgfpcadfjliaa
