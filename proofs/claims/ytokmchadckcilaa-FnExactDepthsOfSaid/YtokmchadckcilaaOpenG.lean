/-
  A laws.Program that came in, read as data: its numbers, its steps and its outputs.
-/
import Derived.Test.YtokmchadckcilaaOpenM
import Derived.Test.YtokmchadckcilaaPg0
namespace Go.Proofs.Ytokmchadckcilaa
open Go.RowKit Go.ChangeShapes Go.WideShapes
set_option maxRecDepth 100000
section
variable {H : Type} {enc : TypeId × Value → H} {w : World} {base : Nat} {spare : Nat → Bool} {held : Bool}
theorem cells_program : Try.prog.cellsOf 30 = 4 := by kernel_rfl
theorem cells_Step : Try.prog.cellsOf 79 = 3 := by kernel_rfl
theorem cells_slStep : Try.prog.cellsOf 27 = 1 := by kernel_rfl
theorem trod_Step {fuel : Nat} {cs : List Value} {x : DataW H × List MemPlace} (h : DataW.trod enc Try.prog w base spare held fuel 79 cs = some x) :
    ∃ q : List Int, q.length = 3 ∧ ∀ j, j < 3 → cs[j]? = some (.int .i64 (q[j]?.getD 0)) := by
  obtain ⟨xs, m, _, _, hlen, hxl, hi⟩ := DataW.trod_struct Try.underlying79 h
  rw [cells_Step] at hlen
  have hxS : xs.length = 3 := hxl
  have q0 : DataW.trod enc Try.prog w base spare held m 2 ((cs.drop 0).take (Try.prog.cellsOf 2)) = xs[0]? := hi 0 _ rfl
  have q1 : DataW.trod enc Try.prog w base spare held m 2 ((cs.drop 1).take (Try.prog.cellsOf 2)) = xs[1]? := hi 1 _ rfl
  have q2 : DataW.trod enc Try.prog w base spare held m 2 ((cs.drop 2).take (Try.prog.cellsOf 2)) = xs[2]? := hi 2 _ rfl
  rw [cells_int64] at q0 q1 q2
  rw [List.getElem?_eq_getElem (by omega)] at q0
  obtain ⟨l, e0, _, _⟩ := DataW.trod_int Try.underlying2 q0
  rw [List.drop_eq_getElem_cons (by omega)] at e0
  simp only [List.take_succ_cons, List.take_zero, List.cons.injEq, and_true] at e0
  rw [List.getElem?_eq_getElem (by omega)] at q1
  obtain ⟨r, e1, _, _⟩ := DataW.trod_int Try.underlying2 q1
  rw [List.drop_eq_getElem_cons (by omega)] at e1
  simp only [List.take_succ_cons, List.take_zero, List.cons.injEq, and_true] at e1
  rw [List.getElem?_eq_getElem (by omega)] at q2
  obtain ⟨f, e2, _, _⟩ := DataW.trod_int Try.underlying2 q2
  rw [List.drop_eq_getElem_cons (by omega)] at e2
  simp only [List.take_succ_cons, List.take_zero, List.cons.injEq, and_true] at e2
  refine ⟨[l, r, f], rfl, fun j hj => ?_⟩
  rw [List.getElem?_eq_getElem (by omega)]
  rcases (show j = 0 ∨ j = 1 ∨ j = 2 by omega) with rfl | rfl | rfl
  · rw [e0]; rfl
  · rw [e1]; rfl
  · rw [e2]; rfl
theorem open_Steps {fuel : Nat} {v : Value} {x : DataW H × List MemPlace} (h : DataW.trod enc Try.prog w base spare held fuel 27 [v] = some x) :
    ∃ (A : Option Addr) (c : Nat) (qs : List (List Int)), v = .slice A qs.length c ∧ RdK 3 w A qs ∧ qs.length ≤ 9223372036854775807 := by
  rcases Go.Deep.open_slice Try.underlying27 h with ⟨hv, _⟩ | ⟨a, len, cap, m, n, D, Pl, hv, hb, hl, hm, hmm, _, hi⟩
  · simp only [List.cons.injEq, and_true] at hv
    exact ⟨none, 0, [], by rw [hv]; rfl, RdK.none_ _ _ _, by simp⟩
  · simp only [List.cons.injEq, and_true] at hv
    rw [cells_Step] at hi
    have hlm : len ≤ m := by rw [hmm]; split <;> omega
    obtain ⟨F, hF⟩ := Go.Deep.choose_lt (α := List Int) (n := len) (p := fun i q => q.length = 3 ∧ ∀ j, j < 3 → w.cell? (a.add (i * 3 + j)) = some (.int .i64 (q[j]?.getD 0))) (fun i hlt => by
      obtain ⟨cs', hc, ht⟩ := hi i (by omega)
      obtain ⟨q, hq, hj⟩ := trod_Step ht
      obtain ⟨_, hcl, hat⟩ := World.cells?_some hc
      exact ⟨q, hq, fun j hlt => by rw [← Go.Deep.add_add, hat j hlt, hj j hlt]⟩)
    refine ⟨some a, cap, (List.range len).map F, by rw [hv]; simp, ⟨fun q hq => ?_, ?_⟩, by simp; unfold maxLen at hm; omega⟩
    · obtain ⟨i, hi', rfl⟩ := List.mem_map.1 hq
      exact (hF i (List.mem_range.1 hi')).1
    · rcases Nat.eq_zero_or_pos len with h0 | hpos
      · left; subst h0; rfl
      · right
        obtain ⟨b, off, spot⟩ := a
        have hc0 := (hF 0 hpos).2 0 (by omega)
        have hspot : spot = none := by simpa [Addr.add] using World.cell?_spot hc0
        subst hspot
        refine ⟨b, off, rfl, fun i q hq j hj => ?_⟩
        rw [List.getElem?_map] at hq
        have hlt : i < len := by
          by_cases hh : i < len
          · exact hh
          · simp [hh] at hq
        simp only [List.getElem?_range hlt, Option.map_some, Option.some.injEq] at hq
        subst hq
        have := (hF i hlt).2 j hj
        rw [add_none, ← Nat.add_assoc] at this
        exact this
theorem cells_Output : Try.prog.cellsOf 81 = 2 := by kernel_rfl
theorem cells_slOutput : Try.prog.cellsOf 28 = 1 := by kernel_rfl
theorem trod_Output {fuel : Nat} {cs : List Value} {x : DataW H × List MemPlace} (h : DataW.trod enc Try.prog w base spare held fuel 81 cs = some x) :
    ∃ q : List Int, q.length = 2 ∧ ∀ j, j < 2 → cs[j]? = some (.int .i64 (q[j]?.getD 0)) := by
  obtain ⟨xs, m, _, _, hlen, hxl, hi⟩ := DataW.trod_struct Try.underlying81 h
  rw [cells_Output] at hlen
  have hxS : xs.length = 2 := hxl
  have q0 : DataW.trod enc Try.prog w base spare held m 2 ((cs.drop 0).take (Try.prog.cellsOf 2)) = xs[0]? := hi 0 _ rfl
  have q1 : DataW.trod enc Try.prog w base spare held m 2 ((cs.drop 1).take (Try.prog.cellsOf 2)) = xs[1]? := hi 1 _ rfl
  rw [cells_int64] at q0 q1
  rw [List.getElem?_eq_getElem (by omega)] at q0
  obtain ⟨v, e0, _, _⟩ := DataW.trod_int Try.underlying2 q0
  rw [List.drop_eq_getElem_cons (by omega)] at e0
  simp only [List.take_succ_cons, List.take_zero, List.cons.injEq, and_true] at e0
  rw [List.getElem?_eq_getElem (by omega)] at q1
  obtain ⟨f, e1, _, _⟩ := DataW.trod_int Try.underlying2 q1
  rw [List.drop_eq_getElem_cons (by omega)] at e1
  simp only [List.take_succ_cons, List.take_zero, List.cons.injEq, and_true] at e1
  refine ⟨[v, f], rfl, fun j hj => ?_⟩
  rw [List.getElem?_eq_getElem (by omega)]
  rcases (show j = 0 ∨ j = 1 by omega) with rfl | rfl
  · rw [e0]; rfl
  · rw [e1]; rfl
theorem open_Outputs {fuel : Nat} {v : Value} {x : DataW H × List MemPlace} (h : DataW.trod enc Try.prog w base spare held fuel 28 [v] = some x) :
    ∃ (A : Option Addr) (c : Nat) (qs : List (List Int)), v = .slice A qs.length c ∧ RdK 2 w A qs ∧ qs.length ≤ 9223372036854775807 := by
  rcases Go.Deep.open_slice Try.underlying28 h with ⟨hv, _⟩ | ⟨a, len, cap, m, n, D, Pl, hv, hb, hl, hm, hmm, _, hi⟩
  · simp only [List.cons.injEq, and_true] at hv
    exact ⟨none, 0, [], by rw [hv]; rfl, RdK.none_ _ _ _, by simp⟩
  · simp only [List.cons.injEq, and_true] at hv
    rw [cells_Output] at hi
    have hlm : len ≤ m := by rw [hmm]; split <;> omega
    obtain ⟨F, hF⟩ := Go.Deep.choose_lt (α := List Int) (n := len) (p := fun i q => q.length = 2 ∧ ∀ j, j < 2 → w.cell? (a.add (i * 2 + j)) = some (.int .i64 (q[j]?.getD 0))) (fun i hlt => by
      obtain ⟨cs', hc, ht⟩ := hi i (by omega)
      obtain ⟨q, hq, hj⟩ := trod_Output ht
      obtain ⟨_, hcl, hat⟩ := World.cells?_some hc
      exact ⟨q, hq, fun j hlt => by rw [← Go.Deep.add_add, hat j hlt, hj j hlt]⟩)
    refine ⟨some a, cap, (List.range len).map F, by rw [hv]; simp, ⟨fun q hq => ?_, ?_⟩, by simp; unfold maxLen at hm; omega⟩
    · obtain ⟨i, hi', rfl⟩ := List.mem_map.1 hq
      exact (hF i (List.mem_range.1 hi')).1
    · rcases Nat.eq_zero_or_pos len with h0 | hpos
      · left; subst h0; rfl
      · right
        obtain ⟨b, off, spot⟩ := a
        have hc0 := (hF 0 hpos).2 0 (by omega)
        have hspot : spot = none := by simpa [Addr.add] using World.cell?_spot hc0
        subst hspot
        refine ⟨b, off, rfl, fun i q hq j hj => ?_⟩
        rw [List.getElem?_map] at hq
        have hlt : i < len := by
          by_cases hh : i < len
          · exact hh
          · simp [hh] at hq
        simp only [List.getElem?_range hlt, Option.map_some, Option.some.injEq] at hq
        subst hq
        have := (hF i hlt).2 j hj
        rw [add_none, ← Nat.add_assoc] at this
        exact this
theorem open_program {r : Reach} {b0 : Nat} {v : Value} {d : DataW H} {ps : List MemPlace} (hv : Value.okWide Try.prog w r b0 30 v) (h : DataW.Trod enc Try.prog w base spare held 30 v d ps) :
    ∃ (p n : Int) (As : Option Addr) (cs : Nat) (ss : List (List Int)) (Ao : Option Addr) (co : Nat) (os : List (List Int)), v = .agg #[.int .i64 p, .int .i64 n, .slice As ss.length cs, .slice Ao os.length co] ∧ RdK 3 w As ss ∧ ss.length ≤ 9223372036854775807 ∧ RdK 2 w Ao os ∧ os.length ≤ 9223372036854775807 := by
  obtain ⟨cs, rfl, hsz⟩ := okWide_struct Try.underlying30 hv
  rw [cells_program] at hsz
  obtain ⟨l⟩ := cs
  match l, hsz with
  | [c0, c1, c2, c3], _ =>
    obtain ⟨fuel, hf⟩ := h
    obtain ⟨xs, f, _, _, _, hxl, hi⟩ := DataW.trod_struct Try.underlying30 hf
    have hx4 : xs.length = 4 := hxl
    have q0 : DataW.trod enc Try.prog w base spare held f 2 ((([c0, c1, c2, c3] : List Value).drop 0).take (Try.prog.cellsOf 2)) = xs[0]? := hi 0 _ rfl
    have q1 : DataW.trod enc Try.prog w base spare held f 2 ((([c0, c1, c2, c3] : List Value).drop 1).take (Try.prog.cellsOf 2)) = xs[1]? := hi 1 _ rfl
    have q2 : DataW.trod enc Try.prog w base spare held f 27 ((([c0, c1, c2, c3] : List Value).drop 2).take (Try.prog.cellsOf 27)) = xs[2]? := hi 2 _ rfl
    have q3 : DataW.trod enc Try.prog w base spare held f 28 ((([c0, c1, c2, c3] : List Value).drop 3).take (Try.prog.cellsOf 28)) = xs[3]? := hi 3 _ rfl
    rw [cells_int64] at q0 q1
    rw [cells_slStep] at q2
    rw [cells_slOutput] at q3
    simp only [List.drop_succ_cons, List.drop_zero, List.take_succ_cons, List.take_zero] at q0 q1 q2 q3
    rw [List.getElem?_eq_getElem (by omega)] at q0 q1 q2 q3
    obtain ⟨p, e0, _, _⟩ := DataW.trod_int Try.underlying2 q0
    obtain ⟨n, e1, _, _⟩ := DataW.trod_int Try.underlying2 q1
    obtain ⟨As, cs, ss, e2, hr, hq⟩ := open_Steps q2
    obtain ⟨Ao, co, os, e3, hr3, hq3⟩ := open_Outputs q3
    simp only [List.cons.injEq, and_true] at e0 e1
    subst e0 e1 e2 e3
    exact ⟨p, n, As, cs, ss, Ao, co, os, rfl, hr, hq, hr3, hq3⟩
end
end Go.Proofs.Ytokmchadckcilaa
