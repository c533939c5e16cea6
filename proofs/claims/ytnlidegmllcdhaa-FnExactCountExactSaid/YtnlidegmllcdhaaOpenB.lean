/-
  A laws.Border that came in, read as data: its numbers, and its twigs as lists of bytes. (Made by mktw.py.)
-/
import Derived.Test.YtnlidegmllcdhaaOpen
import Derived.Test.YtnlidegmllcdhaaTw0
namespace Go.Proofs.Ytnlidegmllcdhaa
open Go.RowKit Go.ChangeShapes Go.WideShapes
set_option maxRecDepth 100000
section
variable {H : Type} {enc : TypeId × Value → H} {w : World} {base : Nat} {spare : Nat → Bool} {held : Bool}
theorem cells_a4 : Try.prog.cellsOf 48 = 4 := by kernel_rfl
theorem cells_series : Try.prog.cellsOf 49 = 36 := by kernel_rfl
theorem trod_a4 {fuel : Nat} {cs : List Value} {x : DataW H × List MemPlace} (h : DataW.trod enc Try.prog w base spare held fuel 48 cs = some x) :
    cs.length = 4 ∧ ∀ i, i < 4 → ∃ n : Int, cs[i]? = some (.int .u8 n) ∧ 0 ≤ n ∧ n ≤ 255 := by
  obtain ⟨xs, m, _, _, hlen, hxl, hi⟩ := DataW.trod_array Try.underlying48 h
  rw [cells_a4] at hlen
  refine ⟨hlen, fun i hlt => ?_⟩
  have h1 := hi i hlt
  rw [cells_u8, Nat.mul_one, List.getElem?_eq_getElem (by omega)] at h1
  obtain ⟨n, hn, _, hw⟩ := DataW.trod_int Try.underlying5 h1
  have hb := bounds_u8 hw
  refine ⟨n, ?_, hb.1, hb.2⟩
  rw [List.drop_eq_getElem_cons (by omega)] at hn
  simp only [List.take_succ_cons, List.take_zero, List.cons.injEq, and_true] at hn
  rw [List.getElem?_eq_getElem (by omega), hn]
theorem trod_series {fuel : Nat} {cs : List Value} {x : DataW H × List MemPlace} (h : DataW.trod enc Try.prog w base spare held fuel 49 cs = some x) :
    cs.length = 36 ∧ ∀ i, i < 36 → ∃ n : Int, cs[i]? = some (.int .u8 n) ∧ 0 ≤ n ∧ n ≤ 255 := by
  obtain ⟨xs, m, _, _, hlen, hxl, hi⟩ := DataW.trod_array Try.underlying49 h
  rw [cells_series] at hlen
  refine ⟨hlen, fun i hlt => ?_⟩
  have h1 := hi (i / 4) (by omega)
  rw [cells_a4, List.getElem?_eq_getElem (by omega)] at h1
  obtain ⟨_, h2⟩ := trod_a4 h1
  obtain ⟨n, hn, hb⟩ := h2 (i % 4) (by omega)
  rw [List.getElem?_take, if_pos (by omega), List.getElem?_drop, show i / 4 * 4 + i % 4 = i by omega] at hn
  exact ⟨n, hn, hb⟩
theorem cells_twig : Try.prog.cellsOf 84 = 108 := by kernel_rfl
theorem cells_border : Try.prog.cellsOf 24 = 5 := by kernel_rfl
theorem cells_twigs : Try.prog.cellsOf 22 = 1 := by kernel_rfl
theorem trod_twig {fuel : Nat} {cs : List Value} {x : DataW H × List MemPlace} (h : DataW.trod enc Try.prog w base spare held fuel 84 cs = some x) :
    ∃ q, Bytes 108 q ∧ ∀ j, j < 108 → cs[j]? = some (.int .u8 ((q[j]?.getD 0 : Nat) : Int)) := by
  obtain ⟨xs, m, _, _, hlen, hxl, hi⟩ := DataW.trod_struct Try.underlying84 h
  rw [cells_twig] at hlen
  have hx3 : xs.length = 3 := hxl
  have part : ∀ (i off : Nat), i < 3 → off + 36 ≤ 108 → DataW.trod enc Try.prog w base spare held m 49 ((cs.drop off).take 36) = xs[i]? → ∀ j, j < 36 → ∃ n : Int, cs[off + j]? = some (.int .u8 n) ∧ 0 ≤ n ∧ n ≤ 255 := by
    intro i off h3 hoff ht j hj
    rw [List.getElem?_eq_getElem (by omega)] at ht
    obtain ⟨_, hf⟩ := trod_series ht
    obtain ⟨n, hn, hb⟩ := hf j hj
    rw [List.getElem?_take, if_pos hj, List.getElem?_drop] at hn
    exact ⟨n, hn, hb⟩
  have p0 : DataW.trod enc Try.prog w base spare held m 49 ((cs.drop 0).take (Try.prog.cellsOf 49)) = xs[0]? := hi 0 _ rfl
  have p1 : DataW.trod enc Try.prog w base spare held m 49 ((cs.drop 36).take (Try.prog.cellsOf 49)) = xs[1]? := hi 1 _ rfl
  have p2 : DataW.trod enc Try.prog w base spare held m 49 ((cs.drop 72).take (Try.prog.cellsOf 49)) = xs[2]? := hi 2 _ rfl
  rw [cells_series] at p0 p1 p2
  refine bytes_of cs 108 fun i hlt => ?_
  by_cases h9 : i < 36
  · have := part 0 0 (by omega) (by omega) p0 i h9
    rwa [Nat.zero_add] at this
  · by_cases h18 : i < 72
    · have := part 1 36 (by omega) (by omega) p1 (i - 36) (by omega)
      rwa [show 36 + (i - 36) = i by omega] at this
    · have := part 2 72 (by omega) (by omega) p2 (i - 72) (by omega)
      rwa [show 72 + (i - 72) = i by omega] at this
theorem open_twigs {fuel : Nat} {v : Value} {x : DataW H × List MemPlace} (h : DataW.trod enc Try.prog w base spare held fuel 22 [v] = some x) :
    ∃ (A : Option Addr) (c : Nat) (qs : List (List Nat)), v = .slice A qs.length c ∧ RdT w A qs ∧ qs.length ≤ 9223372036854775807 := by
  rcases Go.Deep.open_slice Try.underlying22 h with ⟨hv, _⟩ | ⟨a, len, cap, m, n, D, Pl, hv, hb, hl, hm, hmm, _, hi⟩
  · simp only [List.cons.injEq, and_true] at hv
    exact ⟨none, 0, [], by rw [hv]; rfl, RdT.none_ _ _, by simp⟩
  · simp only [List.cons.injEq, and_true] at hv
    rw [cells_twig] at hi
    have hlm : len ≤ m := by rw [hmm]; split <;> omega
    obtain ⟨F, hF⟩ := Go.Deep.choose_lt (α := List Nat) (n := len) (p := fun i q => Bytes 108 q ∧ ∀ j, j < 108 → w.cell? (a.add (i * 108 + j)) = some (.int .u8 ((q[j]?.getD 0 : Nat) : Int))) (fun i hlt => by
      obtain ⟨cs', hc, ht⟩ := hi i (by omega)
      obtain ⟨q, hq, hj⟩ := trod_twig ht
      obtain ⟨_, hcl, hat⟩ := World.cells?_some hc
      exact ⟨q, hq, fun j hlt => by rw [← Go.Deep.add_add, hat j hlt, hj j hlt]⟩)
    refine ⟨some a, cap, (List.range len).map F, by rw [hv]; simp, ⟨fun q hq => ?_, ?_⟩, by simp; unfold maxLen at hm; omega⟩
    · obtain ⟨i, hi', rfl⟩ := List.mem_map.1 hq
      exact (hF i (List.mem_range.1 hi')).1
    · rcases Nat.eq_zero_or_pos len with h0 | hpos
      · left; subst h0; rfl
      · right
        obtain ⟨b, off, spot⟩ := a
        have hc0 := (hF 0 hpos).2 0 (by omega)
        have hspot : spot = none := by simpa [Addr.add] using World.cell?_spot hc0
        subst hspot
        refine ⟨b, off, rfl, fun i q hq j hj => ?_⟩
        rw [List.getElem?_map] at hq
        have hlt : i < len := by
          by_cases hh : i < len
          · exact hh
          · simp [hh] at hq
        simp only [List.getElem?_range hlt, Option.map_some, Option.some.injEq] at hq
        subst hq
        have := (hF i hlt).2 j hj
        rw [add_none, ← Nat.add_assoc] at this
        exact this
theorem open_border {r : Reach} {b0 : Nat} {v : Value} {d : DataW H} {ps : List MemPlace} (hv : Value.okWide Try.prog w r b0 24 v) (h : DataW.Trod enc Try.prog w base spare held 24 v d ps) :
    ∃ (p n m k : Int) (A : Option Addr) (c : Nat) (qs : List (List Nat)), v = .agg #[.int .i64 p, .int .i64 n, .int .i64 m, .int .i64 k, .slice A qs.length c] ∧ RdT w A qs ∧ qs.length ≤ 9223372036854775807 := by
  obtain ⟨cs, rfl, hsz⟩ := okWide_struct Try.underlying24 hv
  rw [cells_border] at hsz
  obtain ⟨l⟩ := cs
  match l, hsz with
  | [c0, c1, c2, c3, c4], _ =>
    obtain ⟨fuel, hf⟩ := h
    obtain ⟨xs, f, _, _, _, hxl, hi⟩ := DataW.trod_struct Try.underlying24 hf
    have hx5 : xs.length = 5 := hxl
    have q0 : DataW.trod enc Try.prog w base spare held f 2 ((([c0, c1, c2, c3, c4] : List Value).drop 0).take (Try.prog.cellsOf 2)) = xs[0]? := hi 0 _ rfl
    have q1 : DataW.trod enc Try.prog w base spare held f 2 ((([c0, c1, c2, c3, c4] : List Value).drop 1).take (Try.prog.cellsOf 2)) = xs[1]? := hi 1 _ rfl
    have q2 : DataW.trod enc Try.prog w base spare held f 2 ((([c0, c1, c2, c3, c4] : List Value).drop 2).take (Try.prog.cellsOf 2)) = xs[2]? := hi 2 _ rfl
    have q3 : DataW.trod enc Try.prog w base spare held f 2 ((([c0, c1, c2, c3, c4] : List Value).drop 3).take (Try.prog.cellsOf 2)) = xs[3]? := hi 3 _ rfl
    have q4 : DataW.trod enc Try.prog w base spare held f 22 ((([c0, c1, c2, c3, c4] : List Value).drop 4).take (Try.prog.cellsOf 22)) = xs[4]? := hi 4 _ rfl
    rw [cells_int64] at q0 q1 q2 q3
    rw [cells_twigs] at q4
    simp only [List.drop_succ_cons, List.drop_zero, List.take_succ_cons, List.take_zero] at q0 q1 q2 q3 q4
    rw [List.getElem?_eq_getElem (by omega)] at q0 q1 q2 q3 q4
    obtain ⟨p, e0, _, _⟩ := DataW.trod_int Try.underlying2 q0
    obtain ⟨n, e1, _, _⟩ := DataW.trod_int Try.underlying2 q1
    obtain ⟨m, e2, _, _⟩ := DataW.trod_int Try.underlying2 q2
    obtain ⟨k, e3, _, _⟩ := DataW.trod_int Try.underlying2 q3
    obtain ⟨A, c, qs, e4, hr, hq⟩ := open_twigs q4
    simp only [List.cons.injEq, and_true] at e0 e1 e2 e3
    subst e0 e1 e2 e3 e4
    exact ⟨p, n, m, k, A, c, qs, rfl, hr, hq⟩
end
end Go.Proofs.Ytnlidegmllcdhaa
