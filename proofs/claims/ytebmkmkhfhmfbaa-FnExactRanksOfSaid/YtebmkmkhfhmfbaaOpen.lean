/-
  A laws.Scheme that came in, read as data: its numbers, and its products as lists of bytes.
-/
import Derived.Test.YtebmkmkhfhmfbaaBase
import Derived.Test.YtebmkmkhfhmfbaaChecked
import Derived.Deep.Slices
import Derived.OpenShut
import Derived.ProofKit
namespace Go.Proofs.Ytebmkmkhfhmfbaa
open Go.RowKit Go.ChangeShapes Go.WideShapes
set_option maxRecDepth 100000
theorem bytes_of (cs : List Value) (N : Nat) (h : ∀ i, i < N → ∃ n : Int, cs[i]? = some (.int .u8 n) ∧ 0 ≤ n ∧ n ≤ 255) :
    ∃ l, Bytes N l ∧ ∀ j, j < N → cs[j]? = some (.int .u8 ((l[j]?.getD 0 : Nat) : Int)) := by
  obtain ⟨f, hf⟩ := Go.Deep.choose_lt (α := Int) h
  refine ⟨(List.range N).map fun i => (f i).toNat, ⟨by simp, fun n hn => ?_⟩, fun j hj => ?_⟩
  · obtain ⟨i, hi, rfl⟩ := List.mem_map.1 hn
    have := hf i (List.mem_range.1 hi)
    omega
  · have := hf j hj
    rw [this.1]
    have e : (((List.range N).map fun i => (f i).toNat)[j]?.getD 0 : Nat) = (f j).toNat := by simp [hj]
    rw [e, Int.toNat_of_nonneg this.2.1]
section
variable {H : Type} {enc : TypeId × Value → H} {w : World} {base : Nat} {spare : Nat → Bool} {held : Bool}
theorem cells_u8 : Try.prog.cellsOf 5 = 1 := by kernel_rfl
theorem cells_form : Try.prog.cellsOf 44 = 9 := by kernel_rfl
theorem cells_prod : Try.prog.cellsOf 80 = 27 := by kernel_rfl
theorem cells_scheme : Try.prog.cellsOf 24 = 5 := by kernel_rfl
theorem cells_int64 : Try.prog.cellsOf 2 = 1 := by kernel_rfl
theorem cells_slice : Try.prog.cellsOf 22 = 1 := by kernel_rfl
theorem trod_form {fuel : Nat} {cs : List Value} {x : DataW H × List MemPlace} (h : DataW.trod enc Try.prog w base spare held fuel 44 cs = some x) :
    cs.length = 9 ∧ ∀ i, i < 9 → ∃ n : Int, cs[i]? = some (.int .u8 n) ∧ 0 ≤ n ∧ n ≤ 255 := by
  obtain ⟨xs, m, _, _, hlen, hxl, hi⟩ := DataW.trod_array Try.underlying44 h
  rw [cells_form] at hlen
  refine ⟨hlen, fun i hlt => ?_⟩
  have h1 := hi i hlt
  rw [cells_u8, Nat.mul_one, List.getElem?_eq_getElem (by omega)] at h1
  obtain ⟨n, hn, _, hw⟩ := DataW.trod_int Try.underlying5 h1
  have hb := bounds_u8 hw
  refine ⟨n, ?_, hb.1, hb.2⟩
  rw [List.drop_eq_getElem_cons (by omega)] at hn
  simp only [List.take_succ_cons, List.take_zero, List.cons.injEq, and_true] at hn
  rw [List.getElem?_eq_getElem (by omega), hn]
theorem trod_prod {fuel : Nat} {cs : List Value} {x : DataW H × List MemPlace} (h : DataW.trod enc Try.prog w base spare held fuel 80 cs = some x) :
    ∃ q, Bytes 27 q ∧ ∀ j, j < 27 → cs[j]? = some (.int .u8 ((q[j]?.getD 0 : Nat) : Int)) := by
  obtain ⟨xs, m, _, _, hlen, hxl, hi⟩ := DataW.trod_struct Try.underlying80 h
  rw [cells_prod] at hlen
  have hx3 : xs.length = 3 := hxl
  have part : ∀ (i off : Nat), i < 3 → off + 9 ≤ 27 → DataW.trod enc Try.prog w base spare held m 44 ((cs.drop off).take 9) = xs[i]? → ∀ j, j < 9 → ∃ n : Int, cs[off + j]? = some (.int .u8 n) ∧ 0 ≤ n ∧ n ≤ 255 := by
    intro i off h3 hoff ht j hj
    rw [List.getElem?_eq_getElem (by omega)] at ht
    obtain ⟨_, hf⟩ := trod_form ht
    obtain ⟨n, hn, hb⟩ := hf j hj
    rw [List.getElem?_take, if_pos hj, List.getElem?_drop] at hn
    exact ⟨n, hn, hb⟩
  have p0 : DataW.trod enc Try.prog w base spare held m 44 ((cs.drop 0).take (Try.prog.cellsOf 44)) = xs[0]? := hi 0 _ rfl
  have p1 : DataW.trod enc Try.prog w base spare held m 44 ((cs.drop 9).take (Try.prog.cellsOf 44)) = xs[1]? := hi 1 _ rfl
  have p2 : DataW.trod enc Try.prog w base spare held m 44 ((cs.drop 18).take (Try.prog.cellsOf 44)) = xs[2]? := hi 2 _ rfl
  rw [cells_form] at p0 p1 p2
  refine bytes_of cs 27 fun i hlt => ?_
  by_cases h9 : i < 9
  · have := part 0 0 (by omega) (by omega) p0 i h9
    rwa [Nat.zero_add] at this
  · by_cases h18 : i < 18
    · have := part 1 9 (by omega) (by omega) p1 (i - 9) (by omega)
      rwa [show 9 + (i - 9) = i by omega] at this
    · have := part 2 18 (by omega) (by omega) p2 (i - 18) (by omega)
      rwa [show 18 + (i - 18) = i by omega] at this
theorem open_prods {fuel : Nat} {v : Value} {x : DataW H × List MemPlace} (h : DataW.trod enc Try.prog w base spare held fuel 22 [v] = some x) :
    ∃ (A : Option Addr) (c : Nat) (qs : List (List Nat)), v = .slice A qs.length c ∧ Rd w A qs ∧ qs.length ≤ 9223372036854775807 := by
  rcases Go.Deep.open_slice Try.underlying22 h with ⟨hv, _⟩ | ⟨a, len, cap, m, n, D, Pl, hv, hb, hl, hm, hmm, _, hi⟩
  · simp only [List.cons.injEq, and_true] at hv
    exact ⟨none, 0, [], by rw [hv]; rfl, Rd.none_ _ _, by simp⟩
  · simp only [List.cons.injEq, and_true] at hv
    rw [cells_prod] at hi
    have hlm : len ≤ m := by rw [hmm]; split <;> omega
    obtain ⟨F, hF⟩ := Go.Deep.choose_lt (α := List Nat) (n := len) (p := fun i q => Bytes 27 q ∧ ∀ j, j < 27 → w.cell? (a.add (i * 27 + j)) = some (.int .u8 ((q[j]?.getD 0 : Nat) : Int))) (fun i hlt => by
      obtain ⟨cs', hc, ht⟩ := hi i (by omega)
      obtain ⟨q, hq, hj⟩ := trod_prod ht
      obtain ⟨_, hcl, hat⟩ := World.cells?_some hc
      exact ⟨q, hq, fun j hlt => by rw [← Go.Deep.add_add, hat j hlt, hj j hlt]⟩)
    refine ⟨some a, cap, (List.range len).map F, by rw [hv]; simp, ⟨fun q hq => ?_, ?_⟩, by simp; unfold maxLen at hm; omega⟩
    · obtain ⟨i, hi', rfl⟩ := List.mem_map.1 hq
      exact (hF i (List.mem_range.1 hi')).1
    · rcases Nat.eq_zero_or_pos len with h0 | hpos
      · left; subst h0; rfl
      · right
        obtain ⟨b, off, spot⟩ := a
        have hc0 := (hF 0 hpos).2 0 (by omega)
        have hspot : spot = none := by simpa [Addr.add] using World.cell?_spot hc0
        subst hspot
        refine ⟨b, off, rfl, fun i q hq j hj => ?_⟩
        rw [List.getElem?_map] at hq
        have hlt : i < len := by
          by_cases hh : i < len
          · exact hh
          · simp [hh] at hq
        simp only [List.getElem?_range hlt, Option.map_some, Option.some.injEq] at hq
        subst hq
        have := (hF i hlt).2 j hj
        rw [add_none, ← Nat.add_assoc] at this
        exact this
theorem open_scheme {r : Reach} {b0 : Nat} {v : Value} {d : DataW H} {ps : List MemPlace} (hv : Value.okWide Try.prog w r b0 24 v) (h : DataW.Trod enc Try.prog w base spare held 24 v d ps) :
    ∃ (p n m k : Int) (A : Option Addr) (c : Nat) (qs : List (List Nat)), v = .agg #[.int .i64 p, .int .i64 n, .int .i64 m, .int .i64 k, .slice A qs.length c] ∧ Rd w A qs ∧ qs.length ≤ 9223372036854775807 := by
  obtain ⟨cs, rfl, hsz⟩ := okWide_struct Try.underlying24 hv
  rw [cells_scheme] at hsz
  obtain ⟨l⟩ := cs
  match l, hsz with
  | [c0, c1, c2, c3, c4], _ =>
    obtain ⟨fuel, hf⟩ := h
    obtain ⟨xs, f, _, _, _, hxl, hi⟩ := DataW.trod_struct Try.underlying24 hf
    have hx5 : xs.length = 5 := hxl
    have q0 : DataW.trod enc Try.prog w base spare held f 2 ((([c0, c1, c2, c3, c4] : List Value).drop 0).take (Try.prog.cellsOf 2)) = xs[0]? := hi 0 _ rfl
    have q1 : DataW.trod enc Try.prog w base spare held f 2 ((([c0, c1, c2, c3, c4] : List Value).drop 1).take (Try.prog.cellsOf 2)) = xs[1]? := hi 1 _ rfl
    have q2 : DataW.trod enc Try.prog w base spare held f 2 ((([c0, c1, c2, c3, c4] : List Value).drop 2).take (Try.prog.cellsOf 2)) = xs[2]? := hi 2 _ rfl
    have q3 : DataW.trod enc Try.prog w base spare held f 2 ((([c0, c1, c2, c3, c4] : List Value).drop 3).take (Try.prog.cellsOf 2)) = xs[3]? := hi 3 _ rfl
    have q4 : DataW.trod enc Try.prog w base spare held f 22 ((([c0, c1, c2, c3, c4] : List Value).drop 4).take (Try.prog.cellsOf 22)) = xs[4]? := hi 4 _ rfl
    rw [cells_int64] at q0 q1 q2 q3
    rw [cells_slice] at q4
    simp only [List.drop_succ_cons, List.drop_zero, List.take_succ_cons, List.take_zero] at q0 q1 q2 q3 q4
    rw [List.getElem?_eq_getElem (by omega)] at q0 q1 q2 q3 q4
    obtain ⟨p, e0, _, _⟩ := DataW.trod_int Try.underlying2 q0
    obtain ⟨n, e1, _, _⟩ := DataW.trod_int Try.underlying2 q1
    obtain ⟨m, e2, _, _⟩ := DataW.trod_int Try.underlying2 q2
    obtain ⟨k, e3, _, _⟩ := DataW.trod_int Try.underlying2 q3
    obtain ⟨A, c, qs, e4, hr, hq⟩ := open_prods q4
    simp only [List.cons.injEq, and_true] at e0 e1 e2 e3
    subst e0 e1 e2 e3 e4
    exact ⟨p, n, m, k, A, c, qs, rfl, hr, hq⟩
theorem open_prod {r : Reach} {b0 : Nat} {v : Value} {d : DataW H} {ps : List MemPlace} (hv : Value.okWide Try.prog w r b0 80 v) (h : DataW.Trod enc Try.prog w base spare held 80 v d ps) :
    ∃ q, v = .agg (u8s q) ∧ Bytes 27 q := by
  obtain ⟨cs, rfl, hsz⟩ := okWide_struct Try.underlying80 hv
  rw [cells_prod] at hsz
  obtain ⟨fuel, hf⟩ := h
  obtain ⟨q, hq, hj⟩ := trod_prod hf
  refine ⟨q, ?_, hq⟩
  congr 1
  apply Array.ext
  · rw [hsz, u8s_size, hq.len]
  · intro i h1 h2
    have h3 := hj i (by omega)
    have h4 : cs[i]? = some (.int .u8 ((q[i]?.getD 0 : Nat) : Int)) := by
      rw [← Array.getElem?_toList]
      exact h3
    rw [Array.getElem?_eq_getElem h1] at h4
    have h5 := u8s_get (l := q) (i := i) (by rw [hq.len]; omega)
    rw [Array.getElem?_eq_getElem h2] at h5
    simp only [Option.some.injEq] at h4 h5
    rw [h4, h5]
end
end Go.Proofs.Ytebmkmkhfhmfbaa
