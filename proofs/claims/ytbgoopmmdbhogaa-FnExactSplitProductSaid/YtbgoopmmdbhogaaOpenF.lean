/-
  A form that came in, an array of nine bytes, read as data.
-/
import Derived.Test.YtbgoopmmdbhogaaOpen
namespace Go.Proofs.Ytbgoopmmdbhogaa
open Go.RowKit Go.ChangeShapes Go.WideShapes
set_option maxRecDepth 100000
section
variable {H : Type} {enc : TypeId × Value → H} {w : World} {base : Nat} {spare : Nat → Bool} {held : Bool}
theorem okWide_arr {P : Program} {w : World} {r : Reach} {base : Nat} {t e : TypeId} {n : Nat} {v : Value} (ht : P.underlying t = some (.array n e)) (h : Value.okWide P w r base t v) : ∃ cs, v = .agg cs ∧ cs.size = P.cellsOf t := by
  simp only [Value.okWide, ht] at h
  obtain ⟨cs, h1, h2, _⟩ := h
  exact ⟨cs, h1, h2⟩
theorem open_form {r : Reach} {b0 : Nat} {v : Value} {d : DataW H} {ps : List MemPlace} (hv : Value.okWide Try.prog w r b0 37 v) (h : DataW.Trod enc Try.prog w base spare held 37 v d ps) :
    ∃ q, v = .agg (u8s q) ∧ Bytes 9 q := by
  obtain ⟨cs, rfl, hsz⟩ := okWide_arr Try.underlying37 hv
  rw [cells_form] at hsz
  obtain ⟨fuel, hf⟩ := h
  obtain ⟨hlen, hn⟩ := trod_form hf
  obtain ⟨q, hq, hj⟩ := bytes_of _ 9 hn
  refine ⟨q, ?_, hq⟩
  congr 1
  apply Array.ext
  · rw [hsz, u8s_size, hq.len]
  · intro i h1 h2
    have h3 := hj i (by omega)
    have h4 : cs[i]? = some (.int .u8 ((q[i]?.getD 0 : Nat) : Int)) := by
      rw [← Array.getElem?_toList]
      exact h3
    rw [Array.getElem?_eq_getElem h1] at h4
    have h5 := u8s_get (l := q) (i := i) (by rw [hq.len]; omega)
    rw [Array.getElem?_eq_getElem h2] at h5
    simp only [Option.some.injEq] at h4 h5
    rw [h4, h5]
end
end Go.Proofs.Ytbgoopmmdbhogaa
