/-
  impl.IsScheme answers as spec.IsScheme does. (Made by mkimplis.py.)
-/
import Derived.Test.YtbahcbmmkbokgaaIs
import Derived.Test.YtbahcbmmkbokgaaAre
namespace Go.Proofs.Ytbahcbmmkbokgaa
open Go.RowKit
set_option maxRecDepth 100000
theorem schemeB_are {p n m k : Int} {qs : List (List Nat)} (hs : sizesB p n m k = true) : schemeB p n m k qs = areB p (shR n m) (shC m k) qs := by
  unfold schemeB areB
  rw [hs, Bool.true_and, show prodB p n m k = prodG p (shR n m) (shC m k) from funext (prodB_G p n m k)]
theorem areScheme_c (p n m k : Int) (A : Option Addr) (c : Nat) (qs : List (List Nat)) (w : World) (hR : Rd w A qs) (hlen : qs.length ≤ 1048576) (hs : sizesB p n m k = true) :
    Calls Try.prog 48 #[.int .i64 p, .agg #[.int .i64 n, .int .i64 m, .int .i64 m, .int .i64 k, .int .i64 n, .int .i64 k], .slice A qs.length c] w fun e w' => e = .returned (.bool (areB p (shR n m) (shC m k) qs)) ∧ Below w.heap.size w w' :=
  areProducts_c p (shR n m) (shC m k) A c qs w hR hlen (primeB_pos (sizesB_parts hs).1) (ShOk.of_sizes (sizesB_parts hs).2.1 (sizesB_parts hs).2.2.1 (sizesB_parts hs).2.2.2)
attribute [local irreducible] wpList
theorem sizesB_allowed {p n m k : Int} (h : sizesB p n m k = true) : (sizeB n && sizeB m && sizeB k) = true := by
  obtain ⟨_, h1, h2, h3⟩ := sizesB_parts h
  rw [h1, h2, h3]
  rfl
theorem schemeB_len {p n m k : Int} {qs : List (List Nat)} (h : schemeB p n m k qs = true) : qs.length ≤ 30 := by
  simp only [schemeB, Bool.and_eq_true, decide_eq_true_eq] at h
  exact h.1.2
theorem schemeB_sizes {p n m k : Int} {qs : List (List Nat)} (h : schemeB p n m k qs = true) : sizesB p n m k = true := by
  simp only [schemeB, Bool.and_eq_true] at h
  exact h.1.1
end Go.Proofs.Ytbahcbmmkbokgaa

