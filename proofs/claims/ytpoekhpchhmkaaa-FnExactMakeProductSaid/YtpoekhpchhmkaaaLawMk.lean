/-
  laws.FnExactMakeProduct: it returns true.
-/
import Derived.Test.YtpoekhpchhmkaaaLawMakeProduct
import Derived.Test.YtpoekhpchhmkaaaMk5
namespace Go.Proofs.Ytpoekhpchhmkaaa
open Go.RowKit
set_option maxRecDepth 100000
theorem lawMakeProduct (p n m k : Int) (A0 : Option Addr) (c0 : Nat) (qs : List (List Nat)) (A : Option Addr) (c1 N : Nat) (X : Nat → List Int) (B : Option Addr) (c2 M : Nat) (Y : Nat → List Int) (w : World)
    (hr : Rd w A0 qs) (hn : qs.length ≤ 9223372036854775807) (hX : RdM w A N X ∧ N ≤ 9223372036854775807 ∧ ∀ i, i < N → (X i).length ≤ 9223372036854775807) (hY : RdM w B M Y ∧ M ≤ 9223372036854775807 ∧ ∀ i, i < M → (Y i).length ≤ 9223372036854775807) :
    Calls Try.prog 5 #[.agg #[.int .i64 p, .int .i64 n, .int .i64 m, .int .i64 k, .slice A0 qs.length c0], .slice A N c1, .slice B M c2] w fun e w' => e = .returned (.bool true) ∧ Below w.heap.size w w' := by
  cases hs : schemeB p n m k qs with
  | false =>
    exact lawMakeProduct_walk p n m k A0 c0 qs A c1 N X B c2 M Y 0 X 1 w hr hn hX.1 hX.2.1 hX.2.2 hY.1 hY.2.1 hY.2.2 (by simp [tot])
      (fun t0 _ _ g A c1 B c2 w hq _ _ => specMakeProduct_no1 p n m k (some ⟨g, 0, none⟩) qs.length qs A B c1 c2 N M w hq t0 X hs)
      (fun t0 _ _ g A c1 B c2 w hq _ _ => implMakeProduct_no1 p n m k (some ⟨g, 0, none⟩) qs.length qs A B c1 c2 N M w hq t0 X hs)
  | true =>
    cases hm : (matB p n m N X && matB p m k M Y) with
    | false =>
      exact lawMakeProduct_walk p n m k A0 c0 qs A c1 N X B c2 M Y 0 X 2 w hr hn hX.1 hX.2.1 hX.2.2 hY.1 hY.2.1 hY.2.2 (by simp [tot])
        (fun t0 t1 t2 g A c1 B c2 w hq hX hY => specMakeProduct_no2 p n m k (some ⟨g, 0, none⟩) qs.length qs A B c1 c2 N M X Y w hq t0 hX hY (by omega) (by omega) (fun i hi => by have := tot_ge X hi; omega) (fun i hi => by have := tot_ge Y hi; omega) X hs hm)
        (fun t0 t1 t2 g A c1 B c2 w hq hX hY => implMakeProduct_no2 p n m k (some ⟨g, 0, none⟩) qs.length qs A B c1 c2 N M X Y w hq t0 hX hY (by omega) (by omega) (fun i hi => by have := tot_ge X hi; omega) (fun i hi => by have := tot_ge Y hi; omega) X hs hm)
    | true =>
      obtain ⟨h1, h2⟩ : matB p n m N X = true ∧ matB p m k M Y = true := by simpa using hm
      have hs' := hs
      simp only [schemeB, Bool.and_eq_true, decide_eq_true_eq] at hs'
      obtain ⟨_, _, _, sk⟩ := sizesB_parts hs'.1.1
      have hN := (matB_parts h1).1
      obtain ⟨_, sn, _, _⟩ := sizesB_parts hs'.1.1
      simp only [sizeB, Bool.and_eq_true, decide_eq_true_eq] at sk sn
      have ht : tot (matC p (mkS qs X Y N M) (mkC qs) k.toNat qs.length 0) N ≤ N * 3 := tot_le (fun i _ => by rw [matC_len]; omega)
      exact lawMakeProduct_walk p n m k A0 c0 qs A c1 N X B c2 M Y N (matC p (mkS qs X Y N M) (mkC qs) k.toNat qs.length 0) 0 w hr hn hX.1 hX.2.1 hX.2.2 hY.1 hY.2.1 hY.2.2 (by omega)
        (fun t0 t1 t2 g A c1 B c2 w hq hX hY => specMakeProduct_yes p n m k (some ⟨g, 0, none⟩) qs.length qs A B c1 c2 N M X Y w hq t0 hX hY (by omega) (by omega) (fun i hi => by have := tot_ge X hi; omega) (fun i hi => by have := tot_ge Y hi; omega) hs h1 h2)
        (fun t0 t1 t2 g A c1 B c2 w hq hX hY => implMakeProduct_yes p n m k (some ⟨g, 0, none⟩) qs.length qs A B c1 c2 N M X Y w hq t0 hX hY (by omega) (by omega) (fun i hi => by have := tot_ge X hi; omega) (fun i hi => by have := tot_ge Y hi; omega) hs h1 h2)
end Go.Proofs.Ytpoekhpchhmkaaa
