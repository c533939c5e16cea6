/-
  laws.FnExactWithoutProduct returns true and writes nothing that was there.
-/
import Derived.Test.YtpoekhpchhmkaaaLawWo
namespace Go.Proofs.Ytpoekhpchhmkaaa
open Go.RowKit
theorem lawWithoutProduct (p n m k : Int) (A : Option Addr) (c : Nat) (qs : List (List Nat)) (i : Int) (w : World) (hr : Rd w A qs) (hn : qs.length ≤ 9223372036854775807) :
    Calls Try.prog 4 #[.agg #[.int .i64 p, .int .i64 n, .int .i64 m, .int .i64 k, .slice A qs.length c], .int .i64 i] w fun e w' => e = .returned (.bool true) ∧ Below w.heap.size w w' := by
  by_cases hl : qs.length ≤ 1048576
  · exact lawWithoutProduct_walk p n m k A c qs i _ _ _ _ _ _ w hr hn (woQs_bytes p n m k i hr.good) (by have := woQs_len p n m k qs i; omega)
      (fun hl g w h => specWithoutProduct_c p n m k i g qs w h hl) (fun hl g w h => implWithoutProduct_c p n m k i g qs w h hl)
  · exact lawWithoutProduct_walk p n m k A c qs i 0 0 0 0 0 [] w hr hn (by simp) (by simp) (fun h => absurd h hl) (fun h => absurd h hl)
end Go.Proofs.Ytpoekhpchhmkaaa
