/-
  laws.FnExactNormalProducts: it returns true.
-/
import Derived.Test.YtbgoopmmdbhogaaLawNormalProducts
import Derived.Test.YtbgoopmmdbhogaaNrm7
namespace Go.Proofs.Ytbgoopmmdbhogaa
open Go.RowKit
theorem lawNormalProducts (p n m k : Int) (A : Option Addr) (c : Nat) (qs : List (List Nat)) (w : World) (hr : Rd w A qs) (hn : qs.length ≤ 9223372036854775807) :
    Calls Try.prog 3 #[.agg #[.int .i64 p, .int .i64 n, .int .i64 m, .int .i64 k, .slice A qs.length c]] w fun e w' => e = .returned (.bool true) ∧ Below w.heap.size w w' :=
  lawNormalProducts_walk p n m k A c qs _ _ _ _ _ _ w hr hn (nrmQs_bytes p n m k qs) (by have := nrmQs_len p n m k qs; omega)
    (fun t g w h => specNormalProducts_c p n m k _ _ qs w h t) (fun t g w h => implNormalProducts_c p n m k g _ qs w h t)
end Go.Proofs.Ytbgoopmmdbhogaa
