/-
  laws.FnExactSplitProduct: it returns true.
-/
import Derived.Test.YtbgoopmmdbhogaaLawSplitProduct
import Derived.Test.YtbgoopmmdbhogaaSp4
namespace Go.Proofs.Ytbgoopmmdbhogaa
open Go.RowKit
theorem lawSplitProduct (xp xn xm xk : Int) (xA : Option Addr) (xc : Nat) (xq : List (List Nat)) (i f : Int) (form : List Nat) (w : World) (hr : Rd w xA xq) (hn : xq.length ≤ 9223372036854775807) (hfm : Bytes 9 form) :
    Calls Try.prog 5 #[.agg #[.int .i64 xp, .int .i64 xn, .int .i64 xm, .int .i64 xk, .slice xA xq.length xc], .int .i64 i, .int .i64 f, .agg (u8s form)] w fun e w' => e = .returned (.bool true) ∧ Below w.heap.size w w' := by
  have G := spR_good (p := xp) (n := xn) (m := xm) (k := xk) (i := i) (f := f) (form := form) hr.good hfm
  exact lawSplitProduct_walk xp xn xm xk xA xc xq i f form _ _ _ _ _ _ w hr hn hfm G.1 (by omega)
    (fun ht g w hr => specSplitProduct_c xp xn xm xk g 0 _ xq i f form w hr ht hfm) (fun ht g w hr => implSplitProduct_c xp xn xm xk g 0 _ xq i f form w hr ht hfm)
end Go.Proofs.Ytbgoopmmdbhogaa
