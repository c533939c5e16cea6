/-
  laws.FnExactAddProduct returns true and writes nothing that was there.
-/
import Derived.Test.YtpoekhpchhmkaaaLawAdd
namespace Go.Proofs.Ytpoekhpchhmkaaa
open Go.RowKit
theorem lawAddProduct (p n m k : Int) (A : Option Addr) (c : Nat) (qs : List (List Nat)) (q : List Nat) (w : World) (hr : Rd w A qs) (hn : qs.length ≤ 9223372036854775807) (hq : Bytes 27 q) :
    Calls Try.prog 3 #[.agg #[.int .i64 p, .int .i64 n, .int .i64 m, .int .i64 k, .slice A qs.length c], .agg (u8s q)] w fun e w' => e = .returned (.bool true) ∧ Below w.heap.size w w' :=
  lawAddProduct_walk p n m k A c qs q _ _ _ _ _ _ w hr hn hq (addQs_bytes p n m k hr.good hq) (by have := addQs_len p n m k qs q; omega)
    (fun hl _ w h => specAddProduct_c p n m k _ _ qs q w h hl (by simp) hq) (fun hl _ w h => implAddProduct_c p n m k _ _ qs q w h hl (by simp) hq)
end Go.Proofs.Ytpoekhpchhmkaaa
