/-
  laws.FnExactPlainProgram: it returns true. (Made by mkglue.py.)
-/
import Derived.Test.YtoaibfbamecdlaaLawPlainProgram
import Derived.Test.YtoaibfbamecdlaaPgF
namespace Go.Proofs.Ytoaibfbamecdlaa
open Go.RowKit
theorem lawPlainProgram (x : Int) (y : Int) (zA : Option Addr) (zc zn : Nat) (z : Nat → List Int) (w : World) (hm_z : RdM w zA zn z) (hn_z : zn ≤ 9223372036854775807) (hl_z : ∀ i, i < zn → (z i).length ≤ 9223372036854775807) :
    Calls Try.prog 4 #[.int .i64 x, .int .i64 y, .slice zA zn zc] w fun e w' => e = .returned (.bool true) ∧ Below w.heap.size w w' :=
  lawPlainProgram_walk x y zA zc zn z _ _ _ _ _ w hm_z hn_z hl_z (pp_small _ _ _ _).1 (pp_small _ _ _ _).2 (fun t_z _A_z _c_z w h_z => specPlainProgram_c x y _ _ zn z w h_z (by omega) (fun i hi => by have := tot_ge z hi; omega)) (fun t_z _A_z _c_z w h_z => implPlainProgram_c x y _ _ zn z w h_z (by omega) (fun i hi => by have := tot_ge z hi; omega))
end Go.Proofs.Ytoaibfbamecdlaa
