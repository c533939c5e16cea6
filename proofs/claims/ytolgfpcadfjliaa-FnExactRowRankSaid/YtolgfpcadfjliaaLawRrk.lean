/-
  laws.FnExactRowRank: it returns true. (Made by mkglue.py.)
-/
import Derived.Test.YtolgfpcadfjliaaLawRowRank
import Derived.Test.YtolgfpcadfjliaaRk4
namespace Go.Proofs.Ytolgfpcadfjliaa
open Go.RowKit
theorem lawRowRank (x : Int) (yA : Option Addr) (yc yn : Nat) (y : Nat → List Int) (w : World) (hm_y : RdM w yA yn y) (hn_y : yn ≤ 9223372036854775807) (hl_y : ∀ i, i < yn → (y i).length ≤ 9223372036854775807) :
    Calls Try.prog 5 #[.int .i64 x, .slice yA yn yc] w fun e w' => e = .returned (.bool true) ∧ Below w.heap.size w w' :=
  lawRowRank_walk x yA yc yn y _ _ w hm_y hn_y hl_y  (fun t_y _A_y _c_y w h_y => specRowRank_c x _ _ yn y w h_y (by omega) (fun i hi => by have := tot_ge y hi; omega)) (fun t_y _A_y _c_y w h_y => implRowRank_c x _ _ yn y w h_y (by omega) (fun i hi => by have := tot_ge y hi; omega))
end Go.Proofs.Ytolgfpcadfjliaa
