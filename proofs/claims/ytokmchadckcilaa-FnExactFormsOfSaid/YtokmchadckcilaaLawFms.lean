/-
  laws.FnExactFormsOf: it returns true. (Made by mkglue.py.)
-/
import Derived.Test.YtokmchadckcilaaLawFormsOf
import Derived.Test.YtokmchadckcilaaPgB
namespace Go.Proofs.Ytokmchadckcilaa
open Go.RowKit
theorem lawFormsOf (xp xn : Int) (xAs xAo : Option Addr) (xcs xco : Nat) (xss xos : List (List Int)) (w : World) (hr_x : RdK 3 w xAs xss) (hn_x : xss.length ≤ 9223372036854775807) (hr2_x : RdK 2 w xAo xos) (hn2_x : xos.length ≤ 9223372036854775807) :
    Calls Try.prog 6 #[.agg #[.int .i64 xp, .int .i64 xn, .slice xAs xss.length xcs, .slice xAo xos.length xco]] w fun e w' => e = .returned (.bool true) ∧ Below w.heap.size w w' :=
  lawFormsOf_walk xp xn xAs xAo xcs xco xss xos _ _ _ w hr_x hn_x hr2_x hn2_x (fm_small _ _ _ _) (fun t_x _g_x _j_x w h_x h2_x => specFormsOf_c xp xn _ _ _ _ xss xos w h_x h2_x (by omega) (by omega)) (fun t_x _g_x _j_x w h_x h2_x => implFormsOf_c xp xn _ _ _ _ xss xos w h_x h2_x (by omega) (by omega))
end Go.Proofs.Ytokmchadckcilaa
