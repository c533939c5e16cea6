/-
  laws.FnExactRunProgram: it returns true. (Made by mkglue.py.)
-/
import Derived.Test.YtoaibfbamecdlaaLawRunProgram
import Derived.Test.YtoaibfbamecdlaaPg9
namespace Go.Proofs.Ytoaibfbamecdlaa
open Go.RowKit
theorem lawRunProgram (xp xn : Int) (xAs xAo : Option Addr) (xcs xco : Nat) (xss xos : List (List Int)) (yA : Option Addr) (yc : Nat) (y : List Int) (w : World) (hr_x : RdK 3 w xAs xss) (hn_x : xss.length ≤ 9223372036854775807) (hr2_x : RdK 2 w xAo xos) (hn2_x : xos.length ≤ 9223372036854775807) (hm_y : RdI w yA y) (hn_y : y.length ≤ 9223372036854775807) :
    Calls Try.prog 3 #[.agg #[.int .i64 xp, .int .i64 xn, .slice xAs xss.length xcs, .slice xAo xos.length xco], .slice yA y.length yc] w fun e w' => e = .returned (.bool true) ∧ Below w.heap.size w w' :=
  lawRunProgram_walk xp xn xAs xAo xcs xco xss xos yA yc y _ _ w hr_x hn_x hr2_x hn2_x hm_y hn_y (rpL_len _ _ _ _ _) (fun t_x t_y _g_x _j_x _g_y w h_x h2_x h_y => specRunProgram_c xp xn _ _ _ _ xss xos _ _ y w h_x h2_x (by omega) (by omega) h_y t_y) (fun t_x t_y _g_x _j_x _g_y w h_x h2_x h_y => implRunProgram_c xp xn _ _ _ _ xss xos _ _ y w h_x h2_x (by omega) (by omega) h_y t_y)
end Go.Proofs.Ytoaibfbamecdlaa
