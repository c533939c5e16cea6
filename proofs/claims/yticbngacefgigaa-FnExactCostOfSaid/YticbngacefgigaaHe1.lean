/-
  spec.l03Like: whether two schemes have the same prime and the same sizes. (Made by mkhe1.py.)
-/
import Derived.Test.YticbngacefgigaaImplIs
import Derived.Test.YticbngacefgigaaLK1
namespace Go.Proofs.Yticbngacefgigaa
open Go.RowKit
set_option maxRecDepth 100000
def likeCode (xp xn xm xk : Int) (xq : List (List Nat)) (yp yn ym yk : Int) (yq : List (List Nat)) : Int := if schemeB xp xn xm xk xq && schemeB yp yn ym yk yq then (if xp = yp ∧ xn = yn ∧ xm = ym ∧ xk = yk then 0 else 2) else 1
end Go.Proofs.Yticbngacefgigaa
