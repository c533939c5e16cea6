/-
  impl.tensorOfProducts. (Made by mktop.py.)
-/
import Derived.Test.YtcfgpjkdonidgaaLeft2
import Derived.Test.YtcfgpjkdonidgaaTen6
namespace Go.Proofs.Ytcfgpjkdonidgaa
open Go.RowKit
set_option maxRecDepth 100000
/-- The numbers of the tensor of products. -/
def topL (p : Int) (n0 n1 n2 : Nat) (qs : List (List Nat)) : List Int := genL n1 n2 p (fun i j k => ((sumN qs i j k : Nat) : Int)) (n0 * n1 * n2)
theorem topL_len (p : Int) (n0 n1 n2 : Nat) (qs : List (List Nat)) : (topL p n0 n1 n2 qs).length = n0 * n1 * n2 := genL_len _ _ _ _ _
theorem sideP_of {n : Nat} (h : 1 ≤ n ∧ n ≤ 9) : sideB (n : Int) = true := by simp [sideB]; omega
theorem tensorOfP_c (p a b c : Int) (A : Option Addr) (n cap : Nat) (w : World) : Calls Try.prog 47 #[.int .i64 p, .agg #[.int .i64 a, .int .i64 b, .int .i64 c], .slice A n cap] w fun e w' => e = .returned (.agg #[.int .i64 p, .int .i64 a, .int .i64 b, .int .i64 c, .slice A n cap]) ∧ Below w.heap.size w w' := by
  go_enter Try.func47, Try.ntmps47
  go_wp2_with fail
  refine bodyPost_ret (results_at rfl _ _ (w.heap.size + 1) _ _ _ rfl (al2_1 _ _ _) Try.underlying28 rfl 5 (by kernel_rfl) rfl) rfl ?_
  exact ⟨rfl, below2 _ _ _⟩
theorem OwnI.newP_ne {w : World} {lo : Nat} {v : Value} {xs : List Int} (h : OwnI w lo v xs) : some w.heap.size ≠ v.ownBlock := fun e => by
  have := (h.lt e.symm).2
  omega
theorem OwnI.putP {w w' : World} {lo g : Nat} {v : Value} {xs : List Int} {o : Obj} (h : OwnI w lo v xs) (hp : Put w w' g o) (hne : some g ≠ v.ownBlock) : OwnI w' lo v xs := by
  refine ⟨h.1, ?_⟩
  rcases h.2 with hn | ⟨g2, cap, cur, rfl, hb, hgg, rest⟩
  · exact .inl hn
  · exact .inr ⟨g2, cap, cur, rfl, hb, hp.other (k := g2) hgg (fun e => hne (by simp [Value.ownBlock, e])), rest⟩
end Go.Proofs.Ytcfgpjkdonidgaa
