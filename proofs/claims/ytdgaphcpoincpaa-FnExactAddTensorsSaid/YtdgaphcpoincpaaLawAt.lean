/-
  laws.FnExactAddTensors: it returns true.
-/
import Derived.Test.YtdgaphcpoincpaaLawAddTensors
import Derived.Test.YtdgaphcpoincpaaTenE
namespace Go.Proofs.Ytdgaphcpoincpaa
open Go.RowKit
theorem adR_len (p a b c : Int) (xs : List Int) (q d e f : Int) (ys : List Int) (kk : Int) : (adR p a b c xs q d e f ys kk).length ≤ 1048576 := by
  unfold adR
  split
  · rename_i h
    unfold adCode at h
    rcases ckCode_cases p a b c xs q d e f ys with h1 | h1 | ⟨_, hx, _, _⟩
    · rw [h1] at h; simp at h
    · rw [h1] at h; simp at h
    · obtain ⟨_, s0, s1, s2, _, _⟩ := tenB_parts hx
      have l0 := sideB_in s0
      have l1 := sideB_in s1
      have l2 := sideB_in s2
      rw [genL_len]
      have := places_729 (n0 := a.toNat) (n1 := b.toNat) (n2 := c.toNat) (by omega) (by omega) (by omega)
      omega
  · simp
theorem lawAddTensors (xp xn xm xk : Int) (xA : Option Addr) (xc : Nat) (xq : List Int) (yp yn ym yk : Int) (yA : Option Addr) (yc : Nat) (yq : List Int) (i : Int) (w : World) (hr : RdI w xA xq) (hn : xq.length ≤ 9223372036854775807) (hs : RdI w yA yq) (hm : yq.length ≤ 9223372036854775807) :
    Calls Try.prog 6 #[.agg #[.int .i64 xp, .int .i64 xn, .int .i64 xm, .int .i64 xk, .slice xA xq.length xc], .agg #[.int .i64 yp, .int .i64 yn, .int .i64 ym, .int .i64 yk, .slice yA yq.length yc], .int .i64 i] w fun e w' => e = .returned (.bool true) ∧ Below w.heap.size w w' :=
  lawAddTensors_walk xp xn xm xk xA xc xq yp yn ym yk yA yc yq i _ _ _ _ _ _ w hr hn hs hm (adR_len xp xn xm xk xq yp yn ym yk yq i) (fun ht1 ht2 _ _ w hr hs => specAddTensors_c xp xn xm xk _ _ xq yp yn ym yk _ _ yq i w hr ht1 hs ht2) (fun ht1 ht2 _ _ w hr hs => implAddTensors_c xp xn xm xk _ _ xq yp yn ym yk _ _ yq i w hr ht1 hs ht2)
end Go.Proofs.Ytdgaphcpoincpaa
