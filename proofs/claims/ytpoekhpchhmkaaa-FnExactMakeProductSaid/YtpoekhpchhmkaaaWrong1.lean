/-
  spec.l01Wrong: how many equations do not hold, and the places of the first.
-/
import Derived.Test.YtpoekhpchhmkaaaWrong0
import Derived.Deep.RegionWith
namespace Go.Proofs.Ytpoekhpchhmkaaa
open Go.RowKit
set_option maxRecDepth 100000
def wrongB (p m k : Int) (qs : List (List Nat)) (a b c : Nat) : Bool := !((sumN qs a b c : Nat) % p == wantI m k a b c)
/-- What stays: what was there; the list of the first's places; the box of the scheme. -/
structure KW (w : World) (p n m k : Int) (A : Option Addr) (len cap : Nat) (v : Value) (xs : List Value) (wr : World) : Prop where
  below : Below w.heap.size w wr
  own : wr.ownsRow (w.heap.size + 1) 2 1 v xs.length xs
  box : At wr w.heap.size (.cells #[.int .i64 p, .int .i64 n, .int .i64 m, .int .i64 k, .slice A len cap] 31 (0, 0))
section
variable {w wr w2 : World} {p n m k : Int} {A : Option Addr} {len cap : Nat} {v : Value} {xs : List Value}
theorem KW.after (h : KW w p n m k A len cap v xs wr) (hb : Below wr.heap.size wr w2) : KW w p n m k A len cap v xs w2 := ⟨below_after h.below hb, own_below h.own hb, h.box.after hb⟩
theorem KW.drew (h : KW w p n m k A len cap v xs wr) : KW w p n m k A len cap v xs wr.drew := ⟨h.below.drew, h.own, h.box⟩
theorem KW.c0 (h : KW w p n m k A len cap v xs wr) : wr.cell? ⟨w.heap.size, 0, none⟩ = some (.int .i64 p) := h.box.at_ 0
theorem KW.c1 (h : KW w p n m k A len cap v xs wr) : wr.cell? ⟨w.heap.size, 1, none⟩ = some (.int .i64 n) := h.box.at_ 1
theorem KW.c2 (h : KW w p n m k A len cap v xs wr) : wr.cell? ⟨w.heap.size, 2, none⟩ = some (.int .i64 m) := h.box.at_ 2
theorem KW.c3 (h : KW w p n m k A len cap v xs wr) : wr.cell? ⟨w.heap.size, 3, none⟩ = some (.int .i64 k) := h.box.at_ 3
theorem KW.c4 (h : KW w p n m k A len cap v xs wr) : wr.cell? ⟨w.heap.size, 4, none⟩ = some (.slice A len cap) := h.box.at_ 4
end
def WrongRel (w : World) (p n m k : Int) (A : Option Addr) (cap : Nat) (qs : List (List Nat)) (s : Wst) (v cnt : Value) (wr : World) : Prop :=
  cnt = .int .i64 (s.1 : Nat) ∧ KW w p n m k A qs.length cap v (fstL s.2) wr
theorem start_KW {w u1 : World} {p n m k : Int} {A : Option Addr} {len cap : Nat} (hB : Below w.heap.size w u1) (h0 : At u1 w.heap.size (.cells #[.int .i64 p, .int .i64 n, .int .i64 m, .int .i64 k, .slice A len cap] 31 (0, 0))) :
    KW w p n m k A len cap (.slice (some ⟨u1.heap.size, 0, none⟩) 0 0) [] (u1.alloc (.cells #[] 2)) :=
  ⟨below_after hB (below1 _ _), World.ownsRow_lit u1 #[] 0 h0.lt (by unfold maxLen; omega) rfl, h0.after (below1 _ _)⟩
theorem l01Wrong_lens (n m : Int) (hn : 1 ≤ n ∧ n ≤ 3) (hm : 1 ≤ m ∧ m ≤ 3) : ∃ N : Nat, (N : Int) = n * m ∧ N ≤ 9 := by
  have := mul_bounds hn.1 hn.2 hm.1 hm.2
  exact ⟨(n * m).toNat, by omega, by omega⟩
theorem infoI64w : (Try.prog.info? 2).map (fun i => (i.zero, i.size, i.bytes)) = some (some (.int .i64 0), 1, 8) := by kernel_rfl
theorem one3 (a b c : Int) : ∀ u ∈ [Value.int .i64 a, .int .i64 b, .int .i64 c], u.oneCell' = true := by
  intro u hu
  simp at hu
  rcases hu with rfl | rfl | rfl <;> rfl
theorem cells3 {w : World} {g : Nat} {a b c : Int} {t : TypeId} (h : At w g (.cells #[.int .i64 a, .int .i64 b, .int .i64 c] t (0, 0))) : ∀ j u, [Value.int .i64 a, .int .i64 b, .int .i64 c][j]? = some u → w.cell? ((⟨g, 0, none⟩ : Addr).add j) = some u := by
  intro j u hu
  have := h.at_ j
  match j, hu with
  | 0, hu => simp at hu; subst hu; exact this
  | 1, hu => simp at hu; subst hu; exact this
  | 2, hu => simp at hu; subst hu; exact this
  | j + 3, hu => simp at hu
theorem grow_KW {w w2 w3 : World} {p n m k a b c : Int} {A : Option Addr} {len cap : Nat} {v v' : Value} (h : KW w p n m k A len cap v [] w2) (ho : (w2.alloc (.cells #[.int .i64 a, .int .i64 b, .int .i64 c] 2)).grownBy w3 v.ownBlock) (hw : w3.ownsRow (w.heap.size + 1) 2 1 v' 3 [.int .i64 a, .int .i64 b, .int .i64 c]) :
    KW w p n m k A len cap v' [.int .i64 a, .int .i64 b, .int .i64 c] w3 := by
  have hs := h.below.size
  have hA := h.box.after (below1 w2 (.cells #[.int .i64 a, .int .i64 b, .int .i64 c] 2))
  refine ⟨(below_after h.below (below1 _ _)).grown ho (by simp; omega) (fun k hk => by have := (h.own.lt k hk).1; omega), hw, (ho.block _ ?_ ?_).trans hA⟩
  · exact hA.lt
  · intro e
    have := (h.own.lt _ e.symm).1
    omega
end Go.Proofs.Ytpoekhpchhmkaaa
