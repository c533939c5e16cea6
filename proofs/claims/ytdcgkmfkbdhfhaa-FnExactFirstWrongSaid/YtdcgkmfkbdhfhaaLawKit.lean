/-
  For the laws' walks: the boxes, the scheme that came in and its copy.
-/
import Derived.Test.YtdcgkmfkbdhfhaaLKI
namespace Go.Proofs.Ytdcgkmfkbdhfhaa
open Go.RowKit
set_option maxRecDepth 100000
/-- The argument's box; the copy's box and its products. -/
structure KL (w : World) (p n m k : Int) (A : Option Addr) (c : Nat) (qs : List (List Nat)) (bx gx : Nat) (wr : World) : Prop where
  below : Below w.heap.size w wr
  ba : At wr w.heap.size (.cells #[.int .i64 p, .int .i64 n, .int .i64 m, .int .i64 k, .slice A qs.length c] 24 (0, 0))
  bb : At wr bx (.cells #[.int .i64 p, .int .i64 n, .int .i64 m, .int .i64 k, .slice (some ⟨gx, 0, none⟩) qs.length qs.length] 30 (0, 0))
  gw : w.heap.size ≤ gx
section
variable {w wr w2 : World} {p n m k : Int} {A : Option Addr} {c : Nat} {qs : List (List Nat)} {bx gx : Nat}
theorem KL.after (h : KL w p n m k A c qs bx gx wr) (hb : Below wr.heap.size wr w2) : KL w p n m k A c qs bx gx w2 := ⟨below_after h.below hb, h.ba.after hb, h.bb.after hb, h.gw⟩
theorem KL.drew (h : KL w p n m k A c qs bx gx wr) : KL w p n m k A c qs bx gx wr.drew := ⟨h.below.drew, h.ba, h.bb, h.gw⟩
/-- Behind marks of products (any slice of products that lies above what was there at first). -/
theorem KL.grown (h : KL w p n m k A c qs bx gx wr) {lo : Nat} {v : Value} {rs : List (List Nat)} (ho : Own wr lo v rs) (hl : w.heap.size ≤ lo) (hG : wr.grownBy w2 v.ownBlock) : KL w p n m k A c qs bx gx w2 :=
  ⟨below_grown h.below hG ho hl, h.ba.grown hG (ho.off h.ba (by decide)), h.bb.grown hG (ho.off h.bb (by decide)), h.gw⟩
end
theorem KL.grownI {w wr w2 : World} {p n m k : Int} {A : Option Addr} {c : Nat} {qs : List (List Nat)} {bx gx : Nat} (h : KL w p n m k A c qs bx gx wr) {lo : Nat} {v : Value} {xs : List Int} (ho : OwnI wr lo v xs) (hl : w.heap.size ≤ lo) (hG : wr.grownBy w2 v.ownBlock) : KL w p n m k A c qs bx gx w2 :=
  ⟨below_grownI h.below hG ho hl, h.ba.grown hG (ho.off h.ba (by decide)), h.bb.grown hG (ho.off h.bb (by decide)), h.gw⟩
end Go.Proofs.Ytdcgkmfkbdhfhaa
