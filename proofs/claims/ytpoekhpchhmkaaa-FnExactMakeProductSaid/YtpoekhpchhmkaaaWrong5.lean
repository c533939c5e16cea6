/-
  impl.CountWrong.
-/
import Derived.Test.YtpoekhpchhmkaaaWrong4
namespace Go.Proofs.Ytpoekhpchhmkaaa
open Go.RowKit
set_option maxRecDepth 100000
structure KC (w : World) (p n m k : Int) (A : Option Addr) (len cap g : Nat) (wr : World) : Prop where
  below : Below w.heap.size w wr
  box : At wr w.heap.size (.cells #[.int .i64 p, .int .i64 n, .int .i64 m, .int .i64 k, .slice A len cap] 31 (0, 0))
  shp : At wr g (.cells #[.int .i64 n, .int .i64 m, .int .i64 m, .int .i64 k, .int .i64 n, .int .i64 k] 72 (0, 0))
section
variable {w wr w2 : World} {p n m k : Int} {A : Option Addr} {len cap g : Nat}
theorem KC.after (h : KC w p n m k A len cap g wr) (hb : Below wr.heap.size wr w2) : KC w p n m k A len cap g w2 := ⟨below_after h.below hb, h.box.after hb, h.shp.after hb⟩
theorem KC.drew (h : KC w p n m k A len cap g wr) : KC w p n m k A len cap g wr.drew := ⟨h.below.drew, h.box, h.shp⟩
theorem KC.c0 (h : KC w p n m k A len cap g wr) : wr.cell? ⟨w.heap.size, 0, none⟩ = some (.int .i64 p) := h.box.at_ 0
theorem KC.c1 (h : KC w p n m k A len cap g wr) : wr.cell? ⟨w.heap.size, 1, none⟩ = some (.int .i64 n) := h.box.at_ 1
theorem KC.c2 (h : KC w p n m k A len cap g wr) : wr.cell? ⟨w.heap.size, 2, none⟩ = some (.int .i64 m) := h.box.at_ 2
theorem KC.c3 (h : KC w p n m k A len cap g wr) : wr.cell? ⟨w.heap.size, 3, none⟩ = some (.int .i64 k) := h.box.at_ 3
theorem KC.c4 (h : KC w p n m k A len cap g wr) : wr.cell? ⟨w.heap.size, 4, none⟩ = some (.slice A len cap) := h.box.at_ 4
end
end Go.Proofs.Ytpoekhpchhmkaaa
