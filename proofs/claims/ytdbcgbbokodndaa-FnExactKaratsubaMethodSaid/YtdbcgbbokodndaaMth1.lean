/-
  Methods as arguments and answers: laws.toMethod, szMethod, eqMethod, markMethod, heldMethod. (Made by mkmth.py.)
-/
import Derived.Test.YtdbcgbbokodndaaMat1
namespace Go.Proofs.Ytdbcgbbokodndaa
open Go.RowKit
set_option maxRecDepth 100000
/-- The returned scheme has new products. -/
def NewMethod (w : World) (p n m k : Int) (qs : List (List Nat)) (e : Ending) (w' : World) : Prop :=
  ∃ g : Nat, e = .returned (.agg #[.int .i64 p, .int .i64 n, .int .i64 m, .int .i64 k, .slice (some ⟨g, 0, none⟩) qs.length qs.length]) ∧ w.heap.size ≤ g ∧ At w' g (.cells (u8s qs.flatten) 54 (0, 0)) ∧ Below w.heap.size w w'
set_option maxHeartbeats 400000 in
set_option maxRecDepth 100000 in
theorem eqMethod_c (p n m k : Int) (A B : Option Addr) (c d : Nat) (qs : List (List Nat)) (w : World) (hq : Rd w A qs) (hr : Rd w B qs) (hn : qs.length ≤ 9000000000000000000) :
    Calls Try.prog 12 #[.agg #[.int .i64 p, .int .i64 n, .int .i64 m, .int .i64 k, .slice A qs.length c], .agg #[.int .i64 p, .int .i64 n, .int .i64 m, .int .i64 k, .slice B qs.length d]] w
      fun e w' => e = .returned (.bool true) ∧ Below w.heap.size w w' := by
  go_enter Try.func12, Try.ntmps12
  go_wp2_with fail
  refine (eqProductS_c A B c d qs qs _ (hq.keep (below2 _ _ _)) (hr.keep (below2 _ _ _)) hn).mono ?_
  rintro e w1 ⟨rfl, b1⟩
  have hB := below_after (below2 _ _ _) b1
  have hb : (qs == qs) = true := by simp
  go_wp2_with fail
  go_ret
  exact ⟨rfl, hB⟩
theorem markMethod_c (p n m k : Int) {lo : Nat} {v : Value} {qs : List (List Nat)} (K : Nat) (w : World) (h : Own w lo v qs) (hn : qs.length ≤ 1048576) (hk : K ≤ 2000000000) :
    Calls Try.prog 15 #[.agg #[.int .i64 p, .int .i64 n, .int .i64 m, .int .i64 k, v], .int .i64 K] w
      fun e w' => e = .returned (.int .i64 ((K + qs.length * 27 : Nat) : Int)) ∧ w.grownBy w' v.ownBlock ∧ Held w' v K qs.length := by
  go_enter Try.func15, Try.ntmps15
  go_wp2_with fail
  refine (markOwn_c K _ (h.below (below1 _ _)) hn hk).mono ?_
  rintro e w1 ⟨rfl, hG, hH⟩
  go_wp2_with fail
  go_ret
  exact ⟨rfl, grown_trans (World.grownBy_alloc _ _ _) hG, hH⟩
theorem heldMethod_c (p n m k : Int) {v : Value} {N : Nat} (K : Nat) (w : World) (h : Shp v N) (hh : Held w v K N) (hn : N ≤ 1048576) (hk : K ≤ 2000000000) :
    Calls Try.prog 16 #[.agg #[.int .i64 p, .int .i64 n, .int .i64 m, .int .i64 k, v], .int .i64 K] w
      fun e w' => e = .returned (.int .i64 ((K + N * 27 : Nat) : Int)) ∧ Below w.heap.size w w' := by
  have hh' : Held (w.alloc (.cells #[.int .i64 p, .int .i64 n, .int .i64 m, .int .i64 k, v] 28 (0, 0))) v K N := fun g hg i hi => by
    have := hh g hg i hi
    rw [(below1 w _).cell (p := ⟨g, i, none⟩) (block_lt_of_cell this)]
    exact this
  go_enter Try.func16, Try.ntmps16
  go_wp2_with fail
  refine (heldOwn_c K _ h hh' hn hk).mono ?_
  rintro e w1 ⟨rfl, rfl⟩
  go_wp2_with fail
  go_ret
  exact ⟨rfl, below1 _ _⟩
theorem markMethod_1 (p n m k : Int) {lo : Nat} {v : Value} {qs : List (List Nat)} (w : World) (h : Own w lo v qs) (hn : qs.length ≤ 1048576) :
    Calls Try.prog 15 #[.agg #[.int .i64 p, .int .i64 n, .int .i64 m, .int .i64 k, v], .int .i64 1] w
      fun e w' => e = .returned (.int .i64 ((1 + qs.length * 27 : Nat) : Int)) ∧ w.grownBy w' v.ownBlock ∧ Held w' v 1 qs.length := markMethod_c p n m k 1 w h hn (by omega)
theorem heldMethod_1 (p n m k : Int) {v : Value} {N : Nat} (w : World) (h : Shp v N) (hh : Held w v 1 N) (hn : N ≤ 1048576) :
    Calls Try.prog 16 #[.agg #[.int .i64 p, .int .i64 n, .int .i64 m, .int .i64 k, v], .int .i64 1] w
      fun e w' => e = .returned (.int .i64 ((1 + N * 27 : Nat) : Int)) ∧ Below w.heap.size w w' := heldMethod_c p n m k 1 w h hh hn (by omega)
/-- The call answers this scheme, its products in memory of its own, and this code. -/
def ResH (w : World) (p n m k : Int) (qs : List (List Nat)) (code : Int) (e : Ending) (w' : World) : Prop :=
  ∃ v, e = .returned (.tuple #[.agg #[.int .i64 p, .int .i64 n, .int .i64 m, .int .i64 k, v], .int .i64 code]) ∧ Own w' w.heap.size v qs ∧ Below w.heap.size w w'
theorem exec_alloc_method {o : Oper} {a : Act} {w : World} (ho : o.op = .alloc 28) : (execOp a.eval o).run Try.prog w = .ok (.value (.pointer (some ⟨w.heap.size, 0, none⟩))) (w.alloc (.cells #[.int .i64 0, .int .i64 0, .int .i64 0, .int .i64 0, .slice none 0 0] 28 (0, 0))) := by
  unfold execOp
  rw [ho]
  kernel_rfl
theorem markMethod_2 (p n m k : Int) {lo : Nat} {v : Value} {qs : List (List Nat)} (K : Nat) (kk : Int) (w : World) (hk' : kk = (K : Int)) (h : Own w lo v qs) (hn : qs.length ≤ 1048576) (hk : K ≤ 1000000000) :
    Calls Try.prog 15 #[.agg #[.int .i64 p, .int .i64 n, .int .i64 m, .int .i64 k, v], .int .i64 kk] w
      fun e w' => e = .returned (.int .i64 ((K + qs.length * 27 : Nat) : Int)) ∧ w.grownBy w' v.ownBlock ∧ Held w' v K qs.length := by
  subst hk'
  exact markMethod_c p n m k K w h hn (by omega)
end Go.Proofs.Ytdbcgbbokodndaa
