/-
  Methods as arguments and answers: laws.toMethod, szMethod, eqMethod, markMethod, heldMethod. (Made by mkmth.py.)
-/
import Derived.Test.YtopdfblfhdooaaaMat1
namespace Go.Proofs.Ytopdfblfhdooaaa
open Go.RowKit
set_option maxRecDepth 100000
/-- The returned scheme has new products. -/
def NewMethod (w : World) (p n m k : Int) (qs : List (List Nat)) (e : Ending) (w' : World) : Prop :=
  ∃ g : Nat, e = .returned (.agg #[.int .i64 p, .int .i64 n, .int .i64 m, .int .i64 k, .slice (some ⟨g, 0, none⟩) qs.length qs.length]) ∧ w.heap.size ≤ g ∧ At w' g (.cells (u8s qs.flatten) 53 (0, 0)) ∧ Below w.heap.size w w'
set_option maxHeartbeats 400000 in
theorem toMethod_c (p n m k : Int) (A : Option Addr) (c : Nat) (qs : List (List Nat)) (w : World) (hr : Rd w A qs) (hn : qs.length ≤ 1048576) :
    Calls Try.prog 8 #[.agg #[.int .i64 p, .int .i64 n, .int .i64 m, .int .i64 k, .slice A qs.length c]] w (NewMethod w p n m k qs) := by
  go_enter Try.func8, Try.ntmps8
  go_wp2_with fail
  refine (toProductS_c A c qs _ (hr.keep (below3 _ _ _ _)) hn).mono ?_
  rintro e w1 ⟨g, rfl, hg, hA, b1⟩
  have h1 := At.after (al3_1 _ _ _ _) b1
  have h2 := At.after (al3_2 _ _ _ _) b1
  have hB := below_after (below3 _ _ _ _) b1
  rw [size_al3] at hg
  clear b1
  have c4 : w1.cell? ⟨w.heap.size + 1 + 1, 4, none⟩ = some (.slice none 0 0) := h2.at_ 4
  have f4 := h2.free 4
  have p2 := Put.cell (i := 4) h2 (.slice (some ⟨g, 0, none⟩) qs.length qs.length)
  have h1' := p2.other h1 (by omega)
  have h2' := p2.at_
  have hA' := p2.other hA (by omega)
  have hB' := p2.below hB (by omega)
  clear p2 h1 h2
  go_wp2_with (first | (refine wpList_load_all rfl 28 _ rfl (w.heap.size + 1 + 1) rfl _ _ _ h2' Try.underlying28 rfl 5 (by kernel_rfl) rfl ?_) | (refine wpList_store_all rfl 28 _ _ rfl rfl (w.heap.size + 1) rfl _ rfl _ _ h1' 5 (by kernel_rfl) rfl rfl (by simp [Value.oneCell']) ?_; intro w2 p2))
  refine bodyPost_ret (results_at rfl _ _ (w.heap.size + 1) _ _ _ rfl p2.at_ Try.underlying28 rfl 5 (by kernel_rfl) rfl) rfl ?_
  exact ⟨g, rfl, by omega, p2.other hA' (by omega), p2.below hB' (by omega)⟩
theorem szMethod_c (p n m k : Int) (A : Option Addr) (len c : Nat) (l : Int) (w : World) (h0 : 0 ≤ l) (hn : len ≤ 9223372036854775807) (hl : l ≤ 1048576) :
    Calls Try.prog 6 #[.agg #[.int .i64 p, .int .i64 n, .int .i64 m, .int .i64 k, .slice A len c], .int .i64 l] w fun e w' => e = .returned (.int .i64 (if l < len then -1 else l - len)) ∧ Below w.heap.size w w' := by
  by_cases h : l < len
  · have h1 := szProductS_c A len c l
    simp only [if_pos h] at h1
    go_enter Try.func6, Try.ntmps6
    go_wp2_with (go_at_call 22; refine (h1 _ h0 hn hl).mono ?_; rintro e w' ⟨rfl, rfl⟩)
    go_ret
    exact ⟨by simp, below1 _ _⟩
  · have h1 := szProductS_c A len c l
    simp only [if_neg h] at h1
    have h2 : ¬ l - len < 0 := by omega
    go_enter Try.func6, Try.ntmps6
    go_wp2_with (go_at_call 22; refine (h1 _ h0 hn hl).mono ?_; rintro e w' ⟨rfl, rfl⟩)
    go_ret
    exact ⟨by simp, below1 _ _⟩
set_option maxHeartbeats 400000 in
set_option maxRecDepth 100000 in
theorem eqMethod_c (p n m k : Int) (A B : Option Addr) (c d : Nat) (qs : List (List Nat)) (w : World) (hq : Rd w A qs) (hr : Rd w B qs) (hn : qs.length ≤ 9000000000000000000) :
    Calls Try.prog 10 #[.agg #[.int .i64 p, .int .i64 n, .int .i64 m, .int .i64 k, .slice A qs.length c], .agg #[.int .i64 p, .int .i64 n, .int .i64 m, .int .i64 k, .slice B qs.length d]] w
      fun e w' => e = .returned (.bool true) ∧ Below w.heap.size w w' := by
  go_enter Try.func10, Try.ntmps10
  go_wp2_with fail
  refine (eqProductS_c A B c d qs qs _ (hq.keep (below2 _ _ _)) (hr.keep (below2 _ _ _)) hn).mono ?_
  rintro e w1 ⟨rfl, b1⟩
  have hB := below_after (below2 _ _ _) b1
  have hb : (qs == qs) = true := by simp
  go_wp2_with fail
  go_ret
  exact ⟨rfl, hB⟩
theorem markMethod_c (p n m k : Int) {lo : Nat} {v : Value} {qs : List (List Nat)} (K : Nat) (w : World) (h : Own w lo v qs) (hn : qs.length ≤ 1048576) (hk : K ≤ 2000000000) :
    Calls Try.prog 11 #[.agg #[.int .i64 p, .int .i64 n, .int .i64 m, .int .i64 k, v], .int .i64 K] w
      fun e w' => e = .returned (.int .i64 ((K + qs.length * 27 : Nat) : Int)) ∧ w.grownBy w' v.ownBlock ∧ Held w' v K qs.length := by
  go_enter Try.func11, Try.ntmps11
  go_wp2_with fail
  refine (markOwn_c K _ (h.below (below1 _ _)) hn hk).mono ?_
  rintro e w1 ⟨rfl, hG, hH⟩
  go_wp2_with fail
  go_ret
  exact ⟨rfl, grown_trans (World.grownBy_alloc _ _ _) hG, hH⟩
theorem heldMethod_c (p n m k : Int) {v : Value} {N : Nat} (K : Nat) (w : World) (h : Shp v N) (hh : Held w v K N) (hn : N ≤ 1048576) (hk : K ≤ 2000000000) :
    Calls Try.prog 12 #[.agg #[.int .i64 p, .int .i64 n, .int .i64 m, .int .i64 k, v], .int .i64 K] w
      fun e w' => e = .returned (.int .i64 ((K + N * 27 : Nat) : Int)) ∧ Below w.heap.size w w' := by
  have hh' : Held (w.alloc (.cells #[.int .i64 p, .int .i64 n, .int .i64 m, .int .i64 k, v] 28 (0, 0))) v K N := fun g hg i hi => by
    have := hh g hg i hi
    rw [(below1 w _).cell (p := ⟨g, i, none⟩) (block_lt_of_cell this)]
    exact this
  go_enter Try.func12, Try.ntmps12
  go_wp2_with fail
  refine (heldOwn_c K _ h hh' hn hk).mono ?_
  rintro e w1 ⟨rfl, rfl⟩
  go_wp2_with fail
  go_ret
  exact ⟨rfl, below1 _ _⟩
theorem markMethod_1 (p n m k : Int) {lo : Nat} {v : Value} {qs : List (List Nat)} (w : World) (h : Own w lo v qs) (hn : qs.length ≤ 1048576) :
    Calls Try.prog 11 #[.agg #[.int .i64 p, .int .i64 n, .int .i64 m, .int .i64 k, v], .int .i64 1] w
      fun e w' => e = .returned (.int .i64 ((1 + qs.length * 27 : Nat) : Int)) ∧ w.grownBy w' v.ownBlock ∧ Held w' v 1 qs.length := markMethod_c p n m k 1 w h hn (by omega)
theorem heldMethod_1 (p n m k : Int) {v : Value} {N : Nat} (w : World) (h : Shp v N) (hh : Held w v 1 N) (hn : N ≤ 1048576) :
    Calls Try.prog 12 #[.agg #[.int .i64 p, .int .i64 n, .int .i64 m, .int .i64 k, v], .int .i64 1] w
      fun e w' => e = .returned (.int .i64 ((1 + N * 27 : Nat) : Int)) ∧ Below w.heap.size w w' := heldMethod_c p n m k 1 w h hh hn (by omega)
/-- The call answers this scheme, its products in memory of its own, and this code. -/
def ResH (w : World) (p n m k : Int) (qs : List (List Nat)) (code : Int) (e : Ending) (w' : World) : Prop :=
  ∃ v, e = .returned (.tuple #[.agg #[.int .i64 p, .int .i64 n, .int .i64 m, .int .i64 k, v], .int .i64 code]) ∧ Own w' w.heap.size v qs ∧ Below w.heap.size w w'
theorem exec_alloc_method {o : Oper} {a : Act} {w : World} (ho : o.op = .alloc 28) : (execOp a.eval o).run Try.prog w = .ok (.value (.pointer (some ⟨w.heap.size, 0, none⟩))) (w.alloc (.cells #[.int .i64 0, .int .i64 0, .int .i64 0, .int .i64 0, .slice none 0 0] 28 (0, 0))) := by
  unfold execOp
  rw [ho]
  kernel_rfl
theorem szMethod_e (p n m k : Int) (A : Option Addr) (len c : Nat) (l : Int) (w : World) (h0 : 0 ≤ l) (hn : len ≤ 9223372036854775807) (hl : l ≤ 1048576) :
    Calls Try.prog 6 #[.agg #[.int .i64 p, .int .i64 n, .int .i64 m, .int .i64 k, .slice A len c], .int .i64 l] w fun e w' => ∃ r, e = .returned (.int .i64 r) ∧ SzN len l r ∧ Below w.heap.size w w' := by
  refine (szMethod_c p n m k A len c l w h0 hn hl).mono ?_
  rintro e w' ⟨rfl, hb⟩
  refine ⟨_, rfl, ?_, hb⟩
  by_cases h : l < len
  · rw [if_pos h]; exact .inl rfl
  · rw [if_neg h]; exact .inr ⟨by omega, by omega⟩
theorem markMethod_2 (p n m k : Int) {lo : Nat} {v : Value} {qs : List (List Nat)} (K : Nat) (kk : Int) (w : World) (hk' : kk = (K : Int)) (h : Own w lo v qs) (hn : qs.length ≤ 1048576) (hk : K ≤ 1000000000) :
    Calls Try.prog 11 #[.agg #[.int .i64 p, .int .i64 n, .int .i64 m, .int .i64 k, v], .int .i64 kk] w
      fun e w' => e = .returned (.int .i64 ((K + qs.length * 27 : Nat) : Int)) ∧ w.grownBy w' v.ownBlock ∧ Held w' v K qs.length := by
  subst hk'
  exact markMethod_c p n m k K w h hn (by omega)
end Go.Proofs.Ytopdfblfhdooaaa
