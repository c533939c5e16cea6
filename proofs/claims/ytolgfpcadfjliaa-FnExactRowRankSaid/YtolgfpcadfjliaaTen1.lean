/-
  laws.toTensor, szTensor, eqTensor, markTensor, heldTensor; a tensor that came in, read as data.
-/
import Derived.Test.YtolgfpcadfjliaaMat1
namespace Go.Proofs.Ytolgfpcadfjliaa
open Go.RowKit
set_option maxRecDepth 100000
abbrev TC (p i j k : Int) (A : Option Addr) (len c : Nat) : Array Value := #[.int .i64 p, .int .i64 i, .int .i64 j, .int .i64 k, .slice A len c]
/-- The returned tensor has new numbers. -/
def NewTen (w : World) (p i j k : Int) (xs : List Int) (e : Ending) (w' : World) : Prop :=
  ∃ g : Nat, e = .returned (.agg #[.int .i64 p, .int .i64 i, .int .i64 j, .int .i64 k, .slice (some ⟨g, 0, none⟩) xs.length xs.length]) ∧ w.heap.size ≤ g ∧ At w' g (.cells (iar xs) 2 (0, 0)) ∧ Below w.heap.size w w'
set_option maxHeartbeats 400000 in
theorem toTensor_c (p i j k : Int) (A : Option Addr) (c : Nat) (xs : List Int) (w : World) (hr : RdI w A xs) (hn : xs.length ≤ 1048576) :
    Calls Try.prog 8 #[.agg #[.int .i64 p, .int .i64 i, .int .i64 j, .int .i64 k, .slice A xs.length c]] w (NewTen w p i j k xs) := by
  go_enter Try.func8, Try.ntmps8
  go_wp2_with fail
  refine (toInt64S_c A c xs _ (hr.keep (below3 _ _ _ _)) hn).mono ?_
  rintro e w1 ⟨g, rfl, hg, hA, b1⟩
  have h1 := At.after (al3_1 _ _ _ _) b1
  have h2 := At.after (al3_2 _ _ _ _) b1
  have hB := below_after (below3 _ _ _ _) b1
  rw [size_al3] at hg
  clear b1
  have c4 : w1.cell? ⟨w.heap.size + 1 + 1, 4, none⟩ = some (.slice none 0 0) := h2.at_ 4
  have f4 := h2.free 4
  have p2 := Put.cell (i := 4) h2 (.slice (some ⟨g, 0, none⟩) xs.length xs.length)
  have h1' := p2.other h1 (by omega)
  have h2' := p2.at_
  have hA' := p2.other hA (by omega)
  have hB' := p2.below hB (by omega)
  clear p2 h1 h2
  go_wp2_with (first | (refine wpList_load_all rfl 29 _ rfl (w.heap.size + 1 + 1) rfl _ _ _ h2' Try.underlying29 rfl 5 (by kernel_rfl) rfl ?_) | (refine wpList_store_all rfl 29 _ _ rfl rfl (w.heap.size + 1) rfl _ rfl _ _ h1' 5 (by kernel_rfl) rfl rfl (by simp [Value.oneCell']) ?_; intro w2 p2))
  refine bodyPost_ret (results_at rfl _ _ (w.heap.size + 1) _ _ _ rfl p2.at_ Try.underlying29 rfl 5 (by kernel_rfl) rfl) rfl ?_
  exact ⟨g, rfl, by omega, p2.other hA' (by omega), p2.below hB' (by omega)⟩
theorem szTensor_e (p i j k : Int) (A : Option Addr) (len c : Nat) (l : Int) (w : World) (h0 : 0 ≤ l) (hn : len ≤ 9223372036854775807) (hl : l ≤ 1048576) :
    Calls Try.prog 6 #[.agg #[.int .i64 p, .int .i64 i, .int .i64 j, .int .i64 k, .slice A len c], .int .i64 l] w fun e w' => ∃ r, e = .returned (.int .i64 r) ∧ SzN len l r ∧ Below w.heap.size w w' := by
  by_cases h : l < len
  · have h1 := fun w => szInt64S_c A len c l w h0 hn hl
    simp only [if_pos h] at h1
    go_enter Try.func6, Try.ntmps6
    go_wp2_with fail
    refine (h1 _).mono ?_
    rintro e w1 ⟨rfl, rfl⟩
    go_wp2_with fail
    go_ret
    exact ⟨-1, rfl, .inl rfl, below1 _ _⟩
  · have h1 := fun w => szInt64S_c A len c l w h0 hn hl
    simp only [if_neg h] at h1
    have h2 : ¬ l - len < 0 := by omega
    go_enter Try.func6, Try.ntmps6
    go_wp2_with fail
    refine (h1 _).mono ?_
    rintro e w1 ⟨rfl, rfl⟩
    go_wp2_with fail
    go_ret
    exact ⟨l - len, rfl, .inr ⟨by omega, by omega⟩, below1 _ _⟩
set_option maxHeartbeats 800000 in
theorem eqTensor_c (p i j k : Int) (A B : Option Addr) (c d : Nat) (xs : List Int) (w : World) (ha : RdI w A xs) (hb : RdI w B xs) (hn : xs.length ≤ 9000000000000000000) :
    Calls Try.prog 11 #[.agg #[.int .i64 p, .int .i64 i, .int .i64 j, .int .i64 k, .slice A xs.length c], .agg #[.int .i64 p, .int .i64 i, .int .i64 j, .int .i64 k, .slice B xs.length d]] w fun e w' => e = .returned (.bool true) ∧ Below w.heap.size w w' := by
  have b0 : (p != p) = false := by simp
  have b1 : (i != i) = false := by simp
  have b2 : (j != j) = false := by simp
  have b3 : (k != k) = false := by simp
  go_enter Try.func11, Try.ntmps11
  go_wp2_with fail
  refine (eqInt64S_c A B c d xs _ (ha.keep (below2 _ _ _)) (hb.keep (below2 _ _ _)) hn).mono ?_
  rintro e w1 ⟨rfl, h1⟩
  go_wp2_with fail
  go_ret
  exact ⟨rfl, below_after (below2 _ _ _) h1⟩
theorem markTensor_2 (p i j k : Int) {lo : Nat} {v : Value} {xs : List Int} (K : Nat) (kk : Int) (w : World) (hk' : kk = (K : Int)) (h : OwnI w lo v xs) (hn : xs.length ≤ 1048576) (hk : K ≤ 1000000000) :
    Calls Try.prog 12 #[.agg #[.int .i64 p, .int .i64 i, .int .i64 j, .int .i64 k, v], .int .i64 kk] w fun e w' => e = .returned (.int .i64 ((K + xs.length : Nat) : Int)) ∧ w.grownBy w' v.ownBlock ∧ HeldI w' v K xs.length := by
  subst hk'
  go_enter Try.func12, Try.ntmps12
  go_wp2_with fail
  refine (markOwnI_c K _ (h.below (below1 _ _)) hn (by omega)).mono ?_
  rintro e w1 ⟨rfl, hG, hH⟩
  go_wp2_with fail
  go_ret
  exact ⟨rfl, grown_trans (World.grownBy_alloc _ _ _) hG, hH⟩
/-- The call answers this tensor, its numbers in memory of its own, and this code. -/
def ResT (w : World) (p i j k : Int) (xs : List Int) (code : Int) (e : Ending) (w' : World) : Prop :=
  ∃ v, e = .returned (.tuple #[.agg #[.int .i64 p, .int .i64 i, .int .i64 j, .int .i64 k, v], .int .i64 code]) ∧ OwnI w' w.heap.size v xs ∧ Below w.heap.size w w'
theorem exec_alloc_tensor {o : Oper} {a : Act} {w : World} (ho : o.op = .alloc 29) : (execOp a.eval o).run Try.prog w = .ok (.value (.pointer (some ⟨w.heap.size, 0, none⟩))) (w.alloc (.cells #[.int .i64 0, .int .i64 0, .int .i64 0, .int .i64 0, .slice none 0 0] 29 (0, 0))) := by
  unfold execOp
  rw [ho]
  kernel_rfl
theorem OwnI.put {w w' : World} {lo g : Nat} {v : Value} {xs : List Int} {o : Obj} (h : OwnI w lo v xs) (hp : Put w w' g o) (hne : some g ≠ v.ownBlock) : OwnI w' lo v xs := by
  refine ⟨h.1, ?_⟩
  rcases h.2 with hn | ⟨g2, cap, cur, rfl, hb, hgg, rest⟩
  · exact .inl hn
  · exact .inr ⟨g2, cap, cur, rfl, hb, hp.other (k := g2) hgg (fun e => hne (by simp [Value.ownBlock, e])), rest⟩
theorem HeldI.put {w w' : World} {v : Value} {k n g : Nat} {o : Obj} (h : HeldI w v k n) (hp : Put w w' g o) (hne : some g ≠ v.ownBlock) : HeldI w' v k n := fun g' hg i hi => by
  have hc := h g' hg i hi
  have hlt := block_lt_of_cell hc
  have hat : At w g' (w.heap[g']) := Array.getElem?_eq_getElem hlt
  have hat' := hp.other hat (fun e => hne (by rw [← e, hg]))
  rw [World.cell?_of_block (a := ⟨g', i, none⟩) (w := w) (show w'.heap[g']? = w.heap[g']? by rw [hat', hat])]
  exact hc
end Go.Proofs.Ytolgfpcadfjliaa
