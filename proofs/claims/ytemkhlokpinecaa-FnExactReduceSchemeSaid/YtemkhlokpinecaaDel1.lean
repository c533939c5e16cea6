/-
  impl.hasZero; clear of products; slices.IndexFunc at []impl.Product with impl.hasZero.
-/
import Derived.Test.YtemkhlokpinecaaHas
namespace Go.Proofs.Ytemkhlokpinecaa
open Go.RowKit
set_option maxRecDepth 100000
set_option maxHeartbeats 800000 in
theorem hasZero_c (q : List Nat) (hq : Bytes 27 q) (w : World) :
    Calls Try.prog 63 #[.agg (u8s q)] w fun e w' => e = .returned (.bool (!nzB q)) ∧ Below w.heap.size w w' := by
  have HC := Lib.hid (conF_zero q)
  go_enter Try.func63, Try.ntmps63
  go_wp2_with (refine wpList_load_all rfl 53 _ rfl w.heap.size rfl _ _ _ (al1_0 _ _) Try.underlying53 rfl 27 (by kernel_rfl) ((u8s_size _).trans hq.len) ?_)
  refine (factorsOf_c q hq _).mono ?_
  rintro e w1 ⟨rfl, b1⟩
  have hB := below_after (below1 w _) b1
  clear b1
  have hl := hB.size
  go_wp2_with (first | (refine wpList_abs1 ?_; intro W2 hsz2 hB2 s2; replace s2 : At W2 w1.heap.size (.cells (u8s (List.replicate 27 0)) 122 (0, 0)) := s2; replace hB := below_after hB hB2) | (refine wpList_store_u8s rfl 122 _ _ rfl rfl w1.heap.size 0 rfl q rfl _ _ s2 27 (by kernel_rfl) hq.len (by simp) ?_; intro W3 p3))
  have s3 := p3.at_
  rw [over_all (by rw [hq.len]; simp)] at s3
  replace hB := p3.below hB (by omega)
  refine (containsForm_c w1.heap.size q (List.replicate 9 0) _ _ hq (Bytes.zeros 9) s3).mono ?_
  rintro e w4 ⟨rfl, b4⟩
  rw [HC.out]
  replace hB := below_after hB b4
  go_wp2_with fail
  go_ret
  exact ⟨rfl, hB⟩
/-! ### Parts of a slice of products -/
theorem elemPs : Try.prog.underlying 26 = some (.slice (Try.prog.elem 26)) := by kernel_rfl
theorem sizePs (w : World) : (sizeOf (Try.prog.elem 26)).run Try.prog w = .ok 27 w := by kernel_rfl
theorem exec_sl_hi {o : Oper} {a : Act} {w : World} (x y : Operand) (ho : o.op = .slice 26 x none (some y) none) (g N C i : Nat) (hi : i ≤ C) (hx : a.eval x = .slice (some ⟨g, 0, none⟩) N C) (hy : a.eval y = .int .i64 (i : Int)) :
    (execOp a.eval o).run Try.prog w = .ok (.value (.slice (some ⟨g, 0, none⟩) i C)) w := by
  have h := run_slice_h (P := Try.prog) (w := w) 26 (some ⟨g, 0, none⟩) N C elemPs .i64 (i : Int) (by omega) (by omega)
  rw [sizePs] at h
  unfold execOp
  simp only [ho, Option.map_some, Option.map_none, hx, hy, Instr.sliceAt, Sem.run_bind, run_underlying elemPs, Result.andThen_ok, h]
  simp [sliced, add_none]
theorem exec_sl_lo {o : Oper} {a : Act} {w : World} (x y : Operand) (ho : o.op = .slice 26 x (some y) none none) (g N C l : Nat) (hl : l ≤ N) (hC : l < C) (hx : a.eval x = .slice (some ⟨g, 0, none⟩) N C) (hy : a.eval y = .int .i64 (l : Int)) :
    (execOp a.eval o).run Try.prog w = .ok (.value (.slice (some ⟨g, l * 27, none⟩) (N - l) (C - l))) w := by
  have h := run_slice_l (P := Try.prog) (w := w) 26 (some ⟨g, 0, none⟩) N C elemPs .i64 (l : Int) (by omega) (by omega)
  rw [sizePs] at h
  unfold execOp
  simp only [ho, Option.map_some, Option.map_none, hx, hy, Instr.sliceAt, Sem.run_bind, run_underlying elemPs, Result.andThen_ok, h]
  have e : ¬ C = l := by omega
  simp [sliced, e, add_none]
/-! ### clear -/
theorem zeroProd (w : World) : (zeroValue 53).run Try.prog w = .ok (.agg (u8s (List.replicate 27 0))) w := by kernel_rfl
theorem zeroCells_get (m : Nat) : ∀ v ∈ (Builtin.zeroCells (u8s (List.replicate 27 0)) m).toList, v.oneCell' = true := by
  intro v hv
  simp only [Builtin.zeroCells, Array.toList_map, List.mem_map] at hv
  obtain ⟨i, _, rfl⟩ := hv
  have hs : (u8s (List.replicate 27 0)).size = 27 := by rw [u8s_size]; simp
  have hi : i % (u8s (List.replicate 27 0)).size < (u8s (List.replicate 27 0)).size := by rw [hs]; exact Nat.mod_lt _ (by omega)
  rw [getElem!_pos (u8s (List.replicate 27 0)) _ hi]
  exact u8s_one _ _ (by rw [Array.mem_toList_iff]; exact Array.getElem_mem hi)
theorem zeroCells_size (m : Nat) : (Builtin.zeroCells (u8s (List.replicate 27 0)) m).size = m * 27 := by
  simp [Builtin.zeroCells, u8s_size]
theorem run_clear_prod (w : World) (g off m c : Nat) (ty t : TypeId) (cs : Array Value) (hg : w.heap[g]? = some (.cells cs t (0, 0))) (hm : 0 < m) (hle : off + m * 27 ≤ cs.size) :
    ∃ vs : Array Value, vs.size = m * 27 ∧ (Builtin.clear_ #[26] ty #[.slice (some ⟨g, off, none⟩) m c]).run Try.prog w = .ok (.tuple #[]) (w.setRow g (splice cs off vs)) := by
  refine ⟨Builtin.zeroCells (u8s (List.replicate 27 0)) m, zeroCells_size m, ?_⟩
  have hst := run_storeCells_at Try.prog g off t (Builtin.zeroCells (u8s (List.replicate 27 0)) m).toList 0 cs w hg (by rw [Array.length_toList, zeroCells_size]; simpa using hle) (zeroCells_get m)
  simp only [Nat.add_zero, Array.length_toList] at hst
  obtain ⟨m', rfl⟩ : ∃ m', m = m' + 1 := ⟨m - 1, by omega⟩
  have hu : Try.prog.underlying 26 = some (.slice 53) := Try.underlying26
  have hz : (Value.agg (u8s (List.replicate 27 0))).cells = u8s (List.replicate 27 0) := rfl
  unfold Builtin.clear_
  simp only [Sem.run_bind, run_underlying hu, Result.andThen_ok]
  simp only [List.getElem?_toArray, List.getElem?_cons_zero, Sem.run_bind, run_underlying hu, Result.andThen_ok, zeroProd, hz, hst, Sem.run_pure, splice]
end Go.Proofs.Ytemkhlokpinecaa
