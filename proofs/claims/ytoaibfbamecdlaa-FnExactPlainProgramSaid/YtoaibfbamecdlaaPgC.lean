/-
  laws.heldStepS, heldOutputS, heldProgram; answers that are programs; appends of one row. (Made by mkpgc.py.)
-/
import Derived.Test.YtoaibfbamecdlaaPg1
namespace Go.Proofs.Ytoaibfbamecdlaa
open Go.RowKit
set_option maxRecDepth 100000
set_option maxHeartbeats 1600000 in
theorem heldStepS_at (g c len k : Nat) (w : World) (hc : ∀ i, i < len * 3 → w.cell? ⟨g, i, none⟩ = some (markVI k i)) (hn : len ≤ 1048576) (hk : k ≤ 2000000000) :
    Calls Try.prog 40 #[.slice (some ⟨g, 0, none⟩) len c, .int .i64 k] w fun e w' => e = .returned (.int .i64 ((k + len * 3 : Nat) : Int)) ∧ w = w' := by
  have Hc := Lib.hid hc
  clear hc
  go_enter Try.func40, Try.ntmps40
  go_wp2_with fail
  go_loop [1, 5] (fun kv i => ∃ a : Nat, a ≤ len ∧ i = .int .i64 a ∧ kv = .int .i64 ((k + a * 3 : Nat) : Int)) (fun _ i => len - (intOf i).toNat)
  case atStart => exact ⟨0, by omega, rfl, by simp⟩
  case round =>
    obtain ⟨a, ha, rfl, rfl⟩ := hrel
    by_cases hlt : a < len
    · have e0 : IntKind.i64.wrap ((a : Int) + 1) = (a : Int) + 1 := IntWalk.i64_in _ (by omega)
      have x0 : w.cell? ⟨g, a * 3, none⟩ = some (.int .i64 ((k : Int) + (a : Int) * 3)) := by have h9 := Hc.out (a * 3) (by omega); rw [h9, markVI]; congr 1
      have x1 : w.cell? ⟨g, a * 3 + 1, none⟩ = some (.int .i64 ((k : Int) + (a : Int) * 3 + 1)) := by have h9 := Hc.out (a * 3 + 1) (by omega); rw [h9, markVI]; congr 1
      have x2 : w.cell? ⟨g, a * 3 + 2, none⟩ = some (.int .i64 ((k : Int) + (a : Int) * 3 + 1 + 1)) := by have h9 := Hc.out (a * 3 + 2) (by omega); rw [h9, markVI]; congr 1
      go_wp2_with fail
      exact ⟨⟨a + 1, by omega, by go_num, by go_num⟩, by simp [intOf]; omega⟩
    · obtain rfl : a = len := by omega
      go_wp2_with fail
      go_ret
      exact ⟨rfl, rfl⟩
set_option maxHeartbeats 400000 in
theorem heldStepS_nil (A : Option Addr) (c k : Nat) (w : World) :
    Calls Try.prog 40 #[.slice A 0 c, .int .i64 k] w fun e w' => e = .returned (.int .i64 (k : Int)) ∧ w = w' := by
  go_enter Try.func40, Try.ntmps40
  go_wp2_with fail
  go_loop [1, 5] (fun kv i => i = .int .i64 0 ∧ kv = .int .i64 (k : Int)) (fun _ _ => 0)
  case atStart => exact ⟨rfl, rfl⟩
  case round =>
    obtain ⟨rfl, rfl⟩ := hrel
    go_wp2_with fail
    go_ret
    exact ⟨rfl, rfl⟩
theorem heldStepS_c {v : Value} {n : Nat} (k : Nat) (w : World) (h : Shp v n) (hh : HeldI w v k (n * 3)) (hn : n ≤ 1048576) (hk : k ≤ 2000000000) :
    Calls Try.prog 40 #[v, .int .i64 k] w fun e w' => e = .returned (.int .i64 ((k + n * 3 : Nat) : Int)) ∧ w = w' := by
  rcases h with ⟨rfl, rfl⟩ | ⟨g, c, rfl⟩
  · refine (heldStepS_nil none 0 k w).mono ?_
    rintro e w' ⟨rfl, rfl⟩
    exact ⟨by simp, rfl⟩
  · exact heldStepS_at g c n k w (hh g rfl) hn hk
theorem exec_bs1Step {o : Oper} {a : Act} {w : World} (x : Operand) (ho : o.op = .buildSlice 30 1 #[(0, x)]) (l r f : Int) (hx : a.eval x = .agg #[.int .i64 l, .int .i64 r, .int .i64 f]) :
    (execOp a.eval o).run Try.prog w = .ok (.value (.slice (some ⟨w.heap.size, 0, none⟩) 1 1)) (w.alloc (.cells #[.int .i64 l, .int .i64 r, .int .i64 f] 66 (0, 0))) := by
  obtain ⟨inf, hi0, hz, h1, h2⟩ := info_parts infoStep
  have h := run_buildSlice (P := Try.prog) w 30 66 1 #[(0, .agg #[.int .i64 l, .int .i64 r, .int .i64 f])] #[.int .i64 l, .int .i64 r, .int .i64 f] inf (.agg (iar (List.replicate 3 0))) Try.underlying30 hi0 hz (by rw [h1]; omega) (by rw [h1]; omega) (by rw [h1]; kernel_rfl)
  unfold execOp
  simp [ho, hx, h]
theorem exec_bs0Step {o : Oper} {a : Act} {w : World} (ho : o.op = .buildSlice 30 0 #[]) : (execOp a.eval o).run Try.prog w = .ok (.value (.slice (some ⟨w.heap.size, 0, none⟩) 0 0)) (w.alloc (.cells #[] 66 (0, 0))) := by
  unfold execOp
  rw [ho]
  kernel_rfl
/-- An append of one row. -/
theorem wp_appStep {o : Oper} {a : Act} {w : World} {K : Act → World → Prop} {Q : Exit → Act → World → Prop} (d : Option Tmp) (hd : o.dst = d) (s x : Operand) (ho : o.op = .call { callee := .builtin .append, args := #[s, x], argTypes := #[30, 30] })
    {lo : Nat} (sl : Value) (qs : List (List Int)) (l r f : Int) (hs : a.eval s = sl) (hown : OwnK 66 3 w lo sl qs) (g : Nat) (hx : a.eval x = .slice (some ⟨g, 0, none⟩) 1 1) (hg : At w g (.cells #[.int .i64 l, .int .i64 r, .int .i64 f] 66 (0, 0))) (hle : qs.length ≤ 1000000) (hlo : lo ≤ w.heap.size)
    (h : ∀ v' w', OwnK 66 3 w' lo v' (qs ++ [[l, r, f]]) → w.grownBy w' sl.ownBlock → K (a.put d v') w') : Oper.wp Try.prog o a w K Q := by
  obtain ⟨i0, hi, hz0, hz1, hz2⟩ := info_parts infoStep
  refine wp_append' d hd s x 30 ho lo 66 i0 (.agg (iar (List.replicate 3 0))) 3 24 Try.underlying30 hi hz0 hz1 hz2 rfl (by decide) sl _ _ hs hown.2 ⟨g, 0, none⟩ 1 1 (i64s [l, r, f]) hx (by simp [i64s]) ?_ (by intro u hu; simp [i64s] at hu; rcases hu with rfl | rfl | rfl <;> rfl) (by unfold maxLen; omega) (by omega) hlo ?_
  · intro j u hu
    rw [add_none, Nat.zero_add, hg.at_ j, ← Array.getElem?_toList]
    exact hu
  · intro v1 w8 own8 gr8 _
    refine h v1 w8 ⟨fun q hq => ?_, ?_⟩ gr8
    · rcases List.mem_append.1 hq with hq | hq
      · exact hown.1 q hq
      · simp only [List.mem_cons, List.not_mem_nil, or_false] at hq
        subst hq
        rfl
    · rw [show i64s (qs ++ [[l, r, f]]).flatten = i64s qs.flatten ++ i64s [l, r, f] by simp [i64s], List.length_append]
      exact own8
theorem own_bs0Step {w w' : World} (h : New w w' (.cells #[] 66 (0, 0))) : OwnK 66 3 w' w.heap.size (.slice (some ⟨w.heap.size, 0, none⟩) 0 0) [] :=
  ⟨by simp, by simp [i64s], .inr ⟨w.heap.size, 0, #[], rfl, Nat.le_refl _, h.at_, by simp, by simp, by simp, by simp [i64s]⟩⟩
set_option maxHeartbeats 1600000 in
theorem heldOutputS_at (g c len k : Nat) (w : World) (hc : ∀ i, i < len * 2 → w.cell? ⟨g, i, none⟩ = some (markVI k i)) (hn : len ≤ 1048576) (hk : k ≤ 2000000000) :
    Calls Try.prog 41 #[.slice (some ⟨g, 0, none⟩) len c, .int .i64 k] w fun e w' => e = .returned (.int .i64 ((k + len * 2 : Nat) : Int)) ∧ w = w' := by
  have Hc := Lib.hid hc
  clear hc
  go_enter Try.func41, Try.ntmps41
  go_wp2_with fail
  go_loop [1, 5] (fun kv i => ∃ a : Nat, a ≤ len ∧ i = .int .i64 a ∧ kv = .int .i64 ((k + a * 2 : Nat) : Int)) (fun _ i => len - (intOf i).toNat)
  case atStart => exact ⟨0, by omega, rfl, by simp⟩
  case round =>
    obtain ⟨a, ha, rfl, rfl⟩ := hrel
    by_cases hlt : a < len
    · have e0 : IntKind.i64.wrap ((a : Int) + 1) = (a : Int) + 1 := IntWalk.i64_in _ (by omega)
      have x0 : w.cell? ⟨g, a * 2, none⟩ = some (.int .i64 ((k : Int) + (a : Int) * 2)) := by have h9 := Hc.out (a * 2) (by omega); rw [h9, markVI]; congr 1
      have x1 : w.cell? ⟨g, a * 2 + 1, none⟩ = some (.int .i64 ((k : Int) + (a : Int) * 2 + 1)) := by have h9 := Hc.out (a * 2 + 1) (by omega); rw [h9, markVI]; congr 1
      go_wp2_with fail
      exact ⟨⟨a + 1, by omega, by go_num, by go_num⟩, by simp [intOf]; omega⟩
    · obtain rfl : a = len := by omega
      go_wp2_with fail
      go_ret
      exact ⟨rfl, rfl⟩
set_option maxHeartbeats 400000 in
theorem heldOutputS_nil (A : Option Addr) (c k : Nat) (w : World) :
    Calls Try.prog 41 #[.slice A 0 c, .int .i64 k] w fun e w' => e = .returned (.int .i64 (k : Int)) ∧ w = w' := by
  go_enter Try.func41, Try.ntmps41
  go_wp2_with fail
  go_loop [1, 5] (fun kv i => i = .int .i64 0 ∧ kv = .int .i64 (k : Int)) (fun _ _ => 0)
  case atStart => exact ⟨rfl, rfl⟩
  case round =>
    obtain ⟨rfl, rfl⟩ := hrel
    go_wp2_with fail
    go_ret
    exact ⟨rfl, rfl⟩
theorem heldOutputS_c {v : Value} {n : Nat} (k : Nat) (w : World) (h : Shp v n) (hh : HeldI w v k (n * 2)) (hn : n ≤ 1048576) (hk : k ≤ 2000000000) :
    Calls Try.prog 41 #[v, .int .i64 k] w fun e w' => e = .returned (.int .i64 ((k + n * 2 : Nat) : Int)) ∧ w = w' := by
  rcases h with ⟨rfl, rfl⟩ | ⟨g, c, rfl⟩
  · refine (heldOutputS_nil none 0 k w).mono ?_
    rintro e w' ⟨rfl, rfl⟩
    exact ⟨by simp, rfl⟩
  · exact heldOutputS_at g c n k w (hh g rfl) hn hk
theorem exec_bs1Output {o : Oper} {a : Act} {w : World} (x : Operand) (ho : o.op = .buildSlice 31 1 #[(0, x)]) (v f : Int) (hx : a.eval x = .agg #[.int .i64 v, .int .i64 f]) :
    (execOp a.eval o).run Try.prog w = .ok (.value (.slice (some ⟨w.heap.size, 0, none⟩) 1 1)) (w.alloc (.cells #[.int .i64 v, .int .i64 f] 68 (0, 0))) := by
  obtain ⟨inf, hi0, hz, h1, h2⟩ := info_parts infoOutput
  have h := run_buildSlice (P := Try.prog) w 31 68 1 #[(0, .agg #[.int .i64 v, .int .i64 f])] #[.int .i64 v, .int .i64 f] inf (.agg (iar (List.replicate 2 0))) Try.underlying31 hi0 hz (by rw [h1]; omega) (by rw [h1]; omega) (by rw [h1]; kernel_rfl)
  unfold execOp
  simp [ho, hx, h]
theorem exec_bs0Output {o : Oper} {a : Act} {w : World} (ho : o.op = .buildSlice 31 0 #[]) : (execOp a.eval o).run Try.prog w = .ok (.value (.slice (some ⟨w.heap.size, 0, none⟩) 0 0)) (w.alloc (.cells #[] 68 (0, 0))) := by
  unfold execOp
  rw [ho]
  kernel_rfl
/-- An append of one row. -/
theorem wp_appOutput {o : Oper} {a : Act} {w : World} {K : Act → World → Prop} {Q : Exit → Act → World → Prop} (d : Option Tmp) (hd : o.dst = d) (s x : Operand) (ho : o.op = .call { callee := .builtin .append, args := #[s, x], argTypes := #[31, 31] })
    {lo : Nat} (sl : Value) (qs : List (List Int)) (v f : Int) (hs : a.eval s = sl) (hown : OwnK 68 2 w lo sl qs) (g : Nat) (hx : a.eval x = .slice (some ⟨g, 0, none⟩) 1 1) (hg : At w g (.cells #[.int .i64 v, .int .i64 f] 68 (0, 0))) (hle : qs.length ≤ 1000000) (hlo : lo ≤ w.heap.size)
    (h : ∀ v' w', OwnK 68 2 w' lo v' (qs ++ [[v, f]]) → w.grownBy w' sl.ownBlock → K (a.put d v') w') : Oper.wp Try.prog o a w K Q := by
  obtain ⟨i0, hi, hz0, hz1, hz2⟩ := info_parts infoOutput
  refine wp_append' d hd s x 31 ho lo 68 i0 (.agg (iar (List.replicate 2 0))) 2 16 Try.underlying31 hi hz0 hz1 hz2 rfl (by decide) sl _ _ hs hown.2 ⟨g, 0, none⟩ 1 1 (i64s [v, f]) hx (by simp [i64s]) ?_ (by intro u hu; simp [i64s] at hu; rcases hu with rfl | rfl <;> rfl) (by unfold maxLen; omega) (by omega) hlo ?_
  · intro j u hu
    rw [add_none, Nat.zero_add, hg.at_ j, ← Array.getElem?_toList]
    exact hu
  · intro v1 w8 own8 gr8 _
    refine h v1 w8 ⟨fun q hq => ?_, ?_⟩ gr8
    · rcases List.mem_append.1 hq with hq | hq
      · exact hown.1 q hq
      · simp only [List.mem_cons, List.not_mem_nil, or_false] at hq
        subst hq
        rfl
    · rw [show i64s (qs ++ [[v, f]]).flatten = i64s qs.flatten ++ i64s [v, f] by simp [i64s], List.length_append]
      exact own8
theorem own_bs0Output {w w' : World} (h : New w w' (.cells #[] 68 (0, 0))) : OwnK 68 2 w' w.heap.size (.slice (some ⟨w.heap.size, 0, none⟩) 0 0) [] :=
  ⟨by simp, by simp [i64s], .inr ⟨w.heap.size, 0, #[], rfl, Nat.le_refl _, h.at_, by simp, by simp, by simp, by simp [i64s]⟩⟩
set_option maxHeartbeats 800000 in
theorem heldProgram_1 (p n : Int) {v u : Value} {N M : Nat} (w : World) (s1 : Shp v N) (s2 : Shp u M) (hh : HeldI w v 1 (N * 3)) (hh2 : HeldI w u (1 + N * 3) (M * 2)) (hn : N ≤ 1048576) (hm : M ≤ 1048576) :
    Calls Try.prog 21 #[.agg #[.int .i64 p, .int .i64 n, v, u], .int .i64 1] w
      fun e w' => e = .returned (.int .i64 ((1 + N * 3 + M * 2 : Nat) : Int)) ∧ Below w.heap.size w w' := by
  have b1 : Below w.heap.size w (w.alloc (.cells #[.int .i64 p, .int .i64 n, v, u] 33 (0, 0))) := below1 _ _
  have h1 := hh.below b1
  have h2 := hh2.below b1
  have e1 : ¬ ((1 : Int) + (N : Int) * 3) < 0 := by omega
  have e2 : ¬ ((1 : Int) + (N : Int) * 3 + (M : Int) * 2) < 0 := by omega
  go_enter Try.func21, Try.ntmps21
  go_wp2_with fail
  refine (heldStepS_c 1 _ s1 h1 hn (by omega)).mono ?_
  rintro e w1 ⟨rfl, rfl⟩
  go_wp2_with fail
  refine (heldOutputS_c (1 + N * 3) _ s2 h2 hm (by omega)).mono ?_
  rintro e w1 ⟨rfl, rfl⟩
  go_wp2_with fail
  go_ret
  exact ⟨rfl, below1 _ _⟩
/-- The call answers this program, its steps and outputs in memory of its own, and this code. -/
def ResG (w : World) (p n : Int) (ss os : List (List Int)) (code : Int) (e : Ending) (w' : World) : Prop :=
  ∃ v u, e = .returned (.tuple #[.agg #[.int .i64 p, .int .i64 n, v, u], .int .i64 code]) ∧ OwnK 66 3 w' w.heap.size v ss ∧ OwnK 68 2 w' w.heap.size u os ∧ Below w.heap.size w w'
theorem exec_alloc_program {o : Oper} {a : Act} {w : World} (ho : o.op = .alloc 33) : (execOp a.eval o).run Try.prog w = .ok (.value (.pointer (some ⟨w.heap.size, 0, none⟩))) (w.alloc (.cells #[.int .i64 0, .int .i64 0, .slice none 0 0, .slice none 0 0] 33 (0, 0))) := by
  unfold execOp
  rw [ho]
  kernel_rfl
theorem one4G (p n : Int) (A : Option Addr) (l c : Nat) (B : Option Addr) (m d : Nat) : ∀ v ∈ (#[.int .i64 p, .int .i64 n, .slice A l c, .slice B m d] : Array Value).toList, v.oneCell' = true := by
  intro x hx
  simp at hx
  rcases hx with rfl | rfl | rfl | rfl <;> rfl
end Go.Proofs.Ytoaibfbamecdlaa
