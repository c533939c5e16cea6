/-
  impl.joinedSizes. (Made by mkjn4.py.)
-/
import Derived.Test.YtelicajipilhjaaMo4
import Derived.Test.YtelicajipilhjaaHeldZ
namespace Go.Proofs.Ytelicajipilhjaa
open Go.RowKit
set_option maxRecDepth 100000
theorem results_at22 {P : Program} {fn : Func} {p q : Tmp} {ty : TypeId} (h : fn.results = #[.cell p ty, .cell q ty]) (tmps : Array Value) (w : World) (g g' : Nat) (t : TypeId) (cs cs' : Array Value) (d : TypeDesc)
    (hp : tmps.getD p undef = .pointer (some ⟨g, 0, none⟩)) (hq : tmps.getD q undef = .pointer (some ⟨g', 0, none⟩)) (hg : At w g (.cells cs t (0, 0))) (hg' : At w g' (.cells cs' t (0, 0)))
    (hu : P.underlying ty = some d) (hd : (match d with | .struct _ | .array _ _ => true | _ => false) = true) (n : Nat) (hi : (P.info? ty).map (·.size) = some n) (hn : cs.size = n) (hn' : cs'.size = n) :
    (results fn tmps).run P w = .ok (.tuple #[.agg cs, .agg cs']) w := by
  have hp' : tmps[p]?.getD undef = .pointer (some ⟨g, 0, none⟩) := by simpa using hp
  have hq' : tmps[q]?.getD undef = .pointer (some ⟨g', 0, none⟩) := by simpa using hq
  simp [results, h, hp', hq', asAddr, run_loadVar_row w g t ty cs (0, 0) d hg hu hd (by rw [hn]; exact hi), run_loadVar_row w g' t ty cs' (0, 0) d hg' hu hd (by rw [hn']; exact hi)]
theorem one3 (a b c : Int) : ∀ v ∈ (#[.int .i64 a, .int .i64 b, .int .i64 c] : Array Value).toList, v.oneCell' = true := by
  intro x hx
  simp at hx
  rcases hx with rfl | rfl | rfl <;> rfl
set_option maxHeartbeats 1600000 in
theorem joinedSizes_0 (n m k n' m' k' s : Int) (w : World) (hs : IntKind.i64.wrap (n + n') = s) :
    Calls Try.prog 44 #[.agg #[.int .i64 n, .int .i64 m, .int .i64 k], .agg #[.int .i64 n', .int .i64 m', .int .i64 k'], .int .i64 0] w fun e w' => e = .returned (.tuple #[.agg #[.int .i64 s, .int .i64 m, .int .i64 k], .agg #[.int .i64 n, .int .i64 0, .int .i64 0]]) ∧ Below w.heap.size w w' := by
  have HS := Lib.hid hs
  clear hs
  go_enter Try.func44, Try.ntmps44
  go_wp2_with (first | (refine wpList_abs5 ?_; intro W hsz hB h0 h1 h2 h3 h4; have k0 : W.cell? ⟨w.heap.size, 0, none⟩ = some (.int .i64 n) := h0.at_ 0) | (refine wpList_store_one rfl 2 _ _ rfl rfl (w.heap.size + 1 + 1 + 1 + 1) 0 rfl (.int .i64 n) rfl rfl rfl _ _ h4 (by kernel_rfl) (by simp) ?_; intro W2 p2; replace hB := p2.below hB (by omega); replace h0 := p2.other h0 (by omega); replace h1 := p2.other h1 (by omega); replace h2 := p2.other h2 (by omega); replace h3 := p2.other h3 (by omega); replace h4 : At W2 (w.heap.size + 1 + 1 + 1 + 1) (.cells #[.int .i64 n, .int .i64 0, .int .i64 0] 53 (0, 0)) := p2.at_; clear p2))
  refine wp_region_z (z := 8) (S := fun w' => At w' w.heap.size (.cells #[.int .i64 n, .int .i64 m, .int .i64 k] 53 (0, 0)) ∧ At w' (w.heap.size + 1) (.cells #[.int .i64 n', .int .i64 m', .int .i64 k'] 53 (0, 0))) (by kernel_rfl) ?_
  change wpAnyZ _ _ _ _ _ _ _ _ _ (World.drew _)
  generalize hwda0 : World.drew _ = wda0
  replace hB : Below w.heap.size w wda0 := by rw [← hwda0]; exact hB.drew
  replace h0 : At wda0 w.heap.size (.cells #[.int .i64 n, .int .i64 m, .int .i64 k] 53 (0, 0)) := by rw [← hwda0]; exact h0
  replace h1 : At wda0 (w.heap.size + 1) (.cells #[.int .i64 n', .int .i64 m', .int .i64 k'] 53 (0, 0)) := by rw [← hwda0]; exact h1
  replace h2 : At wda0 (w.heap.size + 1 + 1) (.cells #[.int .i64 0, .int .i64 0, .int .i64 0] 53 (0, 0)) := by rw [← hwda0]; exact h2
  replace h3 : At wda0 (w.heap.size + 1 + 1 + 1) (.cells #[.int .i64 0, .int .i64 0, .int .i64 0] 53 (0, 0)) := by rw [← hwda0]; exact h3
  replace h4 : At wda0 (w.heap.size + 1 + 1 + 1 + 1) (.cells #[.int .i64 n, .int .i64 0, .int .i64 0] 53 (0, 0)) := by rw [← hwda0]; exact h4
  clear hwda0
  refine z_yield 0 (some 14) (.int .i64 0) rfl (by kernel_rfl) (by kernel_rfl) (by kernel_rfl) (by kernel_rfl) (fun _ _ _ h => h) rfl rfl ⟨h0, h1⟩ (fun w' h' => exec_move _ rfl (.int .i64 0) rfl) ?_
  go_frame
  refine z_yield 1 (some 15) (.pointer (some ⟨w.heap.size, 0, none⟩)) rfl (by kernel_rfl) (by kernel_rfl) (by kernel_rfl) (by kernel_rfl) (fun _ _ _ h => h) rfl rfl ⟨h0, h1⟩ (fun w' h' => exec_index_arr _ 2 _ _ rfl (w.heap.size) 0 3 0 1 rfl rfl Try.underlying53 (by kernel_rfl) (by omega)) ?_
  go_frame
  refine z_yield 2 (some 16) (.int .i64 n) rfl (by kernel_rfl) (by kernel_rfl) (by kernel_rfl) (by kernel_rfl) (fun _ _ _ h => h) rfl rfl ⟨h0, h1⟩ (fun w' h' => exec_load_one 2 _ rfl w.heap.size 0 rfl _ _ Try.underlying2 rfl (h'.1.at_ 0)) ?_
  go_frame
  refine z_yield 3 (some 17) (.int .i64 0) rfl (by kernel_rfl) (by kernel_rfl) (by kernel_rfl) (by kernel_rfl) (fun _ _ _ h => h) rfl rfl ⟨h0, h1⟩ (fun w' h' => exec_move _ rfl (.int .i64 0) rfl) ?_
  go_frame
  refine z_yield 4 (some 18) (.pointer (some ⟨w.heap.size + 1, 0, none⟩)) rfl (by kernel_rfl) (by kernel_rfl) (by kernel_rfl) (by kernel_rfl) (fun _ _ _ h => h) rfl rfl ⟨h0, h1⟩ (fun w' h' => exec_index_arr _ 2 _ _ rfl (w.heap.size + 1) 0 3 0 1 rfl rfl Try.underlying53 (by kernel_rfl) (by omega)) ?_
  go_frame
  refine z_yield 5 (some 19) (.int .i64 n') rfl (by kernel_rfl) (by kernel_rfl) (by kernel_rfl) (by kernel_rfl) (fun _ _ _ h => h) rfl rfl ⟨h0, h1⟩ (fun w' h' => exec_load_one 2 _ rfl (w.heap.size + 1) 0 rfl _ _ Try.underlying2 rfl (h'.2.at_ 0)) ?_
  go_frame
  refine z_yield 6 (some 20) (.int .i64 s) rfl (by kernel_rfl) (by kernel_rfl) (by kernel_rfl) (by kernel_rfl) (fun _ _ _ h => h) rfl rfl ⟨h0, h1⟩ (fun w' h' => exec_add _ _ _ _ rfl n n' s rfl rfl HS.out) ?_
  go_frame
  refine z_yield 7 (some 21) (.pointer (some ⟨w.heap.size, 0, none⟩)) rfl (by kernel_rfl) (by kernel_rfl) (by kernel_rfl) (by kernel_rfl) (fun _ _ _ h => h) rfl rfl ⟨h0, h1⟩ (fun w' h' => exec_index_arr _ 2 _ _ rfl (w.heap.size) 0 3 0 1 rfl rfl Try.underlying53 (by kernel_rfl) (by omega)) ?_
  go_frame
  refine z_oper 8 (by kernel_rfl) rfl rfl (fun K' hK' => ?_)
  refine wp_store_one 2 _ _ rfl rfl w.heap.size 0 rfl (.int .i64 s) rfl rfl rfl _ _ h0 (by kernel_rfl) (by simp) (fun wsa01 pa02 => ?_)
  replace hB := pa02.below hB (by omega)
  replace h1 := pa02.other h1 (by omega)
  replace h2 := pa02.other h2 (by omega)
  replace h3 := pa02.other h3 (by omega)
  replace h4 := pa02.other h4 (by omega)
  replace h0 : At wsa01 w.heap.size (.cells #[.int .i64 s, .int .i64 m, .int .i64 k] 53 (0, 0)) := pa02.at_
  clear pa02
  refine hK' _ _ (fun h => absurd rfl h) ?_
  clear hK' K'
  refine z_done (by kernel_rfl) ?_ _
  go_wp2_with fail
  refine wp_region_held (S := fun w' => At w' w.heap.size (.cells #[.int .i64 s, .int .i64 m, .int .i64 k] 53 (0, 0)) ∧ At w' (w.heap.size + 1 + 1 + 1 + 1) (.cells #[.int .i64 n, .int .i64 0, .int .i64 0] 53 (0, 0))) (by kernel_rfl) ?_
  change wpAnyH _ _ _ _ _ _ _ _ (World.drew _)
  generalize hwdb0 : World.drew _ = wdb0
  replace hB : Below w.heap.size w wdb0 := by rw [← hwdb0]; exact hB.drew
  replace h0 : At wdb0 w.heap.size (.cells #[.int .i64 s, .int .i64 m, .int .i64 k] 53 (0, 0)) := by rw [← hwdb0]; exact h0
  replace h1 : At wdb0 (w.heap.size + 1) (.cells #[.int .i64 n', .int .i64 m', .int .i64 k'] 53 (0, 0)) := by rw [← hwdb0]; exact h1
  replace h2 : At wdb0 (w.heap.size + 1 + 1) (.cells #[.int .i64 0, .int .i64 0, .int .i64 0] 53 (0, 0)) := by rw [← hwdb0]; exact h2
  replace h3 : At wdb0 (w.heap.size + 1 + 1 + 1) (.cells #[.int .i64 0, .int .i64 0, .int .i64 0] 53 (0, 0)) := by rw [← hwdb0]; exact h3
  replace h4 : At wdb0 (w.heap.size + 1 + 1 + 1 + 1) (.cells #[.int .i64 n, .int .i64 0, .int .i64 0] 53 (0, 0)) := by rw [← hwdb0]; exact h4
  clear hwdb0
  refine held_yield 0 (some 22) (.agg #[.int .i64 s, .int .i64 m, .int .i64 k]) rfl (by kernel_rfl) (by kernel_rfl) (by kernel_rfl) (fun _ _ _ h => h) rfl rfl ⟨h0, h4⟩ (fun w' h' => exec_load_all 53 _ rfl w.heap.size rfl _ _ _ h'.1 Try.underlying53 rfl 3 (by kernel_rfl) rfl) ?_
  go_frame
  refine held_yield 1 (some 23) (.agg #[.int .i64 n, .int .i64 0, .int .i64 0]) rfl (by kernel_rfl) (by kernel_rfl) (by kernel_rfl) (fun _ _ _ h => h) rfl rfl ⟨h0, h4⟩ (fun w' h' => exec_load_all 53 _ rfl (w.heap.size + 1 + 1 + 1 + 1) rfl _ _ _ h'.2 Try.underlying53 rfl 3 (by kernel_rfl) rfl) ?_
  go_frame
  refine held_oper 2 (by kernel_rfl) rfl rfl (fun K' hK' => ?_)
  refine wp_store_all 53 _ _ rfl rfl (w.heap.size + 1 + 1) rfl _ rfl _ _ h2 3 (by kernel_rfl) rfl rfl (one3 _ _ _) (fun wsb01 pb02 => ?_)
  replace hB := pb02.below hB (by omega)
  replace h0 := pb02.other h0 (by omega)
  replace h1 := pb02.other h1 (by omega)
  replace h3 := pb02.other h3 (by omega)
  replace h4 := pb02.other h4 (by omega)
  replace h2 := pb02.at_
  clear pb02
  refine hK' _ _ ⟨h0, h4⟩ ?_
  clear hK' K'
  refine held_oper 3 (by kernel_rfl) rfl rfl (fun K' hK' => ?_)
  refine wp_store_all 53 _ _ rfl rfl (w.heap.size + 1 + 1 + 1) rfl _ rfl _ _ h3 3 (by kernel_rfl) rfl rfl (one3 _ _ _) (fun wsb03 pb04 => ?_)
  replace hB := pb04.below hB (by omega)
  replace h0 := pb04.other h0 (by omega)
  replace h1 := pb04.other h1 (by omega)
  replace h2 := pb04.other h2 (by omega)
  replace h4 := pb04.other h4 (by omega)
  replace h3 := pb04.at_
  clear pb04
  refine hK' _ _ ⟨h0, h4⟩ ?_
  clear hK' K'
  refine wpAnyH_done (by kernel_rfl) ?_ _
  go_wp2_with fail
  refine bodyPost_ret (results_at22 rfl _ _ (w.heap.size + 1 + 1) (w.heap.size + 1 + 1 + 1) _ _ _ _ rfl rfl h2 h3 Try.underlying53 rfl 3 (by kernel_rfl) rfl rfl) rfl ?_
  exact ⟨rfl, hB⟩
set_option maxHeartbeats 1600000 in
theorem joinedSizes_1 (n m k n' m' k' s : Int) (w : World) (hs : IntKind.i64.wrap (m + m') = s) :
    Calls Try.prog 44 #[.agg #[.int .i64 n, .int .i64 m, .int .i64 k], .agg #[.int .i64 n', .int .i64 m', .int .i64 k'], .int .i64 1] w fun e w' => e = .returned (.tuple #[.agg #[.int .i64 n, .int .i64 s, .int .i64 k], .agg #[.int .i64 0, .int .i64 m, .int .i64 0]]) ∧ Below w.heap.size w w' := by
  have HS := Lib.hid hs
  clear hs
  go_enter Try.func44, Try.ntmps44
  go_wp2_with (first | (refine wpList_abs5 ?_; intro W hsz hB h0 h1 h2 h3 h4; have k0 : W.cell? ⟨w.heap.size, 1, none⟩ = some (.int .i64 m) := h0.at_ 1) | (refine wpList_store_one rfl 2 _ _ rfl rfl (w.heap.size + 1 + 1 + 1 + 1) 1 rfl (.int .i64 m) rfl rfl rfl _ _ h4 (by kernel_rfl) (by simp) ?_; intro W2 p2; replace hB := p2.below hB (by omega); replace h0 := p2.other h0 (by omega); replace h1 := p2.other h1 (by omega); replace h2 := p2.other h2 (by omega); replace h3 := p2.other h3 (by omega); replace h4 : At W2 (w.heap.size + 1 + 1 + 1 + 1) (.cells #[.int .i64 0, .int .i64 m, .int .i64 0] 53 (0, 0)) := p2.at_; clear p2))
  refine wp_region_z (z := 8) (S := fun w' => At w' w.heap.size (.cells #[.int .i64 n, .int .i64 m, .int .i64 k] 53 (0, 0)) ∧ At w' (w.heap.size + 1) (.cells #[.int .i64 n', .int .i64 m', .int .i64 k'] 53 (0, 0))) (by kernel_rfl) ?_
  change wpAnyZ _ _ _ _ _ _ _ _ _ (World.drew _)
  generalize hwda1 : World.drew _ = wda1
  replace hB : Below w.heap.size w wda1 := by rw [← hwda1]; exact hB.drew
  replace h0 : At wda1 w.heap.size (.cells #[.int .i64 n, .int .i64 m, .int .i64 k] 53 (0, 0)) := by rw [← hwda1]; exact h0
  replace h1 : At wda1 (w.heap.size + 1) (.cells #[.int .i64 n', .int .i64 m', .int .i64 k'] 53 (0, 0)) := by rw [← hwda1]; exact h1
  replace h2 : At wda1 (w.heap.size + 1 + 1) (.cells #[.int .i64 0, .int .i64 0, .int .i64 0] 53 (0, 0)) := by rw [← hwda1]; exact h2
  replace h3 : At wda1 (w.heap.size + 1 + 1 + 1) (.cells #[.int .i64 0, .int .i64 0, .int .i64 0] 53 (0, 0)) := by rw [← hwda1]; exact h3
  replace h4 : At wda1 (w.heap.size + 1 + 1 + 1 + 1) (.cells #[.int .i64 0, .int .i64 m, .int .i64 0] 53 (0, 0)) := by rw [← hwda1]; exact h4
  clear hwda1
  refine z_yield 0 (some 14) (.int .i64 1) rfl (by kernel_rfl) (by kernel_rfl) (by kernel_rfl) (by kernel_rfl) (fun _ _ _ h => h) rfl rfl ⟨h0, h1⟩ (fun w' h' => exec_move _ rfl (.int .i64 1) rfl) ?_
  go_frame
  refine z_yield 1 (some 15) (.pointer (some ⟨w.heap.size, 1, none⟩)) rfl (by kernel_rfl) (by kernel_rfl) (by kernel_rfl) (by kernel_rfl) (fun _ _ _ h => h) rfl rfl ⟨h0, h1⟩ (fun w' h' => exec_index_arr _ 2 _ _ rfl (w.heap.size) 0 3 1 1 rfl rfl Try.underlying53 (by kernel_rfl) (by omega)) ?_
  go_frame
  refine z_yield 2 (some 16) (.int .i64 m) rfl (by kernel_rfl) (by kernel_rfl) (by kernel_rfl) (by kernel_rfl) (fun _ _ _ h => h) rfl rfl ⟨h0, h1⟩ (fun w' h' => exec_load_one 2 _ rfl w.heap.size 1 rfl _ _ Try.underlying2 rfl (h'.1.at_ 1)) ?_
  go_frame
  refine z_yield 3 (some 17) (.int .i64 1) rfl (by kernel_rfl) (by kernel_rfl) (by kernel_rfl) (by kernel_rfl) (fun _ _ _ h => h) rfl rfl ⟨h0, h1⟩ (fun w' h' => exec_move _ rfl (.int .i64 1) rfl) ?_
  go_frame
  refine z_yield 4 (some 18) (.pointer (some ⟨w.heap.size + 1, 1, none⟩)) rfl (by kernel_rfl) (by kernel_rfl) (by kernel_rfl) (by kernel_rfl) (fun _ _ _ h => h) rfl rfl ⟨h0, h1⟩ (fun w' h' => exec_index_arr _ 2 _ _ rfl (w.heap.size + 1) 0 3 1 1 rfl rfl Try.underlying53 (by kernel_rfl) (by omega)) ?_
  go_frame
  refine z_yield 5 (some 19) (.int .i64 m') rfl (by kernel_rfl) (by kernel_rfl) (by kernel_rfl) (by kernel_rfl) (fun _ _ _ h => h) rfl rfl ⟨h0, h1⟩ (fun w' h' => exec_load_one 2 _ rfl (w.heap.size + 1) 1 rfl _ _ Try.underlying2 rfl (h'.2.at_ 1)) ?_
  go_frame
  refine z_yield 6 (some 20) (.int .i64 s) rfl (by kernel_rfl) (by kernel_rfl) (by kernel_rfl) (by kernel_rfl) (fun _ _ _ h => h) rfl rfl ⟨h0, h1⟩ (fun w' h' => exec_add _ _ _ _ rfl m m' s rfl rfl HS.out) ?_
  go_frame
  refine z_yield 7 (some 21) (.pointer (some ⟨w.heap.size, 1, none⟩)) rfl (by kernel_rfl) (by kernel_rfl) (by kernel_rfl) (by kernel_rfl) (fun _ _ _ h => h) rfl rfl ⟨h0, h1⟩ (fun w' h' => exec_index_arr _ 2 _ _ rfl (w.heap.size) 0 3 1 1 rfl rfl Try.underlying53 (by kernel_rfl) (by omega)) ?_
  go_frame
  refine z_oper 8 (by kernel_rfl) rfl rfl (fun K' hK' => ?_)
  refine wp_store_one 2 _ _ rfl rfl w.heap.size 1 rfl (.int .i64 s) rfl rfl rfl _ _ h0 (by kernel_rfl) (by simp) (fun wsa11 pa12 => ?_)
  replace hB := pa12.below hB (by omega)
  replace h1 := pa12.other h1 (by omega)
  replace h2 := pa12.other h2 (by omega)
  replace h3 := pa12.other h3 (by omega)
  replace h4 := pa12.other h4 (by omega)
  replace h0 : At wsa11 w.heap.size (.cells #[.int .i64 n, .int .i64 s, .int .i64 k] 53 (0, 0)) := pa12.at_
  clear pa12
  refine hK' _ _ (fun h => absurd rfl h) ?_
  clear hK' K'
  refine z_done (by kernel_rfl) ?_ _
  go_wp2_with fail
  refine wp_region_held (S := fun w' => At w' w.heap.size (.cells #[.int .i64 n, .int .i64 s, .int .i64 k] 53 (0, 0)) ∧ At w' (w.heap.size + 1 + 1 + 1 + 1) (.cells #[.int .i64 0, .int .i64 m, .int .i64 0] 53 (0, 0))) (by kernel_rfl) ?_
  change wpAnyH _ _ _ _ _ _ _ _ (World.drew _)
  generalize hwdb1 : World.drew _ = wdb1
  replace hB : Below w.heap.size w wdb1 := by rw [← hwdb1]; exact hB.drew
  replace h0 : At wdb1 w.heap.size (.cells #[.int .i64 n, .int .i64 s, .int .i64 k] 53 (0, 0)) := by rw [← hwdb1]; exact h0
  replace h1 : At wdb1 (w.heap.size + 1) (.cells #[.int .i64 n', .int .i64 m', .int .i64 k'] 53 (0, 0)) := by rw [← hwdb1]; exact h1
  replace h2 : At wdb1 (w.heap.size + 1 + 1) (.cells #[.int .i64 0, .int .i64 0, .int .i64 0] 53 (0, 0)) := by rw [← hwdb1]; exact h2
  replace h3 : At wdb1 (w.heap.size + 1 + 1 + 1) (.cells #[.int .i64 0, .int .i64 0, .int .i64 0] 53 (0, 0)) := by rw [← hwdb1]; exact h3
  replace h4 : At wdb1 (w.heap.size + 1 + 1 + 1 + 1) (.cells #[.int .i64 0, .int .i64 m, .int .i64 0] 53 (0, 0)) := by rw [← hwdb1]; exact h4
  clear hwdb1
  refine held_yield 0 (some 22) (.agg #[.int .i64 n, .int .i64 s, .int .i64 k]) rfl (by kernel_rfl) (by kernel_rfl) (by kernel_rfl) (fun _ _ _ h => h) rfl rfl ⟨h0, h4⟩ (fun w' h' => exec_load_all 53 _ rfl w.heap.size rfl _ _ _ h'.1 Try.underlying53 rfl 3 (by kernel_rfl) rfl) ?_
  go_frame
  refine held_yield 1 (some 23) (.agg #[.int .i64 0, .int .i64 m, .int .i64 0]) rfl (by kernel_rfl) (by kernel_rfl) (by kernel_rfl) (fun _ _ _ h => h) rfl rfl ⟨h0, h4⟩ (fun w' h' => exec_load_all 53 _ rfl (w.heap.size + 1 + 1 + 1 + 1) rfl _ _ _ h'.2 Try.underlying53 rfl 3 (by kernel_rfl) rfl) ?_
  go_frame
  refine held_oper 2 (by kernel_rfl) rfl rfl (fun K' hK' => ?_)
  refine wp_store_all 53 _ _ rfl rfl (w.heap.size + 1 + 1) rfl _ rfl _ _ h2 3 (by kernel_rfl) rfl rfl (one3 _ _ _) (fun wsb11 pb12 => ?_)
  replace hB := pb12.below hB (by omega)
  replace h0 := pb12.other h0 (by omega)
  replace h1 := pb12.other h1 (by omega)
  replace h3 := pb12.other h3 (by omega)
  replace h4 := pb12.other h4 (by omega)
  replace h2 := pb12.at_
  clear pb12
  refine hK' _ _ ⟨h0, h4⟩ ?_
  clear hK' K'
  refine held_oper 3 (by kernel_rfl) rfl rfl (fun K' hK' => ?_)
  refine wp_store_all 53 _ _ rfl rfl (w.heap.size + 1 + 1 + 1) rfl _ rfl _ _ h3 3 (by kernel_rfl) rfl rfl (one3 _ _ _) (fun wsb13 pb14 => ?_)
  replace hB := pb14.below hB (by omega)
  replace h0 := pb14.other h0 (by omega)
  replace h1 := pb14.other h1 (by omega)
  replace h2 := pb14.other h2 (by omega)
  replace h4 := pb14.other h4 (by omega)
  replace h3 := pb14.at_
  clear pb14
  refine hK' _ _ ⟨h0, h4⟩ ?_
  clear hK' K'
  refine wpAnyH_done (by kernel_rfl) ?_ _
  go_wp2_with fail
  refine bodyPost_ret (results_at22 rfl _ _ (w.heap.size + 1 + 1) (w.heap.size + 1 + 1 + 1) _ _ _ _ rfl rfl h2 h3 Try.underlying53 rfl 3 (by kernel_rfl) rfl rfl) rfl ?_
  exact ⟨rfl, hB⟩
set_option maxHeartbeats 1600000 in
theorem joinedSizes_2 (n m k n' m' k' s : Int) (w : World) (hs : IntKind.i64.wrap (k + k') = s) :
    Calls Try.prog 44 #[.agg #[.int .i64 n, .int .i64 m, .int .i64 k], .agg #[.int .i64 n', .int .i64 m', .int .i64 k'], .int .i64 2] w fun e w' => e = .returned (.tuple #[.agg #[.int .i64 n, .int .i64 m, .int .i64 s], .agg #[.int .i64 0, .int .i64 0, .int .i64 k]]) ∧ Below w.heap.size w w' := by
  have HS := Lib.hid hs
  clear hs
  go_enter Try.func44, Try.ntmps44
  go_wp2_with (first | (refine wpList_abs5 ?_; intro W hsz hB h0 h1 h2 h3 h4; have k0 : W.cell? ⟨w.heap.size, 2, none⟩ = some (.int .i64 k) := h0.at_ 2) | (refine wpList_store_one rfl 2 _ _ rfl rfl (w.heap.size + 1 + 1 + 1 + 1) 2 rfl (.int .i64 k) rfl rfl rfl _ _ h4 (by kernel_rfl) (by simp) ?_; intro W2 p2; replace hB := p2.below hB (by omega); replace h0 := p2.other h0 (by omega); replace h1 := p2.other h1 (by omega); replace h2 := p2.other h2 (by omega); replace h3 := p2.other h3 (by omega); replace h4 : At W2 (w.heap.size + 1 + 1 + 1 + 1) (.cells #[.int .i64 0, .int .i64 0, .int .i64 k] 53 (0, 0)) := p2.at_; clear p2))
  refine wp_region_z (z := 8) (S := fun w' => At w' w.heap.size (.cells #[.int .i64 n, .int .i64 m, .int .i64 k] 53 (0, 0)) ∧ At w' (w.heap.size + 1) (.cells #[.int .i64 n', .int .i64 m', .int .i64 k'] 53 (0, 0))) (by kernel_rfl) ?_
  change wpAnyZ _ _ _ _ _ _ _ _ _ (World.drew _)
  generalize hwda2 : World.drew _ = wda2
  replace hB : Below w.heap.size w wda2 := by rw [← hwda2]; exact hB.drew
  replace h0 : At wda2 w.heap.size (.cells #[.int .i64 n, .int .i64 m, .int .i64 k] 53 (0, 0)) := by rw [← hwda2]; exact h0
  replace h1 : At wda2 (w.heap.size + 1) (.cells #[.int .i64 n', .int .i64 m', .int .i64 k'] 53 (0, 0)) := by rw [← hwda2]; exact h1
  replace h2 : At wda2 (w.heap.size + 1 + 1) (.cells #[.int .i64 0, .int .i64 0, .int .i64 0] 53 (0, 0)) := by rw [← hwda2]; exact h2
  replace h3 : At wda2 (w.heap.size + 1 + 1 + 1) (.cells #[.int .i64 0, .int .i64 0, .int .i64 0] 53 (0, 0)) := by rw [← hwda2]; exact h3
  replace h4 : At wda2 (w.heap.size + 1 + 1 + 1 + 1) (.cells #[.int .i64 0, .int .i64 0, .int .i64 k] 53 (0, 0)) := by rw [← hwda2]; exact h4
  clear hwda2
  refine z_yield 0 (some 14) (.int .i64 2) rfl (by kernel_rfl) (by kernel_rfl) (by kernel_rfl) (by kernel_rfl) (fun _ _ _ h => h) rfl rfl ⟨h0, h1⟩ (fun w' h' => exec_move _ rfl (.int .i64 2) rfl) ?_
  go_frame
  refine z_yield 1 (some 15) (.pointer (some ⟨w.heap.size, 2, none⟩)) rfl (by kernel_rfl) (by kernel_rfl) (by kernel_rfl) (by kernel_rfl) (fun _ _ _ h => h) rfl rfl ⟨h0, h1⟩ (fun w' h' => exec_index_arr _ 2 _ _ rfl (w.heap.size) 0 3 2 1 rfl rfl Try.underlying53 (by kernel_rfl) (by omega)) ?_
  go_frame
  refine z_yield 2 (some 16) (.int .i64 k) rfl (by kernel_rfl) (by kernel_rfl) (by kernel_rfl) (by kernel_rfl) (fun _ _ _ h => h) rfl rfl ⟨h0, h1⟩ (fun w' h' => exec_load_one 2 _ rfl w.heap.size 2 rfl _ _ Try.underlying2 rfl (h'.1.at_ 2)) ?_
  go_frame
  refine z_yield 3 (some 17) (.int .i64 2) rfl (by kernel_rfl) (by kernel_rfl) (by kernel_rfl) (by kernel_rfl) (fun _ _ _ h => h) rfl rfl ⟨h0, h1⟩ (fun w' h' => exec_move _ rfl (.int .i64 2) rfl) ?_
  go_frame
  refine z_yield 4 (some 18) (.pointer (some ⟨w.heap.size + 1, 2, none⟩)) rfl (by kernel_rfl) (by kernel_rfl) (by kernel_rfl) (by kernel_rfl) (fun _ _ _ h => h) rfl rfl ⟨h0, h1⟩ (fun w' h' => exec_index_arr _ 2 _ _ rfl (w.heap.size + 1) 0 3 2 1 rfl rfl Try.underlying53 (by kernel_rfl) (by omega)) ?_
  go_frame
  refine z_yield 5 (some 19) (.int .i64 k') rfl (by kernel_rfl) (by kernel_rfl) (by kernel_rfl) (by kernel_rfl) (fun _ _ _ h => h) rfl rfl ⟨h0, h1⟩ (fun w' h' => exec_load_one 2 _ rfl (w.heap.size + 1) 2 rfl _ _ Try.underlying2 rfl (h'.2.at_ 2)) ?_
  go_frame
  refine z_yield 6 (some 20) (.int .i64 s) rfl (by kernel_rfl) (by kernel_rfl) (by kernel_rfl) (by kernel_rfl) (fun _ _ _ h => h) rfl rfl ⟨h0, h1⟩ (fun w' h' => exec_add _ _ _ _ rfl k k' s rfl rfl HS.out) ?_
  go_frame
  refine z_yield 7 (some 21) (.pointer (some ⟨w.heap.size, 2, none⟩)) rfl (by kernel_rfl) (by kernel_rfl) (by kernel_rfl) (by kernel_rfl) (fun _ _ _ h => h) rfl rfl ⟨h0, h1⟩ (fun w' h' => exec_index_arr _ 2 _ _ rfl (w.heap.size) 0 3 2 1 rfl rfl Try.underlying53 (by kernel_rfl) (by omega)) ?_
  go_frame
  refine z_oper 8 (by kernel_rfl) rfl rfl (fun K' hK' => ?_)
  refine wp_store_one 2 _ _ rfl rfl w.heap.size 2 rfl (.int .i64 s) rfl rfl rfl _ _ h0 (by kernel_rfl) (by simp) (fun wsa21 pa22 => ?_)
  replace hB := pa22.below hB (by omega)
  replace h1 := pa22.other h1 (by omega)
  replace h2 := pa22.other h2 (by omega)
  replace h3 := pa22.other h3 (by omega)
  replace h4 := pa22.other h4 (by omega)
  replace h0 : At wsa21 w.heap.size (.cells #[.int .i64 n, .int .i64 m, .int .i64 s] 53 (0, 0)) := pa22.at_
  clear pa22
  refine hK' _ _ (fun h => absurd rfl h) ?_
  clear hK' K'
  refine z_done (by kernel_rfl) ?_ _
  go_wp2_with fail
  refine wp_region_held (S := fun w' => At w' w.heap.size (.cells #[.int .i64 n, .int .i64 m, .int .i64 s] 53 (0, 0)) ∧ At w' (w.heap.size + 1 + 1 + 1 + 1) (.cells #[.int .i64 0, .int .i64 0, .int .i64 k] 53 (0, 0))) (by kernel_rfl) ?_
  change wpAnyH _ _ _ _ _ _ _ _ (World.drew _)
  generalize hwdb2 : World.drew _ = wdb2
  replace hB : Below w.heap.size w wdb2 := by rw [← hwdb2]; exact hB.drew
  replace h0 : At wdb2 w.heap.size (.cells #[.int .i64 n, .int .i64 m, .int .i64 s] 53 (0, 0)) := by rw [← hwdb2]; exact h0
  replace h1 : At wdb2 (w.heap.size + 1) (.cells #[.int .i64 n', .int .i64 m', .int .i64 k'] 53 (0, 0)) := by rw [← hwdb2]; exact h1
  replace h2 : At wdb2 (w.heap.size + 1 + 1) (.cells #[.int .i64 0, .int .i64 0, .int .i64 0] 53 (0, 0)) := by rw [← hwdb2]; exact h2
  replace h3 : At wdb2 (w.heap.size + 1 + 1 + 1) (.cells #[.int .i64 0, .int .i64 0, .int .i64 0] 53 (0, 0)) := by rw [← hwdb2]; exact h3
  replace h4 : At wdb2 (w.heap.size + 1 + 1 + 1 + 1) (.cells #[.int .i64 0, .int .i64 0, .int .i64 k] 53 (0, 0)) := by rw [← hwdb2]; exact h4
  clear hwdb2
  refine held_yield 0 (some 22) (.agg #[.int .i64 n, .int .i64 m, .int .i64 s]) rfl (by kernel_rfl) (by kernel_rfl) (by kernel_rfl) (fun _ _ _ h => h) rfl rfl ⟨h0, h4⟩ (fun w' h' => exec_load_all 53 _ rfl w.heap.size rfl _ _ _ h'.1 Try.underlying53 rfl 3 (by kernel_rfl) rfl) ?_
  go_frame
  refine held_yield 1 (some 23) (.agg #[.int .i64 0, .int .i64 0, .int .i64 k]) rfl (by kernel_rfl) (by kernel_rfl) (by kernel_rfl) (fun _ _ _ h => h) rfl rfl ⟨h0, h4⟩ (fun w' h' => exec_load_all 53 _ rfl (w.heap.size + 1 + 1 + 1 + 1) rfl _ _ _ h'.2 Try.underlying53 rfl 3 (by kernel_rfl) rfl) ?_
  go_frame
  refine held_oper 2 (by kernel_rfl) rfl rfl (fun K' hK' => ?_)
  refine wp_store_all 53 _ _ rfl rfl (w.heap.size + 1 + 1) rfl _ rfl _ _ h2 3 (by kernel_rfl) rfl rfl (one3 _ _ _) (fun wsb21 pb22 => ?_)
  replace hB := pb22.below hB (by omega)
  replace h0 := pb22.other h0 (by omega)
  replace h1 := pb22.other h1 (by omega)
  replace h3 := pb22.other h3 (by omega)
  replace h4 := pb22.other h4 (by omega)
  replace h2 := pb22.at_
  clear pb22
  refine hK' _ _ ⟨h0, h4⟩ ?_
  clear hK' K'
  refine held_oper 3 (by kernel_rfl) rfl rfl (fun K' hK' => ?_)
  refine wp_store_all 53 _ _ rfl rfl (w.heap.size + 1 + 1 + 1) rfl _ rfl _ _ h3 3 (by kernel_rfl) rfl rfl (one3 _ _ _) (fun wsb23 pb24 => ?_)
  replace hB := pb24.below hB (by omega)
  replace h0 := pb24.other h0 (by omega)
  replace h1 := pb24.other h1 (by omega)
  replace h2 := pb24.other h2 (by omega)
  replace h4 := pb24.other h4 (by omega)
  replace h3 := pb24.at_
  clear pb24
  refine hK' _ _ ⟨h0, h4⟩ ?_
  clear hK' K'
  refine wpAnyH_done (by kernel_rfl) ?_ _
  go_wp2_with fail
  refine bodyPost_ret (results_at22 rfl _ _ (w.heap.size + 1 + 1) (w.heap.size + 1 + 1 + 1) _ _ _ _ rfl rfl h2 h3 Try.underlying53 rfl 3 (by kernel_rfl) rfl rfl) rfl ?_
  exact ⟨rfl, hB⟩
end Go.Proofs.Ytelicajipilhjaa
