/-
  RepeatedCost and MixedCost of both sides. (Made by mkcsa.py.)
-/
import Derived.Test.YtbpapkpdlplfcaaCs9
namespace Go.Proofs.Ytbpapkpdlplfcaa
open Go.RowKit
set_option maxRecDepth 100000
attribute [local irreducible] wpList
def mxO : Option (Int × Int) → Option Int
  | some (t, s) => if t + s ≤ 1000000000000000 then some (t + s) else none
  | none => none
def mcCode (p n m k : Int) (qs : List (List Nat)) (l b : Int) : Int :=
  if sqCode p n m k qs ((decide (0 ≤ l) && decide (l ≤ 8)) && (decide (1 ≤ b) && decide (b ≤ 1000))) = 0 then (match mxO (countsO qs.length (coAdd qs) n l.toNat b) with | some _ => 0 | none => 3) else sqCode p n m k qs ((decide (0 ≤ l) && decide (l ≤ 8)) && (decide (1 ≤ b) && decide (b ≤ 1000)))
def mcR (p n m k : Int) (qs : List (List Nat)) (l b : Int) : Int :=
  if sqCode p n m k qs ((decide (0 ≤ l) && decide (l ≤ 8)) && (decide (1 ≤ b) && decide (b ≤ 1000))) = 0 then (match mxO (countsO qs.length (coAdd qs) n l.toNat b) with | some v => v | none => 0) else 0
def rcCode (p n m k : Int) (qs : List (List Nat)) (l : Int) : Int :=
  if sqCode p n m k qs (decide (0 ≤ l) && decide (l ≤ 8)) = 0 then (match countsO qs.length (coAdd qs) n l.toNat 1 with | some _ => 0 | none => 3) else sqCode p n m k qs (decide (0 ≤ l) && decide (l ≤ 8))
def rcR (p n m k : Int) (qs : List (List Nat)) (l : Int) : List Int :=
  if sqCode p n m k qs (decide (0 ≤ l) && decide (l ≤ 8)) = 0 then (match countsO qs.length (coAdd qs) n l.toNat 1 with | some (t, s) => [t, s] | none => []) else []
theorem mixedO_some (n r l1 l2 l3 : Int) (L : Nat) (b : Int) (hn : 2 ≤ n ∧ n ≤ 3) (hr : 0 ≤ r ∧ r ≤ 30) (h1 : 0 ≤ l1 ∧ l1 ≤ 1000) (h2 : 0 ≤ l2 ∧ l2 ≤ 1000) (h3 : 0 ≤ l3 ∧ l3 ≤ 1000) (hL : L ≤ 8) (hb : 1 ≤ b) (w : World) (v : Int) (h : mxO (countsO r (l1 + l2 + l3) n L b) = some v) : Calls Try.prog 44 #[.agg #[.int .i64 n, .int .i64 r, .int .i64 l1, .int .i64 l2, .int .i64 l3], .int .i64 (L : Int), .int .i64 b] w fun e w' => e = .returned (.int .i64 v) ∧ Below w.heap.size w w' := by
  cases ho : countsO r (l1 + l2 + l3) n L b with
  | none => rw [ho] at h; cases h
  | some x =>
    obtain ⟨t, s⟩ := x
    rw [ho] at h
    simp only [mxO] at h
    split at h
    · rename_i hm
      simp only [Option.some.injEq] at h
      subst h
      exact mixed_some n r l1 l2 l3 L b hn hr h1 h2 h3 hL hb w t s ho hm
    · cases h
theorem mixedO_none (n r l1 l2 l3 : Int) (L : Nat) (b : Int) (hn : 2 ≤ n ∧ n ≤ 3) (hr : 0 ≤ r ∧ r ≤ 30) (h1 : 0 ≤ l1 ∧ l1 ≤ 1000) (h2 : 0 ≤ l2 ∧ l2 ≤ 1000) (h3 : 0 ≤ l3 ∧ l3 ≤ 1000) (hL : L ≤ 8) (hb : 1 ≤ b) (w : World) (h : mxO (countsO r (l1 + l2 + l3) n L b) = none) : Calls Try.prog 44 #[.agg #[.int .i64 n, .int .i64 r, .int .i64 l1, .int .i64 l2, .int .i64 l3], .int .i64 (L : Int), .int .i64 b] w fun e w' => Fails e ∧ Below w.heap.size w w' := by
  cases ho : countsO r (l1 + l2 + l3) n L b with
  | none => exact mixed_none n r l1 l2 l3 L b hn hr h1 h2 h3 hL hb w ho
  | some x =>
    obtain ⟨t, s⟩ := x
    rw [ho] at h
    simp only [mxO] at h
    split at h
    · cases h
    · rename_i hm
      exact mixed_big n r l1 l2 l3 L b hn hr h1 h2 h3 hL hb w t s ho (by omega)
theorem lmixedO_some (p n m k : Int) (g c : Nat) (qs : List (List Nat)) (L : Nat) (b : Int) (w : World) (hR : Rd w (some ⟨g, 0, none⟩) qs) (hs : schemeB p n m k qs = true) (hn : 2 ≤ n ∧ n ≤ 3) (hL : L ≤ 8) (hb : 1 ≤ b ∧ b ≤ 100000) (v : Int) (h : mxO (countsO qs.length (coAdd qs) n L b) = some v) : Calls Try.prog 40 #[.agg #[.int .i64 p, .int .i64 n, .int .i64 m, .int .i64 k, .slice (some ⟨g, 0, none⟩) qs.length c], .int .i64 (L : Int), .int .i64 b] w fun e w' => e = .returned (.tuple #[.int .i64 v, .bool true]) ∧ Below w.heap.size w w' := by
  cases ho : countsO qs.length (coAdd qs) n L b with
  | none => rw [ho] at h; cases h
  | some x =>
    obtain ⟨t, s⟩ := x
    rw [ho] at h
    simp only [mxO] at h
    split at h
    · rename_i hm
      simp only [Option.some.injEq] at h
      subst h
      exact lmixed_some p n m k g c qs L b w hR hs hn hL hb t s ho hm
    · cases h
theorem lmixedO_none (p n m k : Int) (g c : Nat) (qs : List (List Nat)) (L : Nat) (b : Int) (w : World) (hR : Rd w (some ⟨g, 0, none⟩) qs) (hs : schemeB p n m k qs = true) (hn : 2 ≤ n ∧ n ≤ 3) (hL : L ≤ 8) (hb : 1 ≤ b ∧ b ≤ 100000) (h : mxO (countsO qs.length (coAdd qs) n L b) = none) : Calls Try.prog 40 #[.agg #[.int .i64 p, .int .i64 n, .int .i64 m, .int .i64 k, .slice (some ⟨g, 0, none⟩) qs.length c], .int .i64 (L : Int), .int .i64 b] w fun e w' => e = .returned (.tuple #[.int .i64 0, .bool false]) ∧ Below w.heap.size w w' := by
  cases ho : countsO qs.length (coAdd qs) n L b with
  | none => exact lmixed_none p n m k g c qs L b w hR hs hn hL hb ho
  | some x =>
    obtain ⟨t, s⟩ := x
    rw [ho] at h
    simp only [mxO] at h
    split at h
    · cases h
    · rename_i hm
      exact lmixed_big p n m k g c qs L b w hR hs hn hL hb t s ho (by omega)
set_option maxHeartbeats 6400000 in
theorem litM_some (p n m k : Int) (g c : Nat) (qs : List (List Nat)) (L : Nat) (b : Int) (w : World) (hR : Rd w (some ⟨g, 0, none⟩) qs) (hs : schemeB p n m k qs = true) (hn : 2 ≤ n ∧ n ≤ 3) (hL : L ≤ 8) (hb : 1 ≤ b) (g3 g4 g5 : Nat) (h3 : At w g3 (.cells #[.int .i64 p, .int .i64 n, .int .i64 m, .int .i64 k, .slice (some ⟨g, 0, none⟩) qs.length c] 31 (0, 0))) (h4 : At w g4 (.cells #[.int .i64 (L : Int)] 2 (0, 0))) (h5 : At w g5 (.cells #[.int .i64 b] 2 (0, 0))) (v : Int) (ho : mxO (countsO qs.length (coAdd qs) n L b) = some v) :
    Calls Try.prog 43 #[.pointer (some ⟨g3, 0, none⟩), .pointer (some ⟨g4, 0, none⟩), .pointer (some ⟨g5, 0, none⟩)] w (fun e w' => e = .returned (.tuple #[.int .i64 v, .int .i64 0]) ∧ Below w.heap.size w w') := by
  have hB := Below.refl w.heap.size w
  have Hs := Lib.hid hs
  have Ho := Lib.hid ho
  have h30 := schemeB_len hs
  have hr : (0 : Int) ≤ qs.length ∧ (qs.length : Int) ≤ 30 := by omega
  have hc := co_bounds hs hR.good
  clear ho hs
  go_enter Try.func43, Try.ntmps43
  go_upto_region 0 with (fail)
  refine wp_region_lit ?_
  refine ls_ex (some 3) (.int .i64 0) rfl rfl (exec_assign _ rfl (.int .i64 0) rfl) ?_
  go_frame
  refine ls_ex (some 4) (.int .i64 0) rfl rfl (exec_assign _ rfl (.int .i64 0) rfl) ?_
  go_frame
  refine wpList_nil ?_
  go_upto_region 1 with (fail)
  refine wp_region_y (zs := []) (S := fun w' => Below w.heap.size w w' ∧ At w' g3 (.cells #[.int .i64 p, .int .i64 n, .int .i64 m, .int .i64 k, .slice (some ⟨g, 0, none⟩) qs.length c] 31 (0, 0)) ∧ At w' g4 (.cells #[.int .i64 (L : Int)] 2 (0, 0)) ∧ At w' g5 (.cells #[.int .i64 b] 2 (0, 0))) (S2 := fun w' => True) (by kernel_rfl) ?_
  change wpAnyY _ _ _ _ _ _ _ _ _ _ (World.drew _)
  generalize hwdz1 : World.drew _ = wdz1
  replace hB : Below w.heap.size w wdz1 := by rw [← hwdz1]; exact hB.drew
  replace h3 : At wdz1 g3 (.cells #[.int .i64 p, .int .i64 n, .int .i64 m, .int .i64 k, .slice (some ⟨g, 0, none⟩) qs.length c] 31 (0, 0)) := by rw [← hwdz1]; exact h3
  replace h4 : At wdz1 g4 (.cells #[.int .i64 (L : Int)] 2 (0, 0)) := by rw [← hwdz1]; exact h4
  replace h5 : At wdz1 g5 (.cells #[.int .i64 b] 2 (0, 0)) := by rw [← hwdz1]; exact h5
  clear hwdz1
  refine y_yield 0 (some 5) (.agg #[.int .i64 p, .int .i64 n, .int .i64 m, .int .i64 k, .slice (some ⟨g, 0, none⟩) qs.length c]) rfl (by kernel_rfl) (by kernel_rfl) (by kernel_rfl) (fun _ _ _ h => h) rfl rfl ⟨hB, h3, h4, h5⟩ (fun w' h' => exec_load_all 31 _ rfl g3 rfl _ _ _ h'.2.1 Try.underlying31 rfl 5 (by kernel_rfl) rfl) ?_
  go_frame
  refine y_yield 2 (some 7) (.int .i64 (L : Int)) rfl (by kernel_rfl) (by kernel_rfl) (by kernel_rfl) (fun _ _ _ h => h) rfl rfl ⟨hB, h3, h4, h5⟩ (fun w' h' => exec_load_one 2 _ rfl g4 0 rfl (.int .i64 (L : Int)) _ Try.underlying2 rfl (h'.2.2.1.at_ 0)) ?_
  go_frame
  refine y_yield 3 (some 8) (.int .i64 b) rfl (by kernel_rfl) (by kernel_rfl) (by kernel_rfl) (fun _ _ _ h => h) rfl rfl ⟨hB, h3, h4, h5⟩ (fun w' h' => exec_load_one 2 _ rfl g5 0 rfl (.int .i64 b) _ Try.underlying2 rfl (h'.2.2.2.at_ 0)) ?_
  go_frame
  refine y_oper 1 (by kernel_rfl) rfl rfl (fun K' hK' => ?_)
  have lz4 := hB.size
  have lz5 := h3.lt
  have lz6 := h4.lt
  have lz7 := h5.lt
  refine wp_call1 (some 6) rfl 37 _ _ rfl (fun args w => by kernel_rfl) _ rfl _ (repetitionOf_c p n m k g c qs _ (hR.keep hB) Hs.out) (fun e Wz2 h => ?_)
  obtain ⟨rfl, bz3⟩ := h
  replace hB := below_after hB bz3
  replace h3 := h3.after bz3
  replace h4 := h4.after bz3
  replace h5 := h5.after bz3
  clear bz3
  refine ⟨_, rfl, ?_⟩
  refine hK' _ _ ⟨hB, h3, h4, h5⟩ (fun _ => trivial) ?_
  clear hK' K'
  go_frame
  refine y_oper 4 (by kernel_rfl) rfl rfl (fun K' hK' => ?_)
  have lz10 := hB.size
  have lz11 := h3.lt
  have lz12 := h4.lt
  have lz13 := h5.lt
  refine wp_call3 (some 9) rfl 44 _ _ _ _ rfl (fun args w => by kernel_rfl) _ _ _ rfl rfl rfl _ (mixedO_some n qs.length (wsI qs 0 qs.length) (wsI qs 9 qs.length) (lastI qs qs.length 9) L b hn hr hc.1 hc.2.1 hc.2.2 hL hb _ v Ho.out) (fun e Wz8 h => ?_)
  obtain ⟨rfl, bz9⟩ := h
  replace hB := below_after hB bz9
  replace h3 := h3.after bz9
  replace h4 := h4.after bz9
  replace h5 := h5.after bz9
  clear bz9
  refine ⟨_, rfl, ?_⟩
  refine hK' _ _ ⟨hB, h3, h4, h5⟩ (fun _ => trivial) ?_
  clear hK' K'
  go_frame
  refine y_oper 5 (by kernel_rfl) rfl rfl (fun K' hK' => ?_)
  refine wp_exec (some 3) rfl (.int .i64 v) (exec_assign _ rfl (.int .i64 v) rfl) ?_
  refine hK' _ _ ⟨hB, h3, h4, h5⟩ (fun _ => trivial) ?_
  clear hK' K'
  go_frame
  refine y_oper 6 (by kernel_rfl) rfl rfl (fun K' hK' => ?_)
  refine wp_exec (some 4) rfl (.int .i64 0) (exec_assign _ rfl (.int .i64 0) rfl) ?_
  refine hK' _ _ ⟨hB, h3, h4, h5⟩ (fun _ => trivial) ?_
  clear hK' K'
  go_frame
  refine y_done (by kernel_rfl) ?_ _
  go_wp2_with fail
  go_ret2
  exact ⟨rfl, hB⟩
set_option maxHeartbeats 6400000 in
theorem litM_none (p n m k : Int) (g c : Nat) (qs : List (List Nat)) (L : Nat) (b : Int) (w : World) (hR : Rd w (some ⟨g, 0, none⟩) qs) (hs : schemeB p n m k qs = true) (hn : 2 ≤ n ∧ n ≤ 3) (hL : L ≤ 8) (hb : 1 ≤ b) (g3 g4 g5 : Nat) (h3 : At w g3 (.cells #[.int .i64 p, .int .i64 n, .int .i64 m, .int .i64 k, .slice (some ⟨g, 0, none⟩) qs.length c] 31 (0, 0))) (h4 : At w g4 (.cells #[.int .i64 (L : Int)] 2 (0, 0))) (h5 : At w g5 (.cells #[.int .i64 b] 2 (0, 0))) (ho : mxO (countsO qs.length (coAdd qs) n L b) = none) :
    Calls Try.prog 43 #[.pointer (some ⟨g3, 0, none⟩), .pointer (some ⟨g4, 0, none⟩), .pointer (some ⟨g5, 0, none⟩)] w (fun e w' => Fails e ∧ Below w.heap.size w w') := by
  have hB := Below.refl w.heap.size w
  have Hs := Lib.hid hs
  have Ho := Lib.hid ho
  have h30 := schemeB_len hs
  have hr : (0 : Int) ≤ qs.length ∧ (qs.length : Int) ≤ 30 := by omega
  have hc := co_bounds hs hR.good
  clear ho hs
  go_enter Try.func43, Try.ntmps43
  go_upto_region 0 with (fail)
  refine wp_region_lit ?_
  refine ls_ex (some 3) (.int .i64 0) rfl rfl (exec_assign _ rfl (.int .i64 0) rfl) ?_
  go_frame
  refine ls_ex (some 4) (.int .i64 0) rfl rfl (exec_assign _ rfl (.int .i64 0) rfl) ?_
  go_frame
  refine wpList_nil ?_
  go_upto_region 1 with (fail)
  refine wp_region_y (zs := []) (S := fun w' => Below w.heap.size w w' ∧ At w' g3 (.cells #[.int .i64 p, .int .i64 n, .int .i64 m, .int .i64 k, .slice (some ⟨g, 0, none⟩) qs.length c] 31 (0, 0)) ∧ At w' g4 (.cells #[.int .i64 (L : Int)] 2 (0, 0)) ∧ At w' g5 (.cells #[.int .i64 b] 2 (0, 0))) (S2 := fun w' => True) (by kernel_rfl) ?_
  change wpAnyY _ _ _ _ _ _ _ _ _ _ (World.drew _)
  generalize hwdz1 : World.drew _ = wdz1
  replace hB : Below w.heap.size w wdz1 := by rw [← hwdz1]; exact hB.drew
  replace h3 : At wdz1 g3 (.cells #[.int .i64 p, .int .i64 n, .int .i64 m, .int .i64 k, .slice (some ⟨g, 0, none⟩) qs.length c] 31 (0, 0)) := by rw [← hwdz1]; exact h3
  replace h4 : At wdz1 g4 (.cells #[.int .i64 (L : Int)] 2 (0, 0)) := by rw [← hwdz1]; exact h4
  replace h5 : At wdz1 g5 (.cells #[.int .i64 b] 2 (0, 0)) := by rw [← hwdz1]; exact h5
  clear hwdz1
  refine y_yield 0 (some 5) (.agg #[.int .i64 p, .int .i64 n, .int .i64 m, .int .i64 k, .slice (some ⟨g, 0, none⟩) qs.length c]) rfl (by kernel_rfl) (by kernel_rfl) (by kernel_rfl) (fun _ _ _ h => h) rfl rfl ⟨hB, h3, h4, h5⟩ (fun w' h' => exec_load_all 31 _ rfl g3 rfl _ _ _ h'.2.1 Try.underlying31 rfl 5 (by kernel_rfl) rfl) ?_
  go_frame
  refine y_yield 2 (some 7) (.int .i64 (L : Int)) rfl (by kernel_rfl) (by kernel_rfl) (by kernel_rfl) (fun _ _ _ h => h) rfl rfl ⟨hB, h3, h4, h5⟩ (fun w' h' => exec_load_one 2 _ rfl g4 0 rfl (.int .i64 (L : Int)) _ Try.underlying2 rfl (h'.2.2.1.at_ 0)) ?_
  go_frame
  refine y_yield 3 (some 8) (.int .i64 b) rfl (by kernel_rfl) (by kernel_rfl) (by kernel_rfl) (fun _ _ _ h => h) rfl rfl ⟨hB, h3, h4, h5⟩ (fun w' h' => exec_load_one 2 _ rfl g5 0 rfl (.int .i64 b) _ Try.underlying2 rfl (h'.2.2.2.at_ 0)) ?_
  go_frame
  refine y_oper 1 (by kernel_rfl) rfl rfl (fun K' hK' => ?_)
  have lz4 := hB.size
  have lz5 := h3.lt
  have lz6 := h4.lt
  have lz7 := h5.lt
  refine wp_call1 (some 6) rfl 37 _ _ rfl (fun args w => by kernel_rfl) _ rfl _ (repetitionOf_c p n m k g c qs _ (hR.keep hB) Hs.out) (fun e Wz2 h => ?_)
  obtain ⟨rfl, bz3⟩ := h
  replace hB := below_after hB bz3
  replace h3 := h3.after bz3
  replace h4 := h4.after bz3
  replace h5 := h5.after bz3
  clear bz3
  refine ⟨_, rfl, ?_⟩
  refine hK' _ _ ⟨hB, h3, h4, h5⟩ (fun _ => trivial) ?_
  clear hK' K'
  go_frame
  refine y_oper 4 (by kernel_rfl) rfl rfl (fun K' hK' => ?_)
  have lz10 := hB.size
  have lz11 := h3.lt
  have lz12 := h4.lt
  have lz13 := h5.lt
  refine wp_call3_p 44 _ _ _ _ rfl (fun args w => by kernel_rfl) _ _ _ rfl rfl rfl _ (mixedO_none n qs.length (wsI qs 0 qs.length) (wsI qs 9 qs.length) (lastI qs qs.length 9) L b hn hr hc.1 hc.2.1 hc.2.2 hL hb _ Ho.out) (fun e Wz8 h => ?_)
  obtain ⟨hf, bz9⟩ := h
  replace hB := below_after hB bz9
  replace h3 := h3.after bz9
  replace h4 := h4.after bz9
  replace h5 := h5.after bz9
  refine ⟨_, hf, ?_⟩
  exact ⟨rfl, rfl, hB⟩
set_option maxHeartbeats 6400000 in
theorem litR_some (p n m k : Int) (g c : Nat) (qs : List (List Nat)) (L : Nat) (w : World) (hR : Rd w (some ⟨g, 0, none⟩) qs) (hs : schemeB p n m k qs = true) (hn : 2 ≤ n ∧ n ≤ 3) (hL : L ≤ 8) (g3 g4 : Nat) (h3 : At w g3 (.cells #[.int .i64 p, .int .i64 n, .int .i64 m, .int .i64 k, .slice (some ⟨g, 0, none⟩) qs.length c] 31 (0, 0))) (h4 : At w g4 (.cells #[.int .i64 (L : Int)] 2 (0, 0))) (t s : Int) (ho : countsO qs.length (coAdd qs) n L 1 = some (t, s)) :
    Calls Try.prog 36 #[.pointer (some ⟨g3, 0, none⟩), .pointer (some ⟨g4, 0, none⟩)] w (fun e w' => ∃ v, e = .returned (.tuple #[v, .int .i64 0]) ∧ OwnI w' w.heap.size v [t, s] ∧ Below w.heap.size w w') := by
  have hB := Below.refl w.heap.size w
  have Hs := Lib.hid hs
  have Ho := Lib.hid ho
  have h30 := schemeB_len hs
  have hr : (0 : Int) ≤ qs.length ∧ (qs.length : Int) ≤ 30 := by omega
  have hc := co_bounds hs hR.good
  clear ho hs
  go_enter Try.func36, Try.ntmps36
  go_upto_region 0 with (fail)
  refine wp_region_lit ?_
  refine ls_ex (some 2) (.slice none 0 0) rfl rfl (exec_assign _ rfl (.slice none 0 0) rfl) ?_
  go_frame
  refine ls_ex (some 3) (.int .i64 0) rfl rfl (exec_assign _ rfl (.int .i64 0) rfl) ?_
  go_frame
  refine wpList_nil ?_
  go_upto_region 1 with (fail)
  refine wp_region_y (zs := []) (S := fun w' => Below w.heap.size w w' ∧ At w' g3 (.cells #[.int .i64 p, .int .i64 n, .int .i64 m, .int .i64 k, .slice (some ⟨g, 0, none⟩) qs.length c] 31 (0, 0)) ∧ At w' g4 (.cells #[.int .i64 (L : Int)] 2 (0, 0))) (S2 := fun w' => True) (by kernel_rfl) ?_
  change wpAnyY _ _ _ _ _ _ _ _ _ _ (World.drew _)
  generalize hwdz1 : World.drew _ = wdz1
  replace hB : Below w.heap.size w wdz1 := by rw [← hwdz1]; exact hB.drew
  replace h3 : At wdz1 g3 (.cells #[.int .i64 p, .int .i64 n, .int .i64 m, .int .i64 k, .slice (some ⟨g, 0, none⟩) qs.length c] 31 (0, 0)) := by rw [← hwdz1]; exact h3
  replace h4 : At wdz1 g4 (.cells #[.int .i64 (L : Int)] 2 (0, 0)) := by rw [← hwdz1]; exact h4
  clear hwdz1
  refine y_yield 0 (some 7) (.agg #[.int .i64 p, .int .i64 n, .int .i64 m, .int .i64 k, .slice (some ⟨g, 0, none⟩) qs.length c]) rfl (by kernel_rfl) (by kernel_rfl) (by kernel_rfl) (fun _ _ _ h => h) rfl rfl ⟨hB, h3, h4⟩ (fun w' h' => exec_load_all 31 _ rfl g3 rfl _ _ _ h'.2.1 Try.underlying31 rfl 5 (by kernel_rfl) rfl) ?_
  go_frame
  refine y_yield 2 (some 9) (.int .i64 (L : Int)) rfl (by kernel_rfl) (by kernel_rfl) (by kernel_rfl) (fun _ _ _ h => h) rfl rfl ⟨hB, h3, h4⟩ (fun w' h' => exec_load_one 2 _ rfl g4 0 rfl (.int .i64 (L : Int)) _ Try.underlying2 rfl (h'.2.2.at_ 0)) ?_
  go_frame
  refine y_oper 1 (by kernel_rfl) rfl rfl (fun K' hK' => ?_)
  have lz4 := hB.size
  have lz5 := h3.lt
  have lz6 := h4.lt
  refine wp_call1 (some 8) rfl 37 _ _ rfl (fun args w => by kernel_rfl) _ rfl _ (repetitionOf_c p n m k g c qs _ (hR.keep hB) Hs.out) (fun e Wz2 h => ?_)
  obtain ⟨rfl, bz3⟩ := h
  replace hB := below_after hB bz3
  replace h3 := h3.after bz3
  replace h4 := h4.after bz3
  clear bz3
  refine ⟨_, rfl, ?_⟩
  refine hK' _ _ ⟨hB, h3, h4⟩ (fun _ => trivial) ?_
  clear hK' K'
  go_frame
  refine y_oper 3 (by kernel_rfl) rfl rfl (fun K' hK' => ?_)
  have lz9 := hB.size
  have lz10 := h3.lt
  have lz11 := h4.lt
  refine wp_call3 (some 10) rfl 38 _ _ _ _ rfl (fun args w => by kernel_rfl) _ _ _ rfl rfl rfl _ (counts_some n qs.length (wsI qs 0 qs.length) (wsI qs 9 qs.length) (lastI qs qs.length 9) L 1 hn hr hc.1 hc.2.1 hc.2.2 hL (by omega) Ho.out _) (fun e Wz7 h => ?_)
  obtain ⟨rfl, bz8⟩ := h
  replace hB := below_after hB bz8
  replace h3 := h3.after bz8
  replace h4 := h4.after bz8
  clear bz8
  refine ⟨_, rfl, ?_⟩
  refine hK' _ _ ⟨hB, h3, h4⟩ (fun _ => trivial) ?_
  clear hK' K'
  go_frame
  refine y_yield 4 (some 6) (.tuple #[.int .i64 t, .int .i64 s]) rfl (by kernel_rfl) (by kernel_rfl) (by kernel_rfl) (fun _ _ _ h => h) rfl rfl ⟨hB, h3, h4⟩ (fun w' h' => exec_move _ rfl (.tuple #[.int .i64 t, .int .i64 s]) rfl) ?_
  go_frame
  refine y_yield 5 (some 11) (.int .i64 t) rfl (by kernel_rfl) (by kernel_rfl) (by kernel_rfl) (fun _ _ _ h => h) rfl rfl ⟨hB, h3, h4⟩ (fun w' h' => exec_extract _ 0 rfl #[.int .i64 t, .int .i64 s] (by rfl) _ rfl) ?_
  go_frame
  refine y_yield 6 (some 12) (.int .i64 s) rfl (by kernel_rfl) (by kernel_rfl) (by kernel_rfl) (fun _ _ _ h => h) rfl rfl ⟨hB, h3, h4⟩ (fun w' h' => exec_extract _ 1 rfl #[.int .i64 t, .int .i64 s] (by rfl) _ rfl) ?_
  go_frame
  refine y_oper 7 (by kernel_rfl) rfl rfl (fun K' hK' => ?_)
  refine wp_exec (some 4) rfl (.int .i64 t) (exec_assign _ rfl (.int .i64 t) rfl) ?_
  refine hK' _ _ ⟨hB, h3, h4⟩ (fun _ => trivial) ?_
  clear hK' K'
  go_frame
  refine y_oper 8 (by kernel_rfl) rfl rfl (fun K' hK' => ?_)
  refine wp_exec (some 5) rfl (.int .i64 s) (exec_assign _ rfl (.int .i64 s) rfl) ?_
  refine hK' _ _ ⟨hB, h3, h4⟩ (fun _ => trivial) ?_
  clear hK' K'
  go_frame
  refine y_done (by kernel_rfl) ?_ _
  go_upto_region 2 with (fail)
  refine wp_region_lit ?_
  refine ls_ex (some 13) (.int .i64 t) rfl rfl (exec_move _ rfl (.int .i64 t) rfl) ?_
  go_frame
  refine ls_ex (some 14) (.int .i64 s) rfl rfl (exec_move _ rfl (.int .i64 s) rfl) ?_
  go_frame
  refine ls_op rfl (fun K' hK' => ?_)
  have lz12 := hB.size
  have lz13 := h3.lt
  have lz14 := h4.lt
  refine wp_new (some 15) rfl (exec_bsi2 _ _ rfl t s rfl rfl) (fun Wz15 nnz16 => ?_)
  have bz17 := nnz16.below (Below.refl _ _) (Nat.le_refl _)
  replace hB := below_after hB bz17
  replace h3 := h3.after bz17
  replace h4 := h4.after bz17
  have hz18 : At Wz15 Wz7.heap.size (.cells #[.int .i64 t, .int .i64 s] 2 (0, 0)) := nnz16.at_
  refine hK' _ _ ?_
  clear hK' K' nnz16 bz17
  go_frame
  refine ls_ex (some 2) (.slice (some ⟨Wz7.heap.size, 0, none⟩) 2 2) rfl rfl (exec_assign _ rfl (.slice (some ⟨Wz7.heap.size, 0, none⟩) 2 2) rfl) ?_
  go_frame
  refine ls_ex (some 3) (.int .i64 0) rfl rfl (exec_assign _ rfl (.int .i64 0) rfl) ?_
  go_frame
  refine wpList_nil ?_
  go_wp2_with fail
  go_ret2
  exact ⟨_, rfl, OwnI.of_at (xs := [t, s]) hz18 (by have := hB.size; omega) (by simp), hB⟩
set_option maxHeartbeats 6400000 in
theorem litR_none (p n m k : Int) (g c : Nat) (qs : List (List Nat)) (L : Nat) (w : World) (hR : Rd w (some ⟨g, 0, none⟩) qs) (hs : schemeB p n m k qs = true) (hn : 2 ≤ n ∧ n ≤ 3) (hL : L ≤ 8) (g3 g4 : Nat) (h3 : At w g3 (.cells #[.int .i64 p, .int .i64 n, .int .i64 m, .int .i64 k, .slice (some ⟨g, 0, none⟩) qs.length c] 31 (0, 0))) (h4 : At w g4 (.cells #[.int .i64 (L : Int)] 2 (0, 0))) (ho : countsO qs.length (coAdd qs) n L 1 = none) :
    Calls Try.prog 36 #[.pointer (some ⟨g3, 0, none⟩), .pointer (some ⟨g4, 0, none⟩)] w (fun e w' => Fails e ∧ Below w.heap.size w w') := by
  have hB := Below.refl w.heap.size w
  have Hs := Lib.hid hs
  have Ho := Lib.hid ho
  have h30 := schemeB_len hs
  have hr : (0 : Int) ≤ qs.length ∧ (qs.length : Int) ≤ 30 := by omega
  have hc := co_bounds hs hR.good
  clear ho hs
  go_enter Try.func36, Try.ntmps36
  go_upto_region 0 with (fail)
  refine wp_region_lit ?_
  refine ls_ex (some 2) (.slice none 0 0) rfl rfl (exec_assign _ rfl (.slice none 0 0) rfl) ?_
  go_frame
  refine ls_ex (some 3) (.int .i64 0) rfl rfl (exec_assign _ rfl (.int .i64 0) rfl) ?_
  go_frame
  refine wpList_nil ?_
  go_upto_region 1 with (fail)
  refine wp_region_y (zs := []) (S := fun w' => Below w.heap.size w w' ∧ At w' g3 (.cells #[.int .i64 p, .int .i64 n, .int .i64 m, .int .i64 k, .slice (some ⟨g, 0, none⟩) qs.length c] 31 (0, 0)) ∧ At w' g4 (.cells #[.int .i64 (L : Int)] 2 (0, 0))) (S2 := fun w' => True) (by kernel_rfl) ?_
  change wpAnyY _ _ _ _ _ _ _ _ _ _ (World.drew _)
  generalize hwdz1 : World.drew _ = wdz1
  replace hB : Below w.heap.size w wdz1 := by rw [← hwdz1]; exact hB.drew
  replace h3 : At wdz1 g3 (.cells #[.int .i64 p, .int .i64 n, .int .i64 m, .int .i64 k, .slice (some ⟨g, 0, none⟩) qs.length c] 31 (0, 0)) := by rw [← hwdz1]; exact h3
  replace h4 : At wdz1 g4 (.cells #[.int .i64 (L : Int)] 2 (0, 0)) := by rw [← hwdz1]; exact h4
  clear hwdz1
  refine y_yield 0 (some 7) (.agg #[.int .i64 p, .int .i64 n, .int .i64 m, .int .i64 k, .slice (some ⟨g, 0, none⟩) qs.length c]) rfl (by kernel_rfl) (by kernel_rfl) (by kernel_rfl) (fun _ _ _ h => h) rfl rfl ⟨hB, h3, h4⟩ (fun w' h' => exec_load_all 31 _ rfl g3 rfl _ _ _ h'.2.1 Try.underlying31 rfl 5 (by kernel_rfl) rfl) ?_
  go_frame
  refine y_yield 2 (some 9) (.int .i64 (L : Int)) rfl (by kernel_rfl) (by kernel_rfl) (by kernel_rfl) (fun _ _ _ h => h) rfl rfl ⟨hB, h3, h4⟩ (fun w' h' => exec_load_one 2 _ rfl g4 0 rfl (.int .i64 (L : Int)) _ Try.underlying2 rfl (h'.2.2.at_ 0)) ?_
  go_frame
  refine y_oper 1 (by kernel_rfl) rfl rfl (fun K' hK' => ?_)
  have lz4 := hB.size
  have lz5 := h3.lt
  have lz6 := h4.lt
  refine wp_call1 (some 8) rfl 37 _ _ rfl (fun args w => by kernel_rfl) _ rfl _ (repetitionOf_c p n m k g c qs _ (hR.keep hB) Hs.out) (fun e Wz2 h => ?_)
  obtain ⟨rfl, bz3⟩ := h
  replace hB := below_after hB bz3
  replace h3 := h3.after bz3
  replace h4 := h4.after bz3
  clear bz3
  refine ⟨_, rfl, ?_⟩
  refine hK' _ _ ⟨hB, h3, h4⟩ (fun _ => trivial) ?_
  clear hK' K'
  go_frame
  refine y_oper 3 (by kernel_rfl) rfl rfl (fun K' hK' => ?_)
  have lz9 := hB.size
  have lz10 := h3.lt
  have lz11 := h4.lt
  refine wp_call3_p 38 _ _ _ _ rfl (fun args w => by kernel_rfl) _ _ _ rfl rfl rfl _ (counts_none n qs.length (wsI qs 0 qs.length) (wsI qs 9 qs.length) (lastI qs qs.length 9) L 1 hn hr hc.1 hc.2.1 hc.2.2 hL (by omega) Ho.out _) (fun e Wz7 h => ?_)
  obtain ⟨hf, bz8⟩ := h
  replace hB := below_after hB bz8
  replace h3 := h3.after bz8
  replace h4 := h4.after bz8
  refine ⟨_, hf, ?_⟩
  exact ⟨rfl, rfl, hB⟩
set_option maxHeartbeats 6400000 in
theorem implMc_a (p n m k : Int) (g c : Nat) (qs : List (List Nat)) (l b : Int) (w : World) (hR : Rd w (some ⟨g, 0, none⟩) qs) (hlen : qs.length ≤ 1048576) (hl : (decide (0 ≤ l) && decide (l ≤ 8)) = false) :
    Calls Try.prog 19 #[.agg #[.int .i64 p, .int .i64 n, .int .i64 m, .int .i64 k, .slice (some ⟨g, 0, none⟩) qs.length c], .int .i64 l, .int .i64 b] w (fun e w' => e = .returned (.tuple #[.int .i64 (mcR p n m k qs l b), .int .i64 (mcCode p n m k qs l b)]) ∧ Below w.heap.size w w') := by
  have hB := Below.refl w.heap.size w
  have Hl := Lib.hid hl
  have hne := sqCode_ne p n m k qs
  have hcc : sqCode p n m k qs ((decide (0 ≤ l) && decide (l ≤ 8)) && (decide (1 ≤ b) && decide (b ≤ 1000))) = sqCode p n m k qs false := by rw [hl]; rfl
  have Hc : Hid (mcCode p n m k qs l b = sqCode p n m k qs false) := Lib.hid (by unfold mcCode; rw [hcc, if_neg hne])
  have Hr : Hid (mcR p n m k qs l b = 0) := Lib.hid (by unfold mcR; rw [hcc, if_neg hne])
  have Hne : Hid ((sqCode p n m k qs false != 0) = true) := Lib.hid (by simpa using hne)
  clear hl hne hcc
  go_enter Try.func19, Try.ntmps19
  go_upto_region 0 with (fail)
  refine wp_region_lit ?_
  refine ls_op rfl (fun K' hK' => ?_)
  have lz1 := hB.size
  refine wp_new (some 3) rfl (exec_box 31 _ rfl (#[.int .i64 p, .int .i64 n, .int .i64 m, .int .i64 k, .slice (some ⟨g, 0, none⟩) qs.length c]) rfl) (fun Wz2 nnz3 => ?_)
  have bz4 := nnz3.below (Below.refl _ _) (Nat.le_refl _)
  replace hB := below_after hB bz4
  have hz5 : At Wz2 w.heap.size (.cells #[.int .i64 p, .int .i64 n, .int .i64 m, .int .i64 k, .slice (some ⟨g, 0, none⟩) qs.length c] 31 (0, 0)) := nnz3.at_
  refine hK' _ _ ?_
  clear hK' K' nnz3 bz4
  go_frame
  refine ls_op rfl (fun K' hK' => ?_)
  have lz6 := hB.size
  have lz7 := hz5.lt
  refine wp_new (some 4) rfl (exec_box 2 _ rfl (#[.int .i64 l]) rfl) (fun Wz8 nnz9 => ?_)
  have bz10 := nnz9.below (Below.refl _ _) (Nat.le_refl _)
  replace hB := below_after hB bz10
  replace hz5 := hz5.after bz10
  have hz11 : At Wz8 Wz2.heap.size (.cells #[.int .i64 l] 2 (0, 0)) := nnz9.at_
  refine hK' _ _ ?_
  clear hK' K' nnz9 bz10
  go_frame
  refine ls_op rfl (fun K' hK' => ?_)
  have lz12 := hB.size
  have lz13 := hz5.lt
  have lz14 := hz11.lt
  refine wp_new (some 5) rfl (exec_box 2 _ rfl (#[.int .i64 b]) rfl) (fun Wz15 nnz16 => ?_)
  have bz17 := nnz16.below (Below.refl _ _) (Nat.le_refl _)
  replace hB := below_after hB bz17
  replace hz5 := hz5.after bz17
  replace hz11 := hz11.after bz17
  have hz18 : At Wz15 Wz8.heap.size (.cells #[.int .i64 b] 2 (0, 0)) := nnz16.at_
  refine hK' _ _ ?_
  clear hK' K' nnz16 bz17
  go_frame
  refine ls_ex (some 6) (.int .i64 0) rfl rfl (exec_assign _ rfl (.int .i64 0) rfl) ?_
  go_frame
  refine ls_ex (some 7) (.int .i64 0) rfl rfl (exec_assign _ rfl (.int .i64 0) rfl) ?_
  go_frame
  refine wpList_nil ?_
  go_upto_region 1 with (fail)
  refine wp_region_y (zs := []) (S := fun w' => Below w.heap.size w w' ∧ At w' w.heap.size (.cells #[.int .i64 p, .int .i64 n, .int .i64 m, .int .i64 k, .slice (some ⟨g, 0, none⟩) qs.length c] 31 (0, 0)) ∧ At w' Wz2.heap.size (.cells #[.int .i64 l] 2 (0, 0))) (S2 := fun w' => True) (by kernel_rfl) ?_
  change wpAnyY _ _ _ _ _ _ _ _ _ _ (World.drew _)
  generalize hwdz19 : World.drew _ = wdz19
  replace hB : Below w.heap.size w wdz19 := by rw [← hwdz19]; exact hB.drew
  replace hz5 : At wdz19 w.heap.size (.cells #[.int .i64 p, .int .i64 n, .int .i64 m, .int .i64 k, .slice (some ⟨g, 0, none⟩) qs.length c] 31 (0, 0)) := by rw [← hwdz19]; exact hz5
  replace hz11 : At wdz19 Wz2.heap.size (.cells #[.int .i64 l] 2 (0, 0)) := by rw [← hwdz19]; exact hz11
  replace hz18 : At wdz19 Wz8.heap.size (.cells #[.int .i64 b] 2 (0, 0)) := by rw [← hwdz19]; exact hz18
  clear hwdz19
  refine y_yield 0 (some 9) (.agg #[.int .i64 p, .int .i64 n, .int .i64 m, .int .i64 k, .slice (some ⟨g, 0, none⟩) qs.length c]) rfl (by kernel_rfl) (by kernel_rfl) (by kernel_rfl) (fun _ _ _ h => h) rfl rfl ⟨hB, hz5, hz11⟩ (fun w' h' => exec_load_all 31 _ rfl w.heap.size rfl _ _ _ h'.2.1 Try.underlying31 rfl 5 (by kernel_rfl) rfl) ?_
  go_frame
  refine y_yield 1 (some 10) (.int .i64 l) rfl (by kernel_rfl) (by kernel_rfl) (by kernel_rfl) (fun _ _ _ h => h) rfl rfl ⟨hB, hz5, hz11⟩ (fun w' h' => exec_load_one 2 _ rfl Wz2.heap.size 0 rfl (.int .i64 l) _ Try.underlying2 rfl (h'.2.2.at_ 0)) ?_
  go_frame
  refine y_oper 2 (by kernel_rfl) rfl rfl (fun K' hK' => ?_)
  have lz22 := hB.size
  have lz23 := hz5.lt
  have lz24 := hz11.lt
  have lz25 := hz18.lt
  refine wp_call1 (some 11) rfl 34 _ _ rfl (fun args w => by kernel_rfl) _ rfl _ (isLevels_c l _) (fun e Wz20 h => ?_)
  obtain ⟨rfl, rfl⟩ := h
  rw [Hl.out]
  refine ⟨_, rfl, ?_⟩
  refine hK' _ _ ⟨hB, hz5, hz11⟩ (fun _ => trivial) ?_
  clear hK' K'
  go_frame
  refine y_yield 3 (some 12) (.bool false) rfl (by kernel_rfl) (by kernel_rfl) (by kernel_rfl) (fun _ _ _ h => h) rfl rfl ⟨hB, hz5, hz11⟩ (fun w' h' => exec_move _ rfl (.bool false) rfl) ?_
  go_frame
  refine y_skip 4 (some 13) rfl (by kernel_rfl) (by kernel_rfl) (by kernel_rfl) (fun _ _ _ h => h) rfl rfl ⟨hB, hz5, hz11⟩ ?_
  go_frame
  refine y_pass 5 (some 14) (by kernel_rfl) rfl rfl rfl ⟨hB, hz5, hz11⟩ ?_
  go_frame
  refine y_yield 6 (some 15) (.bool false) rfl (by kernel_rfl) (by kernel_rfl) (by kernel_rfl) (fun _ _ _ h => h) rfl rfl ⟨hB, hz5, hz11⟩ (fun w' h' => exec_pick _ _ _ rfl false rfl (.bool false) rfl) ?_
  go_frame
  refine y_oper 7 (by kernel_rfl) rfl rfl (fun K' hK' => ?_)
  have lz28 := hB.size
  have lz29 := hz5.lt
  have lz30 := hz11.lt
  have lz31 := hz18.lt
  refine wp_call2 (some 16) rfl 33 _ _ _ rfl (fun args w => by kernel_rfl) _ _ rfl rfl _ (checkRepeated_c p n m k (some ⟨g, 0, none⟩) c qs false _ (hR.keep hB) hlen) (fun e Wz26 h => ?_)
  obtain ⟨rfl, bz27⟩ := h
  replace hB := below_after hB bz27
  replace hz5 := hz5.after bz27
  replace hz11 := hz11.after bz27
  replace hz18 := hz18.after bz27
  clear bz27
  refine ⟨_, rfl, ?_⟩
  refine hK' _ _ ⟨hB, hz5, hz11⟩ (fun _ => trivial) ?_
  clear hK' K'
  go_frame
  refine y_oper 8 (by kernel_rfl) rfl rfl (fun K' hK' => ?_)
  refine wp_exec (some 8) rfl (.int .i64 (sqCode p n m k qs false)) (exec_assign _ rfl (.int .i64 (sqCode p n m k qs false)) rfl) ?_
  refine hK' _ _ ⟨hB, hz5, hz11⟩ (fun _ => trivial) ?_
  clear hK' K'
  go_frame
  refine y_done (by kernel_rfl) ?_ _
  go_upto_region 2 with (fail)
  refine wp_region_lit ?_
  refine ls_ex (some 17) (.int .i64 (sqCode p n m k qs false)) rfl rfl (exec_move _ rfl (.int .i64 (sqCode p n m k qs false)) rfl) ?_
  go_frame
  refine ls_ex (some 18) (.bool true) rfl rfl (exec_neq _ _ _ _ rfl ((sqCode p n m k qs false)) 0 rfl rfl true Hne.out) ?_
  go_frame
  refine wpList_nil ?_
  go_upto_region 3 with (fail)
  refine wp_region_lit ?_
  refine ls_ex (some 19) (.int .i64 (sqCode p n m k qs false)) rfl rfl (exec_move _ rfl (.int .i64 (sqCode p n m k qs false)) rfl) ?_
  go_frame
  refine ls_ex (some 6) (.int .i64 0) rfl rfl (exec_assign _ rfl (.int .i64 0) rfl) ?_
  go_frame
  refine ls_ex (some 7) (.int .i64 (sqCode p n m k qs false)) rfl rfl (exec_assign _ rfl (.int .i64 (sqCode p n m k qs false)) rfl) ?_
  go_frame
  refine wpList_nil ?_
  go_wp2_with fail
  go_ret2
  exact ⟨by rw [Hr.out, Hc.out]; rfl, hB⟩
set_option maxHeartbeats 6400000 in
theorem implMc_b (p n m k : Int) (g c : Nat) (qs : List (List Nat)) (l b : Int) (w : World) (hR : Rd w (some ⟨g, 0, none⟩) qs) (hlen : qs.length ≤ 1048576) (hl : (decide (0 ≤ l) && decide (l ≤ 8)) = true) (hb : (decide (1 ≤ b) && decide (b ≤ 1000)) = false) :
    Calls Try.prog 19 #[.agg #[.int .i64 p, .int .i64 n, .int .i64 m, .int .i64 k, .slice (some ⟨g, 0, none⟩) qs.length c], .int .i64 l, .int .i64 b] w (fun e w' => e = .returned (.tuple #[.int .i64 (mcR p n m k qs l b), .int .i64 (mcCode p n m k qs l b)]) ∧ Below w.heap.size w w') := by
  have hB := Below.refl w.heap.size w
  have Hl := Lib.hid hl
  have Hb := Lib.hid hb
  have hne := sqCode_ne p n m k qs
  have hcc : sqCode p n m k qs ((decide (0 ≤ l) && decide (l ≤ 8)) && (decide (1 ≤ b) && decide (b ≤ 1000))) = sqCode p n m k qs false := by rw [hl, hb]; rfl
  have Hc : Hid (mcCode p n m k qs l b = sqCode p n m k qs false) := Lib.hid (by unfold mcCode; rw [hcc, if_neg hne])
  have Hr : Hid (mcR p n m k qs l b = 0) := Lib.hid (by unfold mcR; rw [hcc, if_neg hne])
  have Hne : Hid ((sqCode p n m k qs false != 0) = true) := Lib.hid (by simpa using hne)
  clear hl hb hne hcc
  go_enter Try.func19, Try.ntmps19
  go_upto_region 0 with (fail)
  refine wp_region_lit ?_
  refine ls_op rfl (fun K' hK' => ?_)
  have lz1 := hB.size
  refine wp_new (some 3) rfl (exec_box 31 _ rfl (#[.int .i64 p, .int .i64 n, .int .i64 m, .int .i64 k, .slice (some ⟨g, 0, none⟩) qs.length c]) rfl) (fun Wz2 nnz3 => ?_)
  have bz4 := nnz3.below (Below.refl _ _) (Nat.le_refl _)
  replace hB := below_after hB bz4
  have hz5 : At Wz2 w.heap.size (.cells #[.int .i64 p, .int .i64 n, .int .i64 m, .int .i64 k, .slice (some ⟨g, 0, none⟩) qs.length c] 31 (0, 0)) := nnz3.at_
  refine hK' _ _ ?_
  clear hK' K' nnz3 bz4
  go_frame
  refine ls_op rfl (fun K' hK' => ?_)
  have lz6 := hB.size
  have lz7 := hz5.lt
  refine wp_new (some 4) rfl (exec_box 2 _ rfl (#[.int .i64 l]) rfl) (fun Wz8 nnz9 => ?_)
  have bz10 := nnz9.below (Below.refl _ _) (Nat.le_refl _)
  replace hB := below_after hB bz10
  replace hz5 := hz5.after bz10
  have hz11 : At Wz8 Wz2.heap.size (.cells #[.int .i64 l] 2 (0, 0)) := nnz9.at_
  refine hK' _ _ ?_
  clear hK' K' nnz9 bz10
  go_frame
  refine ls_op rfl (fun K' hK' => ?_)
  have lz12 := hB.size
  have lz13 := hz5.lt
  have lz14 := hz11.lt
  refine wp_new (some 5) rfl (exec_box 2 _ rfl (#[.int .i64 b]) rfl) (fun Wz15 nnz16 => ?_)
  have bz17 := nnz16.below (Below.refl _ _) (Nat.le_refl _)
  replace hB := below_after hB bz17
  replace hz5 := hz5.after bz17
  replace hz11 := hz11.after bz17
  have hz18 : At Wz15 Wz8.heap.size (.cells #[.int .i64 b] 2 (0, 0)) := nnz16.at_
  refine hK' _ _ ?_
  clear hK' K' nnz16 bz17
  go_frame
  refine ls_ex (some 6) (.int .i64 0) rfl rfl (exec_assign _ rfl (.int .i64 0) rfl) ?_
  go_frame
  refine ls_ex (some 7) (.int .i64 0) rfl rfl (exec_assign _ rfl (.int .i64 0) rfl) ?_
  go_frame
  refine wpList_nil ?_
  go_upto_region 1 with (fail)
  refine wp_region_y (zs := []) (S := fun w' => Below w.heap.size w w' ∧ At w' w.heap.size (.cells #[.int .i64 p, .int .i64 n, .int .i64 m, .int .i64 k, .slice (some ⟨g, 0, none⟩) qs.length c] 31 (0, 0)) ∧ At w' Wz2.heap.size (.cells #[.int .i64 l] 2 (0, 0)) ∧ At w' Wz8.heap.size (.cells #[.int .i64 b] 2 (0, 0))) (S2 := fun w' => True) (by kernel_rfl) ?_
  change wpAnyY _ _ _ _ _ _ _ _ _ _ (World.drew _)
  generalize hwdz19 : World.drew _ = wdz19
  replace hB : Below w.heap.size w wdz19 := by rw [← hwdz19]; exact hB.drew
  replace hz5 : At wdz19 w.heap.size (.cells #[.int .i64 p, .int .i64 n, .int .i64 m, .int .i64 k, .slice (some ⟨g, 0, none⟩) qs.length c] 31 (0, 0)) := by rw [← hwdz19]; exact hz5
  replace hz11 : At wdz19 Wz2.heap.size (.cells #[.int .i64 l] 2 (0, 0)) := by rw [← hwdz19]; exact hz11
  replace hz18 : At wdz19 Wz8.heap.size (.cells #[.int .i64 b] 2 (0, 0)) := by rw [← hwdz19]; exact hz18
  clear hwdz19
  refine y_yield 0 (some 9) (.agg #[.int .i64 p, .int .i64 n, .int .i64 m, .int .i64 k, .slice (some ⟨g, 0, none⟩) qs.length c]) rfl (by kernel_rfl) (by kernel_rfl) (by kernel_rfl) (fun _ _ _ h => h) rfl rfl ⟨hB, hz5, hz11, hz18⟩ (fun w' h' => exec_load_all 31 _ rfl w.heap.size rfl _ _ _ h'.2.1 Try.underlying31 rfl 5 (by kernel_rfl) rfl) ?_
  go_frame
  refine y_yield 1 (some 10) (.int .i64 l) rfl (by kernel_rfl) (by kernel_rfl) (by kernel_rfl) (fun _ _ _ h => h) rfl rfl ⟨hB, hz5, hz11, hz18⟩ (fun w' h' => exec_load_one 2 _ rfl Wz2.heap.size 0 rfl (.int .i64 l) _ Try.underlying2 rfl (h'.2.2.1.at_ 0)) ?_
  go_frame
  refine y_oper 2 (by kernel_rfl) rfl rfl (fun K' hK' => ?_)
  have lz22 := hB.size
  have lz23 := hz5.lt
  have lz24 := hz11.lt
  have lz25 := hz18.lt
  refine wp_call1 (some 11) rfl 34 _ _ rfl (fun args w => by kernel_rfl) _ rfl _ (isLevels_c l _) (fun e Wz20 h => ?_)
  obtain ⟨rfl, rfl⟩ := h
  rw [Hl.out]
  refine ⟨_, rfl, ?_⟩
  refine hK' _ _ ⟨hB, hz5, hz11, hz18⟩ (fun _ => trivial) ?_
  clear hK' K'
  go_frame
  refine y_yield 3 (some 12) (.bool true) rfl (by kernel_rfl) (by kernel_rfl) (by kernel_rfl) (fun _ _ _ h => h) rfl rfl ⟨hB, hz5, hz11, hz18⟩ (fun w' h' => exec_move _ rfl (.bool true) rfl) ?_
  go_frame
  refine y_yield 4 (some 13) (.int .i64 b) rfl (by kernel_rfl) (by kernel_rfl) (by kernel_rfl) (fun _ _ _ h => h) rfl rfl ⟨hB, hz5, hz11, hz18⟩ (fun w' h' => exec_load_one 2 _ rfl Wz8.heap.size 0 rfl (.int .i64 b) _ Try.underlying2 rfl (h'.2.2.2.at_ 0)) ?_
  go_frame
  refine y_oper 5 (by kernel_rfl) rfl rfl (fun K' hK' => ?_)
  have lz28 := hB.size
  have lz29 := hz5.lt
  have lz30 := hz11.lt
  have lz31 := hz18.lt
  refine wp_call1 (some 14) rfl 41 _ _ rfl (fun args w => by kernel_rfl) _ rfl _ (isBase_c b _) (fun e Wz26 h => ?_)
  obtain ⟨rfl, rfl⟩ := h
  rw [Hb.out]
  refine ⟨_, rfl, ?_⟩
  refine hK' _ _ ⟨hB, hz5, hz11, hz18⟩ (fun _ => trivial) ?_
  clear hK' K'
  go_frame
  refine y_yield 6 (some 15) (.bool false) rfl (by kernel_rfl) (by kernel_rfl) (by kernel_rfl) (fun _ _ _ h => h) rfl rfl ⟨hB, hz5, hz11, hz18⟩ (fun w' h' => exec_pick _ _ _ rfl true rfl (.bool false) rfl) ?_
  go_frame
  refine y_oper 7 (by kernel_rfl) rfl rfl (fun K' hK' => ?_)
  have lz34 := hB.size
  have lz35 := hz5.lt
  have lz36 := hz11.lt
  have lz37 := hz18.lt
  refine wp_call2 (some 16) rfl 33 _ _ _ rfl (fun args w => by kernel_rfl) _ _ rfl rfl _ (checkRepeated_c p n m k (some ⟨g, 0, none⟩) c qs false _ (hR.keep hB) hlen) (fun e Wz32 h => ?_)
  obtain ⟨rfl, bz33⟩ := h
  replace hB := below_after hB bz33
  replace hz5 := hz5.after bz33
  replace hz11 := hz11.after bz33
  replace hz18 := hz18.after bz33
  clear bz33
  refine ⟨_, rfl, ?_⟩
  refine hK' _ _ ⟨hB, hz5, hz11, hz18⟩ (fun _ => trivial) ?_
  clear hK' K'
  go_frame
  refine y_oper 8 (by kernel_rfl) rfl rfl (fun K' hK' => ?_)
  refine wp_exec (some 8) rfl (.int .i64 (sqCode p n m k qs false)) (exec_assign _ rfl (.int .i64 (sqCode p n m k qs false)) rfl) ?_
  refine hK' _ _ ⟨hB, hz5, hz11, hz18⟩ (fun _ => trivial) ?_
  clear hK' K'
  go_frame
  refine y_done (by kernel_rfl) ?_ _
  go_upto_region 2 with (fail)
  refine wp_region_lit ?_
  refine ls_ex (some 17) (.int .i64 (sqCode p n m k qs false)) rfl rfl (exec_move _ rfl (.int .i64 (sqCode p n m k qs false)) rfl) ?_
  go_frame
  refine ls_ex (some 18) (.bool true) rfl rfl (exec_neq _ _ _ _ rfl ((sqCode p n m k qs false)) 0 rfl rfl true Hne.out) ?_
  go_frame
  refine wpList_nil ?_
  go_upto_region 3 with (fail)
  refine wp_region_lit ?_
  refine ls_ex (some 19) (.int .i64 (sqCode p n m k qs false)) rfl rfl (exec_move _ rfl (.int .i64 (sqCode p n m k qs false)) rfl) ?_
  go_frame
  refine ls_ex (some 6) (.int .i64 0) rfl rfl (exec_assign _ rfl (.int .i64 0) rfl) ?_
  go_frame
  refine ls_ex (some 7) (.int .i64 (sqCode p n m k qs false)) rfl rfl (exec_assign _ rfl (.int .i64 (sqCode p n m k qs false)) rfl) ?_
  go_frame
  refine wpList_nil ?_
  go_wp2_with fail
  go_ret2
  exact ⟨by rw [Hr.out, Hc.out]; rfl, hB⟩
set_option maxHeartbeats 6400000 in
theorem implMc_c (p n m k : Int) (g c : Nat) (qs : List (List Nat)) (l b : Int) (w : World) (hR : Rd w (some ⟨g, 0, none⟩) qs) (hlen : qs.length ≤ 1048576) (hl : (decide (0 ≤ l) && decide (l ≤ 8)) = true) (hb : (decide (1 ≤ b) && decide (b ≤ 1000)) = true) (hne : sqCode p n m k qs true ≠ 0) :
    Calls Try.prog 19 #[.agg #[.int .i64 p, .int .i64 n, .int .i64 m, .int .i64 k, .slice (some ⟨g, 0, none⟩) qs.length c], .int .i64 l, .int .i64 b] w (fun e w' => e = .returned (.tuple #[.int .i64 (mcR p n m k qs l b), .int .i64 (mcCode p n m k qs l b)]) ∧ Below w.heap.size w w') := by
  have hB := Below.refl w.heap.size w
  have Hl := Lib.hid hl
  have Hb := Lib.hid hb
  have hcc : sqCode p n m k qs ((decide (0 ≤ l) && decide (l ≤ 8)) && (decide (1 ≤ b) && decide (b ≤ 1000))) = sqCode p n m k qs true := by rw [hl, hb]; rfl
  have Hc : Hid (mcCode p n m k qs l b = sqCode p n m k qs true) := Lib.hid (by unfold mcCode; rw [hcc, if_neg hne])
  have Hr : Hid (mcR p n m k qs l b = 0) := Lib.hid (by unfold mcR; rw [hcc, if_neg hne])
  have Hne : Hid ((sqCode p n m k qs true != 0) = true) := Lib.hid (by simpa using hne)
  clear hl hb hne hcc
  go_enter Try.func19, Try.ntmps19
  go_upto_region 0 with (fail)
  refine wp_region_lit ?_
  refine ls_op rfl (fun K' hK' => ?_)
  have lz1 := hB.size
  refine wp_new (some 3) rfl (exec_box 31 _ rfl (#[.int .i64 p, .int .i64 n, .int .i64 m, .int .i64 k, .slice (some ⟨g, 0, none⟩) qs.length c]) rfl) (fun Wz2 nnz3 => ?_)
  have bz4 := nnz3.below (Below.refl _ _) (Nat.le_refl _)
  replace hB := below_after hB bz4
  have hz5 : At Wz2 w.heap.size (.cells #[.int .i64 p, .int .i64 n, .int .i64 m, .int .i64 k, .slice (some ⟨g, 0, none⟩) qs.length c] 31 (0, 0)) := nnz3.at_
  refine hK' _ _ ?_
  clear hK' K' nnz3 bz4
  go_frame
  refine ls_op rfl (fun K' hK' => ?_)
  have lz6 := hB.size
  have lz7 := hz5.lt
  refine wp_new (some 4) rfl (exec_box 2 _ rfl (#[.int .i64 l]) rfl) (fun Wz8 nnz9 => ?_)
  have bz10 := nnz9.below (Below.refl _ _) (Nat.le_refl _)
  replace hB := below_after hB bz10
  replace hz5 := hz5.after bz10
  have hz11 : At Wz8 Wz2.heap.size (.cells #[.int .i64 l] 2 (0, 0)) := nnz9.at_
  refine hK' _ _ ?_
  clear hK' K' nnz9 bz10
  go_frame
  refine ls_op rfl (fun K' hK' => ?_)
  have lz12 := hB.size
  have lz13 := hz5.lt
  have lz14 := hz11.lt
  refine wp_new (some 5) rfl (exec_box 2 _ rfl (#[.int .i64 b]) rfl) (fun Wz15 nnz16 => ?_)
  have bz17 := nnz16.below (Below.refl _ _) (Nat.le_refl _)
  replace hB := below_after hB bz17
  replace hz5 := hz5.after bz17
  replace hz11 := hz11.after bz17
  have hz18 : At Wz15 Wz8.heap.size (.cells #[.int .i64 b] 2 (0, 0)) := nnz16.at_
  refine hK' _ _ ?_
  clear hK' K' nnz16 bz17
  go_frame
  refine ls_ex (some 6) (.int .i64 0) rfl rfl (exec_assign _ rfl (.int .i64 0) rfl) ?_
  go_frame
  refine ls_ex (some 7) (.int .i64 0) rfl rfl (exec_assign _ rfl (.int .i64 0) rfl) ?_
  go_frame
  refine wpList_nil ?_
  go_upto_region 1 with (fail)
  refine wp_region_y (zs := []) (S := fun w' => Below w.heap.size w w' ∧ At w' w.heap.size (.cells #[.int .i64 p, .int .i64 n, .int .i64 m, .int .i64 k, .slice (some ⟨g, 0, none⟩) qs.length c] 31 (0, 0)) ∧ At w' Wz2.heap.size (.cells #[.int .i64 l] 2 (0, 0)) ∧ At w' Wz8.heap.size (.cells #[.int .i64 b] 2 (0, 0))) (S2 := fun w' => True) (by kernel_rfl) ?_
  change wpAnyY _ _ _ _ _ _ _ _ _ _ (World.drew _)
  generalize hwdz19 : World.drew _ = wdz19
  replace hB : Below w.heap.size w wdz19 := by rw [← hwdz19]; exact hB.drew
  replace hz5 : At wdz19 w.heap.size (.cells #[.int .i64 p, .int .i64 n, .int .i64 m, .int .i64 k, .slice (some ⟨g, 0, none⟩) qs.length c] 31 (0, 0)) := by rw [← hwdz19]; exact hz5
  replace hz11 : At wdz19 Wz2.heap.size (.cells #[.int .i64 l] 2 (0, 0)) := by rw [← hwdz19]; exact hz11
  replace hz18 : At wdz19 Wz8.heap.size (.cells #[.int .i64 b] 2 (0, 0)) := by rw [← hwdz19]; exact hz18
  clear hwdz19
  refine y_yield 0 (some 9) (.agg #[.int .i64 p, .int .i64 n, .int .i64 m, .int .i64 k, .slice (some ⟨g, 0, none⟩) qs.length c]) rfl (by kernel_rfl) (by kernel_rfl) (by kernel_rfl) (fun _ _ _ h => h) rfl rfl ⟨hB, hz5, hz11, hz18⟩ (fun w' h' => exec_load_all 31 _ rfl w.heap.size rfl _ _ _ h'.2.1 Try.underlying31 rfl 5 (by kernel_rfl) rfl) ?_
  go_frame
  refine y_yield 1 (some 10) (.int .i64 l) rfl (by kernel_rfl) (by kernel_rfl) (by kernel_rfl) (fun _ _ _ h => h) rfl rfl ⟨hB, hz5, hz11, hz18⟩ (fun w' h' => exec_load_one 2 _ rfl Wz2.heap.size 0 rfl (.int .i64 l) _ Try.underlying2 rfl (h'.2.2.1.at_ 0)) ?_
  go_frame
  refine y_oper 2 (by kernel_rfl) rfl rfl (fun K' hK' => ?_)
  have lz22 := hB.size
  have lz23 := hz5.lt
  have lz24 := hz11.lt
  have lz25 := hz18.lt
  refine wp_call1 (some 11) rfl 34 _ _ rfl (fun args w => by kernel_rfl) _ rfl _ (isLevels_c l _) (fun e Wz20 h => ?_)
  obtain ⟨rfl, rfl⟩ := h
  rw [Hl.out]
  refine ⟨_, rfl, ?_⟩
  refine hK' _ _ ⟨hB, hz5, hz11, hz18⟩ (fun _ => trivial) ?_
  clear hK' K'
  go_frame
  refine y_yield 3 (some 12) (.bool true) rfl (by kernel_rfl) (by kernel_rfl) (by kernel_rfl) (fun _ _ _ h => h) rfl rfl ⟨hB, hz5, hz11, hz18⟩ (fun w' h' => exec_move _ rfl (.bool true) rfl) ?_
  go_frame
  refine y_yield 4 (some 13) (.int .i64 b) rfl (by kernel_rfl) (by kernel_rfl) (by kernel_rfl) (fun _ _ _ h => h) rfl rfl ⟨hB, hz5, hz11, hz18⟩ (fun w' h' => exec_load_one 2 _ rfl Wz8.heap.size 0 rfl (.int .i64 b) _ Try.underlying2 rfl (h'.2.2.2.at_ 0)) ?_
  go_frame
  refine y_oper 5 (by kernel_rfl) rfl rfl (fun K' hK' => ?_)
  have lz28 := hB.size
  have lz29 := hz5.lt
  have lz30 := hz11.lt
  have lz31 := hz18.lt
  refine wp_call1 (some 14) rfl 41 _ _ rfl (fun args w => by kernel_rfl) _ rfl _ (isBase_c b _) (fun e Wz26 h => ?_)
  obtain ⟨rfl, rfl⟩ := h
  rw [Hb.out]
  refine ⟨_, rfl, ?_⟩
  refine hK' _ _ ⟨hB, hz5, hz11, hz18⟩ (fun _ => trivial) ?_
  clear hK' K'
  go_frame
  refine y_yield 6 (some 15) (.bool true) rfl (by kernel_rfl) (by kernel_rfl) (by kernel_rfl) (fun _ _ _ h => h) rfl rfl ⟨hB, hz5, hz11, hz18⟩ (fun w' h' => exec_pick _ _ _ rfl true rfl (.bool true) rfl) ?_
  go_frame
  refine y_oper 7 (by kernel_rfl) rfl rfl (fun K' hK' => ?_)
  have lz34 := hB.size
  have lz35 := hz5.lt
  have lz36 := hz11.lt
  have lz37 := hz18.lt
  refine wp_call2 (some 16) rfl 33 _ _ _ rfl (fun args w => by kernel_rfl) _ _ rfl rfl _ (checkRepeated_c p n m k (some ⟨g, 0, none⟩) c qs true _ (hR.keep hB) hlen) (fun e Wz32 h => ?_)
  obtain ⟨rfl, bz33⟩ := h
  replace hB := below_after hB bz33
  replace hz5 := hz5.after bz33
  replace hz11 := hz11.after bz33
  replace hz18 := hz18.after bz33
  clear bz33
  refine ⟨_, rfl, ?_⟩
  refine hK' _ _ ⟨hB, hz5, hz11, hz18⟩ (fun _ => trivial) ?_
  clear hK' K'
  go_frame
  refine y_oper 8 (by kernel_rfl) rfl rfl (fun K' hK' => ?_)
  refine wp_exec (some 8) rfl (.int .i64 (sqCode p n m k qs true)) (exec_assign _ rfl (.int .i64 (sqCode p n m k qs true)) rfl) ?_
  refine hK' _ _ ⟨hB, hz5, hz11, hz18⟩ (fun _ => trivial) ?_
  clear hK' K'
  go_frame
  refine y_done (by kernel_rfl) ?_ _
  go_upto_region 2 with (fail)
  refine wp_region_lit ?_
  refine ls_ex (some 17) (.int .i64 (sqCode p n m k qs true)) rfl rfl (exec_move _ rfl (.int .i64 (sqCode p n m k qs true)) rfl) ?_
  go_frame
  refine ls_ex (some 18) (.bool true) rfl rfl (exec_neq _ _ _ _ rfl ((sqCode p n m k qs true)) 0 rfl rfl true Hne.out) ?_
  go_frame
  refine wpList_nil ?_
  go_upto_region 3 with (fail)
  refine wp_region_lit ?_
  refine ls_ex (some 19) (.int .i64 (sqCode p n m k qs true)) rfl rfl (exec_move _ rfl (.int .i64 (sqCode p n m k qs true)) rfl) ?_
  go_frame
  refine ls_ex (some 6) (.int .i64 0) rfl rfl (exec_assign _ rfl (.int .i64 0) rfl) ?_
  go_frame
  refine ls_ex (some 7) (.int .i64 (sqCode p n m k qs true)) rfl rfl (exec_assign _ rfl (.int .i64 (sqCode p n m k qs true)) rfl) ?_
  go_frame
  refine wpList_nil ?_
  go_wp2_with fail
  go_ret2
  exact ⟨by rw [Hr.out, Hc.out]; rfl, hB⟩
set_option maxHeartbeats 6400000 in
theorem implMc_d (p n m k : Int) (g c : Nat) (qs : List (List Nat)) (L : Nat) (b : Int) (w : World) (hR : Rd w (some ⟨g, 0, none⟩) qs) (hlen : qs.length ≤ 1048576) (hl : (decide (0 ≤ (L : Int)) && decide ((L : Int) ≤ 8)) = true) (hb : (decide (1 ≤ b) && decide (b ≤ 1000)) = true) (h0 : sqCode p n m k qs true = 0) (ho : mxO (countsO qs.length (coAdd qs) n L b) = none) :
    Calls Try.prog 19 #[.agg #[.int .i64 p, .int .i64 n, .int .i64 m, .int .i64 k, .slice (some ⟨g, 0, none⟩) qs.length c], .int .i64 (L : Int), .int .i64 b] w (fun e w' => e = .returned (.tuple #[.int .i64 (mcR p n m k qs L b), .int .i64 (mcCode p n m k qs L b)]) ∧ Below w.heap.size w w') := by
  have hB := Below.refl w.heap.size w
  have hL : L ≤ 8 := by simp only [Bool.and_eq_true, decide_eq_true_eq] at hl; omega
  have hb1 : 1 ≤ b := by simp only [Bool.and_eq_true, decide_eq_true_eq] at hb; omega
  have hb5 : b ≤ 1000 := by simp only [Bool.and_eq_true, decide_eq_true_eq] at hb; omega
  have hf := sq_facts h0
  have hn : 2 ≤ n ∧ n ≤ 3 := ⟨hf.2.1, hf.2.2.1⟩
  have Hs := Lib.hid hf.1
  have H0 := Lib.hid h0
  have Hl := Lib.hid hl
  have Hb := Lib.hid hb
  have Ho := Lib.hid ho
  have hcc : sqCode p n m k qs ((decide (0 ≤ (L : Int)) && decide ((L : Int) ≤ 8)) && (decide (1 ≤ b) && decide (b ≤ 1000))) = 0 := by rw [hl, hb]; exact h0
  have Hc : Hid (mcCode p n m k qs L b = 3) := Lib.hid (by unfold mcCode; rw [if_pos hcc, Int.toNat_natCast, ho])
  have Hr : Hid (mcR p n m k qs L b = 0) := Lib.hid (by unfold mcR; rw [if_pos hcc, Int.toNat_natCast, ho])
  clear hl hb h0 hf ho hcc
  go_enter Try.func19, Try.ntmps19
  go_upto_region 0 with (fail)
  refine wp_region_lit ?_
  refine ls_op rfl (fun K' hK' => ?_)
  have lz1 := hB.size
  refine wp_new (some 3) rfl (exec_box 31 _ rfl (#[.int .i64 p, .int .i64 n, .int .i64 m, .int .i64 k, .slice (some ⟨g, 0, none⟩) qs.length c]) rfl) (fun Wz2 nnz3 => ?_)
  have bz4 := nnz3.below (Below.refl _ _) (Nat.le_refl _)
  replace hB := below_after hB bz4
  have hz5 : At Wz2 w.heap.size (.cells #[.int .i64 p, .int .i64 n, .int .i64 m, .int .i64 k, .slice (some ⟨g, 0, none⟩) qs.length c] 31 (0, 0)) := nnz3.at_
  refine hK' _ _ ?_
  clear hK' K' nnz3 bz4
  go_frame
  refine ls_op rfl (fun K' hK' => ?_)
  have lz6 := hB.size
  have lz7 := hz5.lt
  refine wp_new (some 4) rfl (exec_box 2 _ rfl (#[.int .i64 (L : Int)]) rfl) (fun Wz8 nnz9 => ?_)
  have bz10 := nnz9.below (Below.refl _ _) (Nat.le_refl _)
  replace hB := below_after hB bz10
  replace hz5 := hz5.after bz10
  have hz11 : At Wz8 Wz2.heap.size (.cells #[.int .i64 (L : Int)] 2 (0, 0)) := nnz9.at_
  refine hK' _ _ ?_
  clear hK' K' nnz9 bz10
  go_frame
  refine ls_op rfl (fun K' hK' => ?_)
  have lz12 := hB.size
  have lz13 := hz5.lt
  have lz14 := hz11.lt
  refine wp_new (some 5) rfl (exec_box 2 _ rfl (#[.int .i64 b]) rfl) (fun Wz15 nnz16 => ?_)
  have bz17 := nnz16.below (Below.refl _ _) (Nat.le_refl _)
  replace hB := below_after hB bz17
  replace hz5 := hz5.after bz17
  replace hz11 := hz11.after bz17
  have hz18 : At Wz15 Wz8.heap.size (.cells #[.int .i64 b] 2 (0, 0)) := nnz16.at_
  refine hK' _ _ ?_
  clear hK' K' nnz16 bz17
  go_frame
  refine ls_ex (some 6) (.int .i64 0) rfl rfl (exec_assign _ rfl (.int .i64 0) rfl) ?_
  go_frame
  refine ls_ex (some 7) (.int .i64 0) rfl rfl (exec_assign _ rfl (.int .i64 0) rfl) ?_
  go_frame
  refine wpList_nil ?_
  go_upto_region 1 with (fail)
  refine wp_region_y (zs := []) (S := fun w' => Below w.heap.size w w' ∧ At w' w.heap.size (.cells #[.int .i64 p, .int .i64 n, .int .i64 m, .int .i64 k, .slice (some ⟨g, 0, none⟩) qs.length c] 31 (0, 0)) ∧ At w' Wz2.heap.size (.cells #[.int .i64 (L : Int)] 2 (0, 0)) ∧ At w' Wz8.heap.size (.cells #[.int .i64 b] 2 (0, 0))) (S2 := fun w' => True) (by kernel_rfl) ?_
  change wpAnyY _ _ _ _ _ _ _ _ _ _ (World.drew _)
  generalize hwdz19 : World.drew _ = wdz19
  replace hB : Below w.heap.size w wdz19 := by rw [← hwdz19]; exact hB.drew
  replace hz5 : At wdz19 w.heap.size (.cells #[.int .i64 p, .int .i64 n, .int .i64 m, .int .i64 k, .slice (some ⟨g, 0, none⟩) qs.length c] 31 (0, 0)) := by rw [← hwdz19]; exact hz5
  replace hz11 : At wdz19 Wz2.heap.size (.cells #[.int .i64 (L : Int)] 2 (0, 0)) := by rw [← hwdz19]; exact hz11
  replace hz18 : At wdz19 Wz8.heap.size (.cells #[.int .i64 b] 2 (0, 0)) := by rw [← hwdz19]; exact hz18
  clear hwdz19
  refine y_yield 0 (some 9) (.agg #[.int .i64 p, .int .i64 n, .int .i64 m, .int .i64 k, .slice (some ⟨g, 0, none⟩) qs.length c]) rfl (by kernel_rfl) (by kernel_rfl) (by kernel_rfl) (fun _ _ _ h => h) rfl rfl ⟨hB, hz5, hz11, hz18⟩ (fun w' h' => exec_load_all 31 _ rfl w.heap.size rfl _ _ _ h'.2.1 Try.underlying31 rfl 5 (by kernel_rfl) rfl) ?_
  go_frame
  refine y_yield 1 (some 10) (.int .i64 (L : Int)) rfl (by kernel_rfl) (by kernel_rfl) (by kernel_rfl) (fun _ _ _ h => h) rfl rfl ⟨hB, hz5, hz11, hz18⟩ (fun w' h' => exec_load_one 2 _ rfl Wz2.heap.size 0 rfl (.int .i64 (L : Int)) _ Try.underlying2 rfl (h'.2.2.1.at_ 0)) ?_
  go_frame
  refine y_oper 2 (by kernel_rfl) rfl rfl (fun K' hK' => ?_)
  have lz22 := hB.size
  have lz23 := hz5.lt
  have lz24 := hz11.lt
  have lz25 := hz18.lt
  refine wp_call1 (some 11) rfl 34 _ _ rfl (fun args w => by kernel_rfl) _ rfl _ (isLevels_c (L : Int) _) (fun e Wz20 h => ?_)
  obtain ⟨rfl, rfl⟩ := h
  rw [Hl.out]
  refine ⟨_, rfl, ?_⟩
  refine hK' _ _ ⟨hB, hz5, hz11, hz18⟩ (fun _ => trivial) ?_
  clear hK' K'
  go_frame
  refine y_yield 3 (some 12) (.bool true) rfl (by kernel_rfl) (by kernel_rfl) (by kernel_rfl) (fun _ _ _ h => h) rfl rfl ⟨hB, hz5, hz11, hz18⟩ (fun w' h' => exec_move _ rfl (.bool true) rfl) ?_
  go_frame
  refine y_yield 4 (some 13) (.int .i64 b) rfl (by kernel_rfl) (by kernel_rfl) (by kernel_rfl) (fun _ _ _ h => h) rfl rfl ⟨hB, hz5, hz11, hz18⟩ (fun w' h' => exec_load_one 2 _ rfl Wz8.heap.size 0 rfl (.int .i64 b) _ Try.underlying2 rfl (h'.2.2.2.at_ 0)) ?_
  go_frame
  refine y_oper 5 (by kernel_rfl) rfl rfl (fun K' hK' => ?_)
  have lz28 := hB.size
  have lz29 := hz5.lt
  have lz30 := hz11.lt
  have lz31 := hz18.lt
  refine wp_call1 (some 14) rfl 41 _ _ rfl (fun args w => by kernel_rfl) _ rfl _ (isBase_c b _) (fun e Wz26 h => ?_)
  obtain ⟨rfl, rfl⟩ := h
  rw [Hb.out]
  refine ⟨_, rfl, ?_⟩
  refine hK' _ _ ⟨hB, hz5, hz11, hz18⟩ (fun _ => trivial) ?_
  clear hK' K'
  go_frame
  refine y_yield 6 (some 15) (.bool true) rfl (by kernel_rfl) (by kernel_rfl) (by kernel_rfl) (fun _ _ _ h => h) rfl rfl ⟨hB, hz5, hz11, hz18⟩ (fun w' h' => exec_pick _ _ _ rfl true rfl (.bool true) rfl) ?_
  go_frame
  refine y_oper 7 (by kernel_rfl) rfl rfl (fun K' hK' => ?_)
  have lz34 := hB.size
  have lz35 := hz5.lt
  have lz36 := hz11.lt
  have lz37 := hz18.lt
  refine wp_call2 (some 16) rfl 33 _ _ _ rfl (fun args w => by kernel_rfl) _ _ rfl rfl _ (checkRepeated_c p n m k (some ⟨g, 0, none⟩) c qs true _ (hR.keep hB) hlen) (fun e Wz32 h => ?_)
  obtain ⟨rfl, bz33⟩ := h
  replace hB := below_after hB bz33
  replace hz5 := hz5.after bz33
  replace hz11 := hz11.after bz33
  replace hz18 := hz18.after bz33
  rw [H0.out]
  clear bz33
  refine ⟨_, rfl, ?_⟩
  refine hK' _ _ ⟨hB, hz5, hz11, hz18⟩ (fun _ => trivial) ?_
  clear hK' K'
  go_frame
  refine y_oper 8 (by kernel_rfl) rfl rfl (fun K' hK' => ?_)
  refine wp_exec (some 8) rfl (.int .i64 0) (exec_assign _ rfl (.int .i64 0) rfl) ?_
  refine hK' _ _ ⟨hB, hz5, hz11, hz18⟩ (fun _ => trivial) ?_
  clear hK' K'
  go_frame
  refine y_done (by kernel_rfl) ?_ _
  go_upto_region 2 with (fail)
  refine wp_region_lit ?_
  refine ls_ex (some 17) (.int .i64 0) rfl rfl (exec_move _ rfl (.int .i64 0) rfl) ?_
  go_frame
  refine ls_ex (some 18) (.bool false) rfl rfl (exec_neq _ _ _ _ rfl 0 0 rfl rfl false rfl) ?_
  go_frame
  refine wpList_nil ?_
  go_upto_region 4 with (fail)
  refine wp_region_lit ?_
  refine ls_ex (some 20) (.func (.func 43) #[] #[.pointer (some ⟨w.heap.size, 0, none⟩), .pointer (some ⟨Wz2.heap.size, 0, none⟩), .pointer (some ⟨Wz8.heap.size, 0, none⟩)]) rfl rfl (exec_mkf3 _ _ _ _ rfl _ _ _ rfl rfl rfl) ?_
  go_frame
  refine ls_op rfl (fun K' hK' => ?_)
  have lz40 := hB.size
  have lz41 := hz5.lt
  have lz42 := hz11.lt
  have lz43 := hz18.lt
  refine wp_call1 (some 21) rfl 42 _ _ rfl (fun args w => by kernel_rfl) _ rfl _ (doorI_no 43 #[.pointer (some ⟨w.heap.size, 0, none⟩), .pointer (some ⟨Wz2.heap.size, 0, none⟩), .pointer (some ⟨Wz8.heap.size, 0, none⟩)] _ (fun w => by kernel_rfl) (fun w' hb => litM_none p n m k g c qs L b w' ((hR.keep hB).keep hb) Hs.out hn hL hb1 w.heap.size Wz2.heap.size Wz8.heap.size (At.after hz5 hb) (At.after hz11 hb) (At.after hz18 hb) Ho.out)) (fun e Wz38 h => ?_)
  obtain ⟨rfl, bz39⟩ := h
  replace hB := below_after hB bz39
  replace hz5 := hz5.after bz39
  replace hz11 := hz11.after bz39
  replace hz18 := hz18.after bz39
  clear bz39
  refine ⟨_, rfl, ?_⟩
  refine hK' _ _ ?_
  clear hK' K'
  go_frame
  refine ls_ex (some 22) (.int .i64 0) rfl rfl (exec_extract _ 0 rfl #[.int .i64 0, .int .i64 3] (by rfl) _ rfl) ?_
  go_frame
  refine ls_ex (some 23) (.int .i64 3) rfl rfl (exec_extract _ 1 rfl #[.int .i64 0, .int .i64 3] (by rfl) _ rfl) ?_
  go_frame
  refine ls_ex (some 6) (.int .i64 0) rfl rfl (exec_assign _ rfl (.int .i64 0) rfl) ?_
  go_frame
  refine ls_ex (some 7) (.int .i64 3) rfl rfl (exec_assign _ rfl (.int .i64 3) rfl) ?_
  go_frame
  refine wpList_nil ?_
  go_wp2_with fail
  go_ret2
  exact ⟨by rw [Hr.out, Hc.out]; rfl, hB⟩
set_option maxHeartbeats 6400000 in
theorem implMc_e (p n m k : Int) (g c : Nat) (qs : List (List Nat)) (L : Nat) (b : Int) (w : World) (hR : Rd w (some ⟨g, 0, none⟩) qs) (hlen : qs.length ≤ 1048576) (hl : (decide (0 ≤ (L : Int)) && decide ((L : Int) ≤ 8)) = true) (hb : (decide (1 ≤ b) && decide (b ≤ 1000)) = true) (h0 : sqCode p n m k qs true = 0) (v : Int) (ho : mxO (countsO qs.length (coAdd qs) n L b) = some v) :
    Calls Try.prog 19 #[.agg #[.int .i64 p, .int .i64 n, .int .i64 m, .int .i64 k, .slice (some ⟨g, 0, none⟩) qs.length c], .int .i64 (L : Int), .int .i64 b] w (fun e w' => e = .returned (.tuple #[.int .i64 (mcR p n m k qs L b), .int .i64 (mcCode p n m k qs L b)]) ∧ Below w.heap.size w w') := by
  have hB := Below.refl w.heap.size w
  have hL : L ≤ 8 := by simp only [Bool.and_eq_true, decide_eq_true_eq] at hl; omega
  have hb1 : 1 ≤ b := by simp only [Bool.and_eq_true, decide_eq_true_eq] at hb; omega
  have hb5 : b ≤ 1000 := by simp only [Bool.and_eq_true, decide_eq_true_eq] at hb; omega
  have hf := sq_facts h0
  have hn : 2 ≤ n ∧ n ≤ 3 := ⟨hf.2.1, hf.2.2.1⟩
  have Hs := Lib.hid hf.1
  have H0 := Lib.hid h0
  have Hl := Lib.hid hl
  have Hb := Lib.hid hb
  have Ho := Lib.hid ho
  have hcc : sqCode p n m k qs ((decide (0 ≤ (L : Int)) && decide ((L : Int) ≤ 8)) && (decide (1 ≤ b) && decide (b ≤ 1000))) = 0 := by rw [hl, hb]; exact h0
  have Hc : Hid (mcCode p n m k qs L b = 0) := Lib.hid (by unfold mcCode; rw [if_pos hcc, Int.toNat_natCast, ho])
  have Hr : Hid (mcR p n m k qs L b = v) := Lib.hid (by unfold mcR; rw [if_pos hcc, Int.toNat_natCast, ho])
  clear hl hb h0 hf ho hcc
  go_enter Try.func19, Try.ntmps19
  go_upto_region 0 with (fail)
  refine wp_region_lit ?_
  refine ls_op rfl (fun K' hK' => ?_)
  have lz1 := hB.size
  refine wp_new (some 3) rfl (exec_box 31 _ rfl (#[.int .i64 p, .int .i64 n, .int .i64 m, .int .i64 k, .slice (some ⟨g, 0, none⟩) qs.length c]) rfl) (fun Wz2 nnz3 => ?_)
  have bz4 := nnz3.below (Below.refl _ _) (Nat.le_refl _)
  replace hB := below_after hB bz4
  have hz5 : At Wz2 w.heap.size (.cells #[.int .i64 p, .int .i64 n, .int .i64 m, .int .i64 k, .slice (some ⟨g, 0, none⟩) qs.length c] 31 (0, 0)) := nnz3.at_
  refine hK' _ _ ?_
  clear hK' K' nnz3 bz4
  go_frame
  refine ls_op rfl (fun K' hK' => ?_)
  have lz6 := hB.size
  have lz7 := hz5.lt
  refine wp_new (some 4) rfl (exec_box 2 _ rfl (#[.int .i64 (L : Int)]) rfl) (fun Wz8 nnz9 => ?_)
  have bz10 := nnz9.below (Below.refl _ _) (Nat.le_refl _)
  replace hB := below_after hB bz10
  replace hz5 := hz5.after bz10
  have hz11 : At Wz8 Wz2.heap.size (.cells #[.int .i64 (L : Int)] 2 (0, 0)) := nnz9.at_
  refine hK' _ _ ?_
  clear hK' K' nnz9 bz10
  go_frame
  refine ls_op rfl (fun K' hK' => ?_)
  have lz12 := hB.size
  have lz13 := hz5.lt
  have lz14 := hz11.lt
  refine wp_new (some 5) rfl (exec_box 2 _ rfl (#[.int .i64 b]) rfl) (fun Wz15 nnz16 => ?_)
  have bz17 := nnz16.below (Below.refl _ _) (Nat.le_refl _)
  replace hB := below_after hB bz17
  replace hz5 := hz5.after bz17
  replace hz11 := hz11.after bz17
  have hz18 : At Wz15 Wz8.heap.size (.cells #[.int .i64 b] 2 (0, 0)) := nnz16.at_
  refine hK' _ _ ?_
  clear hK' K' nnz16 bz17
  go_frame
  refine ls_ex (some 6) (.int .i64 0) rfl rfl (exec_assign _ rfl (.int .i64 0) rfl) ?_
  go_frame
  refine ls_ex (some 7) (.int .i64 0) rfl rfl (exec_assign _ rfl (.int .i64 0) rfl) ?_
  go_frame
  refine wpList_nil ?_
  go_upto_region 1 with (fail)
  refine wp_region_y (zs := []) (S := fun w' => Below w.heap.size w w' ∧ At w' w.heap.size (.cells #[.int .i64 p, .int .i64 n, .int .i64 m, .int .i64 k, .slice (some ⟨g, 0, none⟩) qs.length c] 31 (0, 0)) ∧ At w' Wz2.heap.size (.cells #[.int .i64 (L : Int)] 2 (0, 0)) ∧ At w' Wz8.heap.size (.cells #[.int .i64 b] 2 (0, 0))) (S2 := fun w' => True) (by kernel_rfl) ?_
  change wpAnyY _ _ _ _ _ _ _ _ _ _ (World.drew _)
  generalize hwdz19 : World.drew _ = wdz19
  replace hB : Below w.heap.size w wdz19 := by rw [← hwdz19]; exact hB.drew
  replace hz5 : At wdz19 w.heap.size (.cells #[.int .i64 p, .int .i64 n, .int .i64 m, .int .i64 k, .slice (some ⟨g, 0, none⟩) qs.length c] 31 (0, 0)) := by rw [← hwdz19]; exact hz5
  replace hz11 : At wdz19 Wz2.heap.size (.cells #[.int .i64 (L : Int)] 2 (0, 0)) := by rw [← hwdz19]; exact hz11
  replace hz18 : At wdz19 Wz8.heap.size (.cells #[.int .i64 b] 2 (0, 0)) := by rw [← hwdz19]; exact hz18
  clear hwdz19
  refine y_yield 0 (some 9) (.agg #[.int .i64 p, .int .i64 n, .int .i64 m, .int .i64 k, .slice (some ⟨g, 0, none⟩) qs.length c]) rfl (by kernel_rfl) (by kernel_rfl) (by kernel_rfl) (fun _ _ _ h => h) rfl rfl ⟨hB, hz5, hz11, hz18⟩ (fun w' h' => exec_load_all 31 _ rfl w.heap.size rfl _ _ _ h'.2.1 Try.underlying31 rfl 5 (by kernel_rfl) rfl) ?_
  go_frame
  refine y_yield 1 (some 10) (.int .i64 (L : Int)) rfl (by kernel_rfl) (by kernel_rfl) (by kernel_rfl) (fun _ _ _ h => h) rfl rfl ⟨hB, hz5, hz11, hz18⟩ (fun w' h' => exec_load_one 2 _ rfl Wz2.heap.size 0 rfl (.int .i64 (L : Int)) _ Try.underlying2 rfl (h'.2.2.1.at_ 0)) ?_
  go_frame
  refine y_oper 2 (by kernel_rfl) rfl rfl (fun K' hK' => ?_)
  have lz22 := hB.size
  have lz23 := hz5.lt
  have lz24 := hz11.lt
  have lz25 := hz18.lt
  refine wp_call1 (some 11) rfl 34 _ _ rfl (fun args w => by kernel_rfl) _ rfl _ (isLevels_c (L : Int) _) (fun e Wz20 h => ?_)
  obtain ⟨rfl, rfl⟩ := h
  rw [Hl.out]
  refine ⟨_, rfl, ?_⟩
  refine hK' _ _ ⟨hB, hz5, hz11, hz18⟩ (fun _ => trivial) ?_
  clear hK' K'
  go_frame
  refine y_yield 3 (some 12) (.bool true) rfl (by kernel_rfl) (by kernel_rfl) (by kernel_rfl) (fun _ _ _ h => h) rfl rfl ⟨hB, hz5, hz11, hz18⟩ (fun w' h' => exec_move _ rfl (.bool true) rfl) ?_
  go_frame
  refine y_yield 4 (some 13) (.int .i64 b) rfl (by kernel_rfl) (by kernel_rfl) (by kernel_rfl) (fun _ _ _ h => h) rfl rfl ⟨hB, hz5, hz11, hz18⟩ (fun w' h' => exec_load_one 2 _ rfl Wz8.heap.size 0 rfl (.int .i64 b) _ Try.underlying2 rfl (h'.2.2.2.at_ 0)) ?_
  go_frame
  refine y_oper 5 (by kernel_rfl) rfl rfl (fun K' hK' => ?_)
  have lz28 := hB.size
  have lz29 := hz5.lt
  have lz30 := hz11.lt
  have lz31 := hz18.lt
  refine wp_call1 (some 14) rfl 41 _ _ rfl (fun args w => by kernel_rfl) _ rfl _ (isBase_c b _) (fun e Wz26 h => ?_)
  obtain ⟨rfl, rfl⟩ := h
  rw [Hb.out]
  refine ⟨_, rfl, ?_⟩
  refine hK' _ _ ⟨hB, hz5, hz11, hz18⟩ (fun _ => trivial) ?_
  clear hK' K'
  go_frame
  refine y_yield 6 (some 15) (.bool true) rfl (by kernel_rfl) (by kernel_rfl) (by kernel_rfl) (fun _ _ _ h => h) rfl rfl ⟨hB, hz5, hz11, hz18⟩ (fun w' h' => exec_pick _ _ _ rfl true rfl (.bool true) rfl) ?_
  go_frame
  refine y_oper 7 (by kernel_rfl) rfl rfl (fun K' hK' => ?_)
  have lz34 := hB.size
  have lz35 := hz5.lt
  have lz36 := hz11.lt
  have lz37 := hz18.lt
  refine wp_call2 (some 16) rfl 33 _ _ _ rfl (fun args w => by kernel_rfl) _ _ rfl rfl _ (checkRepeated_c p n m k (some ⟨g, 0, none⟩) c qs true _ (hR.keep hB) hlen) (fun e Wz32 h => ?_)
  obtain ⟨rfl, bz33⟩ := h
  replace hB := below_after hB bz33
  replace hz5 := hz5.after bz33
  replace hz11 := hz11.after bz33
  replace hz18 := hz18.after bz33
  rw [H0.out]
  clear bz33
  refine ⟨_, rfl, ?_⟩
  refine hK' _ _ ⟨hB, hz5, hz11, hz18⟩ (fun _ => trivial) ?_
  clear hK' K'
  go_frame
  refine y_oper 8 (by kernel_rfl) rfl rfl (fun K' hK' => ?_)
  refine wp_exec (some 8) rfl (.int .i64 0) (exec_assign _ rfl (.int .i64 0) rfl) ?_
  refine hK' _ _ ⟨hB, hz5, hz11, hz18⟩ (fun _ => trivial) ?_
  clear hK' K'
  go_frame
  refine y_done (by kernel_rfl) ?_ _
  go_upto_region 2 with (fail)
  refine wp_region_lit ?_
  refine ls_ex (some 17) (.int .i64 0) rfl rfl (exec_move _ rfl (.int .i64 0) rfl) ?_
  go_frame
  refine ls_ex (some 18) (.bool false) rfl rfl (exec_neq _ _ _ _ rfl 0 0 rfl rfl false rfl) ?_
  go_frame
  refine wpList_nil ?_
  go_upto_region 4 with (fail)
  refine wp_region_lit ?_
  refine ls_ex (some 20) (.func (.func 43) #[] #[.pointer (some ⟨w.heap.size, 0, none⟩), .pointer (some ⟨Wz2.heap.size, 0, none⟩), .pointer (some ⟨Wz8.heap.size, 0, none⟩)]) rfl rfl (exec_mkf3 _ _ _ _ rfl _ _ _ rfl rfl rfl) ?_
  go_frame
  refine ls_op rfl (fun K' hK' => ?_)
  have lz40 := hB.size
  have lz41 := hz5.lt
  have lz42 := hz11.lt
  have lz43 := hz18.lt
  refine wp_call1 (some 21) rfl 42 _ _ rfl (fun args w => by kernel_rfl) _ rfl _ (doorI_ok 43 #[.pointer (some ⟨w.heap.size, 0, none⟩), .pointer (some ⟨Wz2.heap.size, 0, none⟩), .pointer (some ⟨Wz8.heap.size, 0, none⟩)] v 0 _ (fun w => by kernel_rfl) (fun w' hb => litM_some p n m k g c qs L b w' ((hR.keep hB).keep hb) Hs.out hn hL hb1 w.heap.size Wz2.heap.size Wz8.heap.size (At.after hz5 hb) (At.after hz11 hb) (At.after hz18 hb) v Ho.out)) (fun e Wz38 h => ?_)
  obtain ⟨rfl, bz39⟩ := h
  replace hB := below_after hB bz39
  replace hz5 := hz5.after bz39
  replace hz11 := hz11.after bz39
  replace hz18 := hz18.after bz39
  clear bz39
  refine ⟨_, rfl, ?_⟩
  refine hK' _ _ ?_
  clear hK' K'
  go_frame
  refine ls_ex (some 22) (.int .i64 v) rfl rfl (exec_extract _ 0 rfl #[.int .i64 v, .int .i64 0] (by rfl) _ rfl) ?_
  go_frame
  refine ls_ex (some 23) (.int .i64 0) rfl rfl (exec_extract _ 1 rfl #[.int .i64 v, .int .i64 0] (by rfl) _ rfl) ?_
  go_frame
  refine ls_ex (some 6) (.int .i64 v) rfl rfl (exec_assign _ rfl (.int .i64 v) rfl) ?_
  go_frame
  refine ls_ex (some 7) (.int .i64 0) rfl rfl (exec_assign _ rfl (.int .i64 0) rfl) ?_
  go_frame
  refine wpList_nil ?_
  go_wp2_with fail
  go_ret2
  exact ⟨by rw [Hr.out, Hc.out]; rfl, hB⟩
set_option maxHeartbeats 6400000 in
theorem specMc_a (p n m k : Int) (g c : Nat) (qs : List (List Nat)) (l b : Int) (w : World) (hR : Rd w (some ⟨g, 0, none⟩) qs) (hlen : qs.length ≤ 1048576) (hne : sqCode p n m k qs ((decide (0 ≤ l) && decide (l ≤ 8)) && (decide (1 ≤ b) && decide (b ≤ 1000))) ≠ 0) :
    Calls Try.prog 18 #[.agg #[.int .i64 p, .int .i64 n, .int .i64 m, .int .i64 k, .slice (some ⟨g, 0, none⟩) qs.length c], .int .i64 l, .int .i64 b] w (fun e w' => e = .returned (.tuple #[.int .i64 (mcR p n m k qs l b), .int .i64 (mcCode p n m k qs l b)]) ∧ Below w.heap.size w w') := by
  have hB := Below.refl w.heap.size w
  have Hc : Hid (mcCode p n m k qs l b = sqCode p n m k qs ((decide (0 ≤ l) && decide (l ≤ 8)) && (decide (1 ≤ b) && decide (b ≤ 1000)))) := Lib.hid (by unfold mcCode; rw [if_neg hne])
  have Hr : Hid (mcR p n m k qs l b = 0) := Lib.hid (by unfold mcR; rw [if_neg hne])
  have Hne : Hid ((sqCode p n m k qs ((decide (0 ≤ l) && decide (l ≤ 8)) && (decide (1 ≤ b) && decide (b ≤ 1000))) != 0) = true) := Lib.hid (by simpa using hne)
  clear hne
  go_enter Try.func18, Try.ntmps18
  go_upto_region 0 with (fail)
  refine wp_region_lit ?_
  refine ls_op rfl (fun K' hK' => ?_)
  have lz1 := hB.size
  refine wp_new (some 3) rfl (exec_box 31 _ rfl (#[.int .i64 p, .int .i64 n, .int .i64 m, .int .i64 k, .slice (some ⟨g, 0, none⟩) qs.length c]) rfl) (fun Wz2 nnz3 => ?_)
  have bz4 := nnz3.below (Below.refl _ _) (Nat.le_refl _)
  replace hB := below_after hB bz4
  have hz5 : At Wz2 w.heap.size (.cells #[.int .i64 p, .int .i64 n, .int .i64 m, .int .i64 k, .slice (some ⟨g, 0, none⟩) qs.length c] 31 (0, 0)) := nnz3.at_
  refine hK' _ _ ?_
  clear hK' K' nnz3 bz4
  go_frame
  refine ls_ex (some 6) (.int .i64 0) rfl rfl (exec_assign _ rfl (.int .i64 0) rfl) ?_
  go_frame
  refine ls_ex (some 7) (.int .i64 0) rfl rfl (exec_assign _ rfl (.int .i64 0) rfl) ?_
  go_frame
  refine wpList_nil ?_
  go_upto_region 1 with (fail)
  refine wp_region_lit ?_
  refine ls_ex (some 11) (.agg #[.int .i64 p, .int .i64 n, .int .i64 m, .int .i64 k, .slice (some ⟨g, 0, none⟩) qs.length c]) rfl rfl (exec_load_all 31 _ rfl w.heap.size rfl _ _ _ hz5 Try.underlying31 rfl 5 (by kernel_rfl) rfl) ?_
  go_frame
  refine ls_ex (some 12) (.int .i64 l) rfl rfl (exec_move _ rfl (.int .i64 l) rfl) ?_
  go_frame
  refine ls_ex (some 13) (.int .i64 b) rfl rfl (exec_move _ rfl (.int .i64 b) rfl) ?_
  go_frame
  refine ls_op rfl (fun K' hK' => ?_)
  have lz8 := hB.size
  have lz9 := hz5.lt
  refine wp_call3 (some 14) rfl 39 _ _ _ _ rfl (fun args w => by kernel_rfl) _ _ _ rfl rfl rfl _ (l06Code_c p n m k (some ⟨g, 0, none⟩) c qs l b _ (hR.keep hB) hlen) (fun e Wz6 h => ?_)
  obtain ⟨rfl, bz7⟩ := h
  replace hB := below_after hB bz7
  replace hz5 := hz5.after bz7
  clear bz7
  refine ⟨_, rfl, ?_⟩
  refine hK' _ _ ?_
  clear hK' K'
  go_frame
  refine ls_ex (some 8) (.int .i64 (sqCode p n m k qs ((decide (0 ≤ l) && decide (l ≤ 8)) && (decide (1 ≤ b) && decide (b ≤ 1000))))) rfl rfl (exec_assign _ rfl (.int .i64 (sqCode p n m k qs ((decide (0 ≤ l) && decide (l ≤ 8)) && (decide (1 ≤ b) && decide (b ≤ 1000))))) rfl) ?_
  go_frame
  refine wpList_nil ?_
  go_upto_region 2 with (fail)
  refine wp_region_lit ?_
  refine ls_ex (some 15) (.int .i64 (sqCode p n m k qs ((decide (0 ≤ l) && decide (l ≤ 8)) && (decide (1 ≤ b) && decide (b ≤ 1000))))) rfl rfl (exec_move _ rfl (.int .i64 (sqCode p n m k qs ((decide (0 ≤ l) && decide (l ≤ 8)) && (decide (1 ≤ b) && decide (b ≤ 1000))))) rfl) ?_
  go_frame
  refine ls_ex (some 16) (.bool true) rfl rfl (exec_neq _ _ _ _ rfl ((sqCode p n m k qs ((decide (0 ≤ l) && decide (l ≤ 8)) && (decide (1 ≤ b) && decide (b ≤ 1000))))) 0 rfl rfl true Hne.out) ?_
  go_frame
  refine wpList_nil ?_
  go_upto_region 3 with (fail)
  refine wp_region_lit ?_
  refine ls_ex (some 17) (.int .i64 (sqCode p n m k qs ((decide (0 ≤ l) && decide (l ≤ 8)) && (decide (1 ≤ b) && decide (b ≤ 1000))))) rfl rfl (exec_move _ rfl (.int .i64 (sqCode p n m k qs ((decide (0 ≤ l) && decide (l ≤ 8)) && (decide (1 ≤ b) && decide (b ≤ 1000))))) rfl) ?_
  go_frame
  refine ls_ex (some 6) (.int .i64 0) rfl rfl (exec_assign _ rfl (.int .i64 0) rfl) ?_
  go_frame
  refine ls_ex (some 7) (.int .i64 (sqCode p n m k qs ((decide (0 ≤ l) && decide (l ≤ 8)) && (decide (1 ≤ b) && decide (b ≤ 1000))))) rfl rfl (exec_assign _ rfl (.int .i64 (sqCode p n m k qs ((decide (0 ≤ l) && decide (l ≤ 8)) && (decide (1 ≤ b) && decide (b ≤ 1000))))) rfl) ?_
  go_frame
  refine wpList_nil ?_
  go_wp2_with fail
  go_ret2
  exact ⟨by rw [Hr.out, Hc.out]; rfl, hB⟩
set_option maxHeartbeats 6400000 in
theorem specMc_d (p n m k : Int) (g c : Nat) (qs : List (List Nat)) (L : Nat) (b : Int) (w : World) (hR : Rd w (some ⟨g, 0, none⟩) qs) (hlen : qs.length ≤ 1048576) (hl : (decide (0 ≤ (L : Int)) && decide ((L : Int) ≤ 8)) = true) (hb : (decide (1 ≤ b) && decide (b ≤ 1000)) = true) (h0 : sqCode p n m k qs true = 0) (ho : mxO (countsO qs.length (coAdd qs) n L b) = none) :
    Calls Try.prog 18 #[.agg #[.int .i64 p, .int .i64 n, .int .i64 m, .int .i64 k, .slice (some ⟨g, 0, none⟩) qs.length c], .int .i64 (L : Int), .int .i64 b] w (fun e w' => e = .returned (.tuple #[.int .i64 (mcR p n m k qs L b), .int .i64 (mcCode p n m k qs L b)]) ∧ Below w.heap.size w w') := by
  have hB := Below.refl w.heap.size w
  have hL : L ≤ 8 := by simp only [Bool.and_eq_true, decide_eq_true_eq] at hl; omega
  have hb1 : 1 ≤ b := by simp only [Bool.and_eq_true, decide_eq_true_eq] at hb; omega
  have hb5 : b ≤ 1000 := by simp only [Bool.and_eq_true, decide_eq_true_eq] at hb; omega
  have hf := sq_facts h0
  have hn : 2 ≤ n ∧ n ≤ 3 := ⟨hf.2.1, hf.2.2.1⟩
  have Hs := Lib.hid hf.1
  have H0 := Lib.hid h0
  have Hl := Lib.hid hl
  have Hb := Lib.hid hb
  have Ho := Lib.hid ho
  have hcc : sqCode p n m k qs ((decide (0 ≤ (L : Int)) && decide ((L : Int) ≤ 8)) && (decide (1 ≤ b) && decide (b ≤ 1000))) = 0 := by rw [hl, hb]; exact h0
  have HC0 := Lib.hid hcc
  have Hc : Hid (mcCode p n m k qs L b = 3) := Lib.hid (by unfold mcCode; rw [if_pos hcc, Int.toNat_natCast, ho])
  have Hr : Hid (mcR p n m k qs L b = 0) := Lib.hid (by unfold mcR; rw [if_pos hcc, Int.toNat_natCast, ho])
  clear hl hb h0 hf ho hcc
  go_enter Try.func18, Try.ntmps18
  go_upto_region 0 with (fail)
  refine wp_region_lit ?_
  refine ls_op rfl (fun K' hK' => ?_)
  have lz1 := hB.size
  refine wp_new (some 3) rfl (exec_box 31 _ rfl (#[.int .i64 p, .int .i64 n, .int .i64 m, .int .i64 k, .slice (some ⟨g, 0, none⟩) qs.length c]) rfl) (fun Wz2 nnz3 => ?_)
  have bz4 := nnz3.below (Below.refl _ _) (Nat.le_refl _)
  replace hB := below_after hB bz4
  have hz5 : At Wz2 w.heap.size (.cells #[.int .i64 p, .int .i64 n, .int .i64 m, .int .i64 k, .slice (some ⟨g, 0, none⟩) qs.length c] 31 (0, 0)) := nnz3.at_
  refine hK' _ _ ?_
  clear hK' K' nnz3 bz4
  go_frame
  refine ls_ex (some 6) (.int .i64 0) rfl rfl (exec_assign _ rfl (.int .i64 0) rfl) ?_
  go_frame
  refine ls_ex (some 7) (.int .i64 0) rfl rfl (exec_assign _ rfl (.int .i64 0) rfl) ?_
  go_frame
  refine wpList_nil ?_
  go_upto_region 1 with (fail)
  refine wp_region_lit ?_
  refine ls_ex (some 11) (.agg #[.int .i64 p, .int .i64 n, .int .i64 m, .int .i64 k, .slice (some ⟨g, 0, none⟩) qs.length c]) rfl rfl (exec_load_all 31 _ rfl w.heap.size rfl _ _ _ hz5 Try.underlying31 rfl 5 (by kernel_rfl) rfl) ?_
  go_frame
  refine ls_ex (some 12) (.int .i64 (L : Int)) rfl rfl (exec_move _ rfl (.int .i64 (L : Int)) rfl) ?_
  go_frame
  refine ls_ex (some 13) (.int .i64 b) rfl rfl (exec_move _ rfl (.int .i64 b) rfl) ?_
  go_frame
  refine ls_op rfl (fun K' hK' => ?_)
  have lz8 := hB.size
  have lz9 := hz5.lt
  refine wp_call3 (some 14) rfl 39 _ _ _ _ rfl (fun args w => by kernel_rfl) _ _ _ rfl rfl rfl _ (l06Code_c p n m k (some ⟨g, 0, none⟩) c qs (L : Int) b _ (hR.keep hB) hlen) (fun e Wz6 h => ?_)
  obtain ⟨rfl, bz7⟩ := h
  replace hB := below_after hB bz7
  replace hz5 := hz5.after bz7
  rw [HC0.out]
  clear bz7
  refine ⟨_, rfl, ?_⟩
  refine hK' _ _ ?_
  clear hK' K'
  go_frame
  refine ls_ex (some 8) (.int .i64 0) rfl rfl (exec_assign _ rfl (.int .i64 0) rfl) ?_
  go_frame
  refine wpList_nil ?_
  go_upto_region 2 with (fail)
  refine wp_region_lit ?_
  refine ls_ex (some 15) (.int .i64 0) rfl rfl (exec_move _ rfl (.int .i64 0) rfl) ?_
  go_frame
  refine ls_ex (some 16) (.bool false) rfl rfl (exec_neq _ _ _ _ rfl 0 0 rfl rfl false rfl) ?_
  go_frame
  refine wpList_nil ?_
  go_upto_region 4 with (fail)
  refine wp_region_lit ?_
  refine ls_ex (some 19) (.agg #[.int .i64 p, .int .i64 n, .int .i64 m, .int .i64 k, .slice (some ⟨g, 0, none⟩) qs.length c]) rfl rfl (exec_load_all 31 _ rfl w.heap.size rfl _ _ _ hz5 Try.underlying31 rfl 5 (by kernel_rfl) rfl) ?_
  go_frame
  refine ls_ex (some 20) (.int .i64 (L : Int)) rfl rfl (exec_move _ rfl (.int .i64 (L : Int)) rfl) ?_
  go_frame
  refine ls_ex (some 21) (.int .i64 b) rfl rfl (exec_move _ rfl (.int .i64 b) rfl) ?_
  go_frame
  refine ls_op rfl (fun K' hK' => ?_)
  have lz12 := hB.size
  have lz13 := hz5.lt
  refine wp_call3 (some 22) rfl 40 _ _ _ _ rfl (fun args w => by kernel_rfl) _ _ _ rfl rfl rfl _ (lmixedO_none p n m k g c qs L b _ (hR.keep hB) Hs.out hn hL ⟨hb1, by omega⟩ Ho.out) (fun e Wz10 h => ?_)
  obtain ⟨rfl, bz11⟩ := h
  replace hB := below_after hB bz11
  replace hz5 := hz5.after bz11
  clear bz11
  refine ⟨_, rfl, ?_⟩
  refine hK' _ _ ?_
  clear hK' K'
  go_frame
  refine ls_ex (some 18) (.tuple #[.int .i64 0, .bool false]) rfl rfl (exec_move _ rfl (.tuple #[.int .i64 0, .bool false]) rfl) ?_
  go_frame
  refine ls_ex (some 23) (.int .i64 0) rfl rfl (exec_extract _ 0 rfl #[.int .i64 0, .bool false] (by rfl) _ rfl) ?_
  go_frame
  refine ls_ex (some 24) (.bool false) rfl rfl (exec_extract _ 1 rfl #[.int .i64 0, .bool false] (by rfl) _ rfl) ?_
  go_frame
  refine ls_ex (some 9) (.int .i64 0) rfl rfl (exec_assign _ rfl (.int .i64 0) rfl) ?_
  go_frame
  refine ls_ex (some 10) (.bool false) rfl rfl (exec_assign _ rfl (.bool false) rfl) ?_
  go_frame
  refine wpList_nil ?_
  go_upto_region 5 with (fail)
  refine wp_region_lit ?_
  refine ls_ex (some 25) (.bool false) rfl rfl (exec_move _ rfl (.bool false) rfl) ?_
  go_frame
  refine ls_ex (some 26) (.bool true) rfl rfl (exec_not _ _ rfl false rfl) ?_
  go_frame
  refine wpList_nil ?_
  go_upto_region 6 with (fail)
  refine wp_region_lit ?_
  refine ls_ex (some 6) (.int .i64 0) rfl rfl (exec_assign _ rfl (.int .i64 0) rfl) ?_
  go_frame
  refine ls_ex (some 7) (.int .i64 3) rfl rfl (exec_assign _ rfl (.int .i64 3) rfl) ?_
  go_frame
  refine wpList_nil ?_
  go_wp2_with fail
  go_ret2
  exact ⟨by rw [Hr.out, Hc.out]; rfl, hB⟩
set_option maxHeartbeats 6400000 in
theorem specMc_e (p n m k : Int) (g c : Nat) (qs : List (List Nat)) (L : Nat) (b : Int) (w : World) (hR : Rd w (some ⟨g, 0, none⟩) qs) (hlen : qs.length ≤ 1048576) (hl : (decide (0 ≤ (L : Int)) && decide ((L : Int) ≤ 8)) = true) (hb : (decide (1 ≤ b) && decide (b ≤ 1000)) = true) (h0 : sqCode p n m k qs true = 0) (v : Int) (ho : mxO (countsO qs.length (coAdd qs) n L b) = some v) :
    Calls Try.prog 18 #[.agg #[.int .i64 p, .int .i64 n, .int .i64 m, .int .i64 k, .slice (some ⟨g, 0, none⟩) qs.length c], .int .i64 (L : Int), .int .i64 b] w (fun e w' => e = .returned (.tuple #[.int .i64 (mcR p n m k qs L b), .int .i64 (mcCode p n m k qs L b)]) ∧ Below w.heap.size w w') := by
  have hB := Below.refl w.heap.size w
  have hL : L ≤ 8 := by simp only [Bool.and_eq_true, decide_eq_true_eq] at hl; omega
  have hb1 : 1 ≤ b := by simp only [Bool.and_eq_true, decide_eq_true_eq] at hb; omega
  have hb5 : b ≤ 1000 := by simp only [Bool.and_eq_true, decide_eq_true_eq] at hb; omega
  have hf := sq_facts h0
  have hn : 2 ≤ n ∧ n ≤ 3 := ⟨hf.2.1, hf.2.2.1⟩
  have Hs := Lib.hid hf.1
  have H0 := Lib.hid h0
  have Hl := Lib.hid hl
  have Hb := Lib.hid hb
  have Ho := Lib.hid ho
  have hcc : sqCode p n m k qs ((decide (0 ≤ (L : Int)) && decide ((L : Int) ≤ 8)) && (decide (1 ≤ b) && decide (b ≤ 1000))) = 0 := by rw [hl, hb]; exact h0
  have HC0 := Lib.hid hcc
  have Hc : Hid (mcCode p n m k qs L b = 0) := Lib.hid (by unfold mcCode; rw [if_pos hcc, Int.toNat_natCast, ho])
  have Hr : Hid (mcR p n m k qs L b = v) := Lib.hid (by unfold mcR; rw [if_pos hcc, Int.toNat_natCast, ho])
  clear hl hb h0 hf ho hcc
  go_enter Try.func18, Try.ntmps18
  go_upto_region 0 with (fail)
  refine wp_region_lit ?_
  refine ls_op rfl (fun K' hK' => ?_)
  have lz1 := hB.size
  refine wp_new (some 3) rfl (exec_box 31 _ rfl (#[.int .i64 p, .int .i64 n, .int .i64 m, .int .i64 k, .slice (some ⟨g, 0, none⟩) qs.length c]) rfl) (fun Wz2 nnz3 => ?_)
  have bz4 := nnz3.below (Below.refl _ _) (Nat.le_refl _)
  replace hB := below_after hB bz4
  have hz5 : At Wz2 w.heap.size (.cells #[.int .i64 p, .int .i64 n, .int .i64 m, .int .i64 k, .slice (some ⟨g, 0, none⟩) qs.length c] 31 (0, 0)) := nnz3.at_
  refine hK' _ _ ?_
  clear hK' K' nnz3 bz4
  go_frame
  refine ls_ex (some 6) (.int .i64 0) rfl rfl (exec_assign _ rfl (.int .i64 0) rfl) ?_
  go_frame
  refine ls_ex (some 7) (.int .i64 0) rfl rfl (exec_assign _ rfl (.int .i64 0) rfl) ?_
  go_frame
  refine wpList_nil ?_
  go_upto_region 1 with (fail)
  refine wp_region_lit ?_
  refine ls_ex (some 11) (.agg #[.int .i64 p, .int .i64 n, .int .i64 m, .int .i64 k, .slice (some ⟨g, 0, none⟩) qs.length c]) rfl rfl (exec_load_all 31 _ rfl w.heap.size rfl _ _ _ hz5 Try.underlying31 rfl 5 (by kernel_rfl) rfl) ?_
  go_frame
  refine ls_ex (some 12) (.int .i64 (L : Int)) rfl rfl (exec_move _ rfl (.int .i64 (L : Int)) rfl) ?_
  go_frame
  refine ls_ex (some 13) (.int .i64 b) rfl rfl (exec_move _ rfl (.int .i64 b) rfl) ?_
  go_frame
  refine ls_op rfl (fun K' hK' => ?_)
  have lz8 := hB.size
  have lz9 := hz5.lt
  refine wp_call3 (some 14) rfl 39 _ _ _ _ rfl (fun args w => by kernel_rfl) _ _ _ rfl rfl rfl _ (l06Code_c p n m k (some ⟨g, 0, none⟩) c qs (L : Int) b _ (hR.keep hB) hlen) (fun e Wz6 h => ?_)
  obtain ⟨rfl, bz7⟩ := h
  replace hB := below_after hB bz7
  replace hz5 := hz5.after bz7
  rw [HC0.out]
  clear bz7
  refine ⟨_, rfl, ?_⟩
  refine hK' _ _ ?_
  clear hK' K'
  go_frame
  refine ls_ex (some 8) (.int .i64 0) rfl rfl (exec_assign _ rfl (.int .i64 0) rfl) ?_
  go_frame
  refine wpList_nil ?_
  go_upto_region 2 with (fail)
  refine wp_region_lit ?_
  refine ls_ex (some 15) (.int .i64 0) rfl rfl (exec_move _ rfl (.int .i64 0) rfl) ?_
  go_frame
  refine ls_ex (some 16) (.bool false) rfl rfl (exec_neq _ _ _ _ rfl 0 0 rfl rfl false rfl) ?_
  go_frame
  refine wpList_nil ?_
  go_upto_region 4 with (fail)
  refine wp_region_lit ?_
  refine ls_ex (some 19) (.agg #[.int .i64 p, .int .i64 n, .int .i64 m, .int .i64 k, .slice (some ⟨g, 0, none⟩) qs.length c]) rfl rfl (exec_load_all 31 _ rfl w.heap.size rfl _ _ _ hz5 Try.underlying31 rfl 5 (by kernel_rfl) rfl) ?_
  go_frame
  refine ls_ex (some 20) (.int .i64 (L : Int)) rfl rfl (exec_move _ rfl (.int .i64 (L : Int)) rfl) ?_
  go_frame
  refine ls_ex (some 21) (.int .i64 b) rfl rfl (exec_move _ rfl (.int .i64 b) rfl) ?_
  go_frame
  refine ls_op rfl (fun K' hK' => ?_)
  have lz12 := hB.size
  have lz13 := hz5.lt
  refine wp_call3 (some 22) rfl 40 _ _ _ _ rfl (fun args w => by kernel_rfl) _ _ _ rfl rfl rfl _ (lmixedO_some p n m k g c qs L b _ (hR.keep hB) Hs.out hn hL ⟨hb1, by omega⟩ v Ho.out) (fun e Wz10 h => ?_)
  obtain ⟨rfl, bz11⟩ := h
  replace hB := below_after hB bz11
  replace hz5 := hz5.after bz11
  clear bz11
  refine ⟨_, rfl, ?_⟩
  refine hK' _ _ ?_
  clear hK' K'
  go_frame
  refine ls_ex (some 18) (.tuple #[.int .i64 v, .bool true]) rfl rfl (exec_move _ rfl (.tuple #[.int .i64 v, .bool true]) rfl) ?_
  go_frame
  refine ls_ex (some 23) (.int .i64 v) rfl rfl (exec_extract _ 0 rfl #[.int .i64 v, .bool true] (by rfl) _ rfl) ?_
  go_frame
  refine ls_ex (some 24) (.bool true) rfl rfl (exec_extract _ 1 rfl #[.int .i64 v, .bool true] (by rfl) _ rfl) ?_
  go_frame
  refine ls_ex (some 9) (.int .i64 v) rfl rfl (exec_assign _ rfl (.int .i64 v) rfl) ?_
  go_frame
  refine ls_ex (some 10) (.bool true) rfl rfl (exec_assign _ rfl (.bool true) rfl) ?_
  go_frame
  refine wpList_nil ?_
  go_upto_region 5 with (fail)
  refine wp_region_lit ?_
  refine ls_ex (some 25) (.bool true) rfl rfl (exec_move _ rfl (.bool true) rfl) ?_
  go_frame
  refine ls_ex (some 26) (.bool false) rfl rfl (exec_not _ _ rfl true rfl) ?_
  go_frame
  refine wpList_nil ?_
  go_upto_region 7 with (fail)
  refine wp_region_lit ?_
  refine ls_ex (some 27) (.int .i64 v) rfl rfl (exec_move _ rfl (.int .i64 v) rfl) ?_
  go_frame
  refine ls_ex (some 6) (.int .i64 v) rfl rfl (exec_assign _ rfl (.int .i64 v) rfl) ?_
  go_frame
  refine ls_ex (some 7) (.int .i64 0) rfl rfl (exec_assign _ rfl (.int .i64 0) rfl) ?_
  go_frame
  refine wpList_nil ?_
  go_wp2_with fail
  go_ret2
  exact ⟨by rw [Hr.out, Hc.out]; rfl, hB⟩
theorem implMixedCost_c (p n m k : Int) (g c : Nat) (qs : List (List Nat)) (l b : Int) (w : World) (hR : Rd w (some ⟨g, 0, none⟩) qs) (hlen : qs.length ≤ 1048576) : Calls Try.prog 19 #[.agg #[.int .i64 p, .int .i64 n, .int .i64 m, .int .i64 k, .slice (some ⟨g, 0, none⟩) qs.length c], .int .i64 l, .int .i64 b] w (fun e w' => e = .returned (.tuple #[.int .i64 (mcR p n m k qs l b), .int .i64 (mcCode p n m k qs l b)]) ∧ Below w.heap.size w w') := by
  by_cases hl : (decide (0 ≤ l) && decide (l ≤ 8)) = true
  · by_cases hb : (decide (1 ≤ b) && decide (b ≤ 1000)) = true
    · by_cases h0 : sqCode p n m k qs true = 0
      · obtain ⟨L, rfl⟩ := Int.eq_ofNat_of_zero_le (show 0 ≤ l by simp only [Bool.and_eq_true, decide_eq_true_eq] at hl; omega)
        cases ho : mxO (countsO qs.length (coAdd qs) n L b) with
        | none => exact implMc_d p n m k g c qs L b w hR hlen hl hb h0 ho
        | some v => exact implMc_e p n m k g c qs L b w hR hlen hl hb h0 v ho
      · exact implMc_c p n m k g c qs l b w hR hlen hl hb h0
    · exact implMc_b p n m k g c qs l b w hR hlen hl (eq_false_of_ne_true hb)
  · exact implMc_a p n m k g c qs l b w hR hlen (eq_false_of_ne_true hl)
theorem specMixedCost_c (p n m k : Int) (g c : Nat) (qs : List (List Nat)) (l b : Int) (w : World) (hR : Rd w (some ⟨g, 0, none⟩) qs) (hlen : qs.length ≤ 1048576) : Calls Try.prog 18 #[.agg #[.int .i64 p, .int .i64 n, .int .i64 m, .int .i64 k, .slice (some ⟨g, 0, none⟩) qs.length c], .int .i64 l, .int .i64 b] w (fun e w' => e = .returned (.tuple #[.int .i64 (mcR p n m k qs l b), .int .i64 (mcCode p n m k qs l b)]) ∧ Below w.heap.size w w') := by
  by_cases h0 : sqCode p n m k qs ((decide (0 ≤ l) && decide (l ≤ 8)) && (decide (1 ≤ b) && decide (b ≤ 1000))) = 0
  · have hq := (sq_facts h0).2.2.2.2.2
    have hl : (decide (0 ≤ l) && decide (l ≤ 8)) = true := by rw [Bool.and_eq_true] at hq; exact hq.1
    have hb : (decide (1 ≤ b) && decide (b ≤ 1000)) = true := by rw [Bool.and_eq_true] at hq; exact hq.2
    rw [hl, hb] at h0
    obtain ⟨L, rfl⟩ := Int.eq_ofNat_of_zero_le (show 0 ≤ l by simp only [Bool.and_eq_true, decide_eq_true_eq] at hl; omega)
    cases ho : mxO (countsO qs.length (coAdd qs) n L b) with
    | none => exact specMc_d p n m k g c qs L b w hR hlen hl hb h0 ho
    | some v => exact specMc_e p n m k g c qs L b w hR hlen hl hb h0 v ho
  · exact specMc_a p n m k g c qs l b w hR hlen h0
set_option maxHeartbeats 6400000 in
theorem implRc_a (p n m k : Int) (g c : Nat) (qs : List (List Nat)) (l : Int) (w : World) (hR : Rd w (some ⟨g, 0, none⟩) qs) (hlen : qs.length ≤ 1048576) (hne : sqCode p n m k qs (decide (0 ≤ l) && decide (l ≤ 8)) ≠ 0) :
    Calls Try.prog 17 #[.agg #[.int .i64 p, .int .i64 n, .int .i64 m, .int .i64 k, .slice (some ⟨g, 0, none⟩) qs.length c], .int .i64 l] w (ResI w (rcR p n m k qs l) (rcCode p n m k qs l)) := by
  have hB := Below.refl w.heap.size w
  have Hc : Hid (rcCode p n m k qs l = sqCode p n m k qs (decide (0 ≤ l) && decide (l ≤ 8))) := Lib.hid (by unfold rcCode; rw [if_neg hne])
  have Hr : Hid (rcR p n m k qs l = []) := Lib.hid (by unfold rcR; rw [if_neg hne])
  have Hne : Hid ((sqCode p n m k qs (decide (0 ≤ l) && decide (l ≤ 8)) != 0) = true) := Lib.hid (by simpa using hne)
  clear hne
  go_enter Try.func17, Try.ntmps17
  go_upto_region 0 with (fail)
  refine wp_region_lit ?_
  refine ls_op rfl (fun K' hK' => ?_)
  have lz1 := hB.size
  refine wp_new (some 2) rfl (exec_box 31 _ rfl (#[.int .i64 p, .int .i64 n, .int .i64 m, .int .i64 k, .slice (some ⟨g, 0, none⟩) qs.length c]) rfl) (fun Wz2 nnz3 => ?_)
  have bz4 := nnz3.below (Below.refl _ _) (Nat.le_refl _)
  replace hB := below_after hB bz4
  have hz5 : At Wz2 w.heap.size (.cells #[.int .i64 p, .int .i64 n, .int .i64 m, .int .i64 k, .slice (some ⟨g, 0, none⟩) qs.length c] 31 (0, 0)) := nnz3.at_
  refine hK' _ _ ?_
  clear hK' K' nnz3 bz4
  go_frame
  refine ls_op rfl (fun K' hK' => ?_)
  have lz6 := hB.size
  have lz7 := hz5.lt
  refine wp_new (some 3) rfl (exec_box 2 _ rfl (#[.int .i64 l]) rfl) (fun Wz8 nnz9 => ?_)
  have bz10 := nnz9.below (Below.refl _ _) (Nat.le_refl _)
  replace hB := below_after hB bz10
  replace hz5 := hz5.after bz10
  have hz11 : At Wz8 Wz2.heap.size (.cells #[.int .i64 l] 2 (0, 0)) := nnz9.at_
  refine hK' _ _ ?_
  clear hK' K' nnz9 bz10
  go_frame
  refine ls_ex (some 4) (.slice none 0 0) rfl rfl (exec_assign _ rfl (.slice none 0 0) rfl) ?_
  go_frame
  refine ls_ex (some 5) (.int .i64 0) rfl rfl (exec_assign _ rfl (.int .i64 0) rfl) ?_
  go_frame
  refine wpList_nil ?_
  go_upto_region 1 with (fail)
  refine wp_region_y (zs := []) (S := fun w' => Below w.heap.size w w' ∧ At w' w.heap.size (.cells #[.int .i64 p, .int .i64 n, .int .i64 m, .int .i64 k, .slice (some ⟨g, 0, none⟩) qs.length c] 31 (0, 0)) ∧ At w' Wz2.heap.size (.cells #[.int .i64 l] 2 (0, 0))) (S2 := fun w' => True) (by kernel_rfl) ?_
  change wpAnyY _ _ _ _ _ _ _ _ _ _ (World.drew _)
  generalize hwdz12 : World.drew _ = wdz12
  replace hB : Below w.heap.size w wdz12 := by rw [← hwdz12]; exact hB.drew
  replace hz5 : At wdz12 w.heap.size (.cells #[.int .i64 p, .int .i64 n, .int .i64 m, .int .i64 k, .slice (some ⟨g, 0, none⟩) qs.length c] 31 (0, 0)) := by rw [← hwdz12]; exact hz5
  replace hz11 : At wdz12 Wz2.heap.size (.cells #[.int .i64 l] 2 (0, 0)) := by rw [← hwdz12]; exact hz11
  clear hwdz12
  refine y_yield 0 (some 7) (.agg #[.int .i64 p, .int .i64 n, .int .i64 m, .int .i64 k, .slice (some ⟨g, 0, none⟩) qs.length c]) rfl (by kernel_rfl) (by kernel_rfl) (by kernel_rfl) (fun _ _ _ h => h) rfl rfl ⟨hB, hz5, hz11⟩ (fun w' h' => exec_load_all 31 _ rfl w.heap.size rfl _ _ _ h'.2.1 Try.underlying31 rfl 5 (by kernel_rfl) rfl) ?_
  go_frame
  refine y_yield 1 (some 8) (.int .i64 l) rfl (by kernel_rfl) (by kernel_rfl) (by kernel_rfl) (fun _ _ _ h => h) rfl rfl ⟨hB, hz5, hz11⟩ (fun w' h' => exec_load_one 2 _ rfl Wz2.heap.size 0 rfl (.int .i64 l) _ Try.underlying2 rfl (h'.2.2.at_ 0)) ?_
  go_frame
  refine y_oper 2 (by kernel_rfl) rfl rfl (fun K' hK' => ?_)
  have lz15 := hB.size
  have lz16 := hz5.lt
  have lz17 := hz11.lt
  refine wp_call1 (some 9) rfl 34 _ _ rfl (fun args w => by kernel_rfl) _ rfl _ (isLevels_c l _) (fun e Wz13 h => ?_)
  obtain ⟨rfl, rfl⟩ := h
  refine ⟨_, rfl, ?_⟩
  refine hK' _ _ ⟨hB, hz5, hz11⟩ (fun _ => trivial) ?_
  clear hK' K'
  go_frame
  refine y_oper 3 (by kernel_rfl) rfl rfl (fun K' hK' => ?_)
  have lz20 := hB.size
  have lz21 := hz5.lt
  have lz22 := hz11.lt
  refine wp_call2 (some 10) rfl 33 _ _ _ rfl (fun args w => by kernel_rfl) _ _ rfl rfl _ (checkRepeated_c p n m k (some ⟨g, 0, none⟩) c qs (decide (0 ≤ l) && decide (l ≤ 8)) _ (hR.keep hB) hlen) (fun e Wz18 h => ?_)
  obtain ⟨rfl, bz19⟩ := h
  replace hB := below_after hB bz19
  replace hz5 := hz5.after bz19
  replace hz11 := hz11.after bz19
  clear bz19
  refine ⟨_, rfl, ?_⟩
  refine hK' _ _ ⟨hB, hz5, hz11⟩ (fun _ => trivial) ?_
  clear hK' K'
  go_frame
  refine y_oper 4 (by kernel_rfl) rfl rfl (fun K' hK' => ?_)
  refine wp_exec (some 6) rfl (.int .i64 (sqCode p n m k qs (decide (0 ≤ l) && decide (l ≤ 8)))) (exec_assign _ rfl (.int .i64 (sqCode p n m k qs (decide (0 ≤ l) && decide (l ≤ 8)))) rfl) ?_
  refine hK' _ _ ⟨hB, hz5, hz11⟩ (fun _ => trivial) ?_
  clear hK' K'
  go_frame
  refine y_done (by kernel_rfl) ?_ _
  go_upto_region 2 with (fail)
  refine wp_region_lit ?_
  refine ls_ex (some 11) (.int .i64 (sqCode p n m k qs (decide (0 ≤ l) && decide (l ≤ 8)))) rfl rfl (exec_move _ rfl (.int .i64 (sqCode p n m k qs (decide (0 ≤ l) && decide (l ≤ 8)))) rfl) ?_
  go_frame
  refine ls_ex (some 12) (.bool true) rfl rfl (exec_neq _ _ _ _ rfl ((sqCode p n m k qs (decide (0 ≤ l) && decide (l ≤ 8)))) 0 rfl rfl true Hne.out) ?_
  go_frame
  refine wpList_nil ?_
  go_upto_region 3 with (fail)
  refine wp_region_lit ?_
  refine ls_ex (some 13) (.int .i64 (sqCode p n m k qs (decide (0 ≤ l) && decide (l ≤ 8)))) rfl rfl (exec_move _ rfl (.int .i64 (sqCode p n m k qs (decide (0 ≤ l) && decide (l ≤ 8)))) rfl) ?_
  go_frame
  refine ls_ex (some 4) (.slice none 0 0) rfl rfl (exec_assign _ rfl (.slice none 0 0) rfl) ?_
  go_frame
  refine ls_ex (some 5) (.int .i64 (sqCode p n m k qs (decide (0 ≤ l) && decide (l ≤ 8)))) rfl rfl (exec_assign _ rfl (.int .i64 (sqCode p n m k qs (decide (0 ≤ l) && decide (l ≤ 8)))) rfl) ?_
  go_frame
  refine wpList_nil ?_
  go_wp2_with fail
  go_ret2
  exact ⟨_, by rw [Hc.out]; rfl, by rw [Hr.out]; exact OwnI.nil _ _, hB⟩
set_option maxHeartbeats 6400000 in
theorem implRc_d (p n m k : Int) (g c : Nat) (qs : List (List Nat)) (L : Nat) (w : World) (hR : Rd w (some ⟨g, 0, none⟩) qs) (hlen : qs.length ≤ 1048576) (h0 : sqCode p n m k qs (decide (0 ≤ (L : Int)) && decide ((L : Int) ≤ 8)) = 0) (ho : countsO qs.length (coAdd qs) n L 1 = none) :
    Calls Try.prog 17 #[.agg #[.int .i64 p, .int .i64 n, .int .i64 m, .int .i64 k, .slice (some ⟨g, 0, none⟩) qs.length c], .int .i64 (L : Int)] w (ResI w (rcR p n m k qs L) (rcCode p n m k qs L)) := by
  have hB := Below.refl w.heap.size w
  have hf := sq_facts h0
  have hl : (decide (0 ≤ (L : Int)) && decide ((L : Int) ≤ 8)) = true := hf.2.2.2.2.2
  have hL : L ≤ 8 := by simp only [Bool.and_eq_true, decide_eq_true_eq] at hl; omega
  have hn : 2 ≤ n ∧ n ≤ 3 := ⟨hf.2.1, hf.2.2.1⟩
  have Hs := Lib.hid hf.1
  have H0 := Lib.hid h0
  have Hl := Lib.hid hl
  have H1 : Hid (sqCode p n m k qs true = 0) := Lib.hid (by rw [hl] at h0; exact h0)
  have Ho := Lib.hid ho
  have Hc : Hid (rcCode p n m k qs L = 3) := Lib.hid (by unfold rcCode; rw [if_pos h0, Int.toNat_natCast, ho])
  have Hr : Hid (rcR p n m k qs L = []) := Lib.hid (by unfold rcR; rw [if_pos h0, Int.toNat_natCast, ho])
  clear hl h0 hf ho
  go_enter Try.func17, Try.ntmps17
  go_upto_region 0 with (fail)
  refine wp_region_lit ?_
  refine ls_op rfl (fun K' hK' => ?_)
  have lz1 := hB.size
  refine wp_new (some 2) rfl (exec_box 31 _ rfl (#[.int .i64 p, .int .i64 n, .int .i64 m, .int .i64 k, .slice (some ⟨g, 0, none⟩) qs.length c]) rfl) (fun Wz2 nnz3 => ?_)
  have bz4 := nnz3.below (Below.refl _ _) (Nat.le_refl _)
  replace hB := below_after hB bz4
  have hz5 : At Wz2 w.heap.size (.cells #[.int .i64 p, .int .i64 n, .int .i64 m, .int .i64 k, .slice (some ⟨g, 0, none⟩) qs.length c] 31 (0, 0)) := nnz3.at_
  refine hK' _ _ ?_
  clear hK' K' nnz3 bz4
  go_frame
  refine ls_op rfl (fun K' hK' => ?_)
  have lz6 := hB.size
  have lz7 := hz5.lt
  refine wp_new (some 3) rfl (exec_box 2 _ rfl (#[.int .i64 (L : Int)]) rfl) (fun Wz8 nnz9 => ?_)
  have bz10 := nnz9.below (Below.refl _ _) (Nat.le_refl _)
  replace hB := below_after hB bz10
  replace hz5 := hz5.after bz10
  have hz11 : At Wz8 Wz2.heap.size (.cells #[.int .i64 (L : Int)] 2 (0, 0)) := nnz9.at_
  refine hK' _ _ ?_
  clear hK' K' nnz9 bz10
  go_frame
  refine ls_ex (some 4) (.slice none 0 0) rfl rfl (exec_assign _ rfl (.slice none 0 0) rfl) ?_
  go_frame
  refine ls_ex (some 5) (.int .i64 0) rfl rfl (exec_assign _ rfl (.int .i64 0) rfl) ?_
  go_frame
  refine wpList_nil ?_
  go_upto_region 1 with (fail)
  refine wp_region_y (zs := []) (S := fun w' => Below w.heap.size w w' ∧ At w' w.heap.size (.cells #[.int .i64 p, .int .i64 n, .int .i64 m, .int .i64 k, .slice (some ⟨g, 0, none⟩) qs.length c] 31 (0, 0)) ∧ At w' Wz2.heap.size (.cells #[.int .i64 (L : Int)] 2 (0, 0))) (S2 := fun w' => True) (by kernel_rfl) ?_
  change wpAnyY _ _ _ _ _ _ _ _ _ _ (World.drew _)
  generalize hwdz12 : World.drew _ = wdz12
  replace hB : Below w.heap.size w wdz12 := by rw [← hwdz12]; exact hB.drew
  replace hz5 : At wdz12 w.heap.size (.cells #[.int .i64 p, .int .i64 n, .int .i64 m, .int .i64 k, .slice (some ⟨g, 0, none⟩) qs.length c] 31 (0, 0)) := by rw [← hwdz12]; exact hz5
  replace hz11 : At wdz12 Wz2.heap.size (.cells #[.int .i64 (L : Int)] 2 (0, 0)) := by rw [← hwdz12]; exact hz11
  clear hwdz12
  refine y_yield 0 (some 7) (.agg #[.int .i64 p, .int .i64 n, .int .i64 m, .int .i64 k, .slice (some ⟨g, 0, none⟩) qs.length c]) rfl (by kernel_rfl) (by kernel_rfl) (by kernel_rfl) (fun _ _ _ h => h) rfl rfl ⟨hB, hz5, hz11⟩ (fun w' h' => exec_load_all 31 _ rfl w.heap.size rfl _ _ _ h'.2.1 Try.underlying31 rfl 5 (by kernel_rfl) rfl) ?_
  go_frame
  refine y_yield 1 (some 8) (.int .i64 (L : Int)) rfl (by kernel_rfl) (by kernel_rfl) (by kernel_rfl) (fun _ _ _ h => h) rfl rfl ⟨hB, hz5, hz11⟩ (fun w' h' => exec_load_one 2 _ rfl Wz2.heap.size 0 rfl (.int .i64 (L : Int)) _ Try.underlying2 rfl (h'.2.2.at_ 0)) ?_
  go_frame
  refine y_oper 2 (by kernel_rfl) rfl rfl (fun K' hK' => ?_)
  have lz15 := hB.size
  have lz16 := hz5.lt
  have lz17 := hz11.lt
  refine wp_call1 (some 9) rfl 34 _ _ rfl (fun args w => by kernel_rfl) _ rfl _ (isLevels_c (L : Int) _) (fun e Wz13 h => ?_)
  obtain ⟨rfl, rfl⟩ := h
  refine ⟨_, rfl, ?_⟩
  refine hK' _ _ ⟨hB, hz5, hz11⟩ (fun _ => trivial) ?_
  clear hK' K'
  go_frame
  refine y_oper 3 (by kernel_rfl) rfl rfl (fun K' hK' => ?_)
  have lz20 := hB.size
  have lz21 := hz5.lt
  have lz22 := hz11.lt
  refine wp_call2 (some 10) rfl 33 _ _ _ rfl (fun args w => by kernel_rfl) _ _ rfl rfl _ (checkRepeated_c p n m k (some ⟨g, 0, none⟩) c qs (decide (0 ≤ (L : Int)) && decide ((L : Int) ≤ 8)) _ (hR.keep hB) hlen) (fun e Wz18 h => ?_)
  obtain ⟨rfl, bz19⟩ := h
  replace hB := below_after hB bz19
  replace hz5 := hz5.after bz19
  replace hz11 := hz11.after bz19
  rw [H0.out]
  clear bz19
  refine ⟨_, rfl, ?_⟩
  refine hK' _ _ ⟨hB, hz5, hz11⟩ (fun _ => trivial) ?_
  clear hK' K'
  go_frame
  refine y_oper 4 (by kernel_rfl) rfl rfl (fun K' hK' => ?_)
  refine wp_exec (some 6) rfl (.int .i64 0) (exec_assign _ rfl (.int .i64 0) rfl) ?_
  refine hK' _ _ ⟨hB, hz5, hz11⟩ (fun _ => trivial) ?_
  clear hK' K'
  go_frame
  refine y_done (by kernel_rfl) ?_ _
  go_upto_region 2 with (fail)
  refine wp_region_lit ?_
  refine ls_ex (some 11) (.int .i64 0) rfl rfl (exec_move _ rfl (.int .i64 0) rfl) ?_
  go_frame
  refine ls_ex (some 12) (.bool false) rfl rfl (exec_neq _ _ _ _ rfl 0 0 rfl rfl false rfl) ?_
  go_frame
  refine wpList_nil ?_
  go_upto_region 4 with (fail)
  refine wp_region_lit ?_
  refine ls_ex (some 14) (.func (.func 36) #[] #[.pointer (some ⟨w.heap.size, 0, none⟩), .pointer (some ⟨Wz2.heap.size, 0, none⟩)]) rfl rfl (exec_mkf2 _ _ _ rfl _ _ rfl rfl) ?_
  go_frame
  refine ls_op rfl (fun K' hK' => ?_)
  have lz25 := hB.size
  have lz26 := hz5.lt
  have lz27 := hz11.lt
  refine wp_call1 (some 15) rfl 35 _ _ rfl (fun args w => by kernel_rfl) _ rfl _ (doorL_no 36 #[.pointer (some ⟨w.heap.size, 0, none⟩), .pointer (some ⟨Wz2.heap.size, 0, none⟩)] _ (fun w => by kernel_rfl) (fun w' hb => litR_none p n m k g c qs L w' ((hR.keep hB).keep hb) Hs.out hn hL w.heap.size Wz2.heap.size (At.after hz5 hb) (At.after hz11 hb) Ho.out)) (fun e Wz23 h => ?_)
  obtain ⟨rfl, bz24⟩ := h
  replace hB := below_after hB bz24
  replace hz5 := hz5.after bz24
  replace hz11 := hz11.after bz24
  clear bz24
  refine ⟨_, rfl, ?_⟩
  refine hK' _ _ ?_
  clear hK' K'
  go_frame
  refine ls_ex (some 16) (.slice none 0 0) rfl rfl (exec_extract _ 0 rfl #[.slice none 0 0, .int .i64 3] (by rfl) _ rfl) ?_
  go_frame
  refine ls_ex (some 17) (.int .i64 3) rfl rfl (exec_extract _ 1 rfl #[.slice none 0 0, .int .i64 3] (by rfl) _ rfl) ?_
  go_frame
  refine ls_ex (some 4) (.slice none 0 0) rfl rfl (exec_assign _ rfl (.slice none 0 0) rfl) ?_
  go_frame
  refine ls_ex (some 5) (.int .i64 3) rfl rfl (exec_assign _ rfl (.int .i64 3) rfl) ?_
  go_frame
  refine wpList_nil ?_
  go_wp2_with fail
  go_ret2
  exact ⟨_, by rw [Hc.out]; rfl, by rw [Hr.out]; exact OwnI.nil _ _, hB⟩
set_option maxHeartbeats 6400000 in
theorem implRc_e (p n m k : Int) (g c : Nat) (qs : List (List Nat)) (L : Nat) (w : World) (hR : Rd w (some ⟨g, 0, none⟩) qs) (hlen : qs.length ≤ 1048576) (h0 : sqCode p n m k qs (decide (0 ≤ (L : Int)) && decide ((L : Int) ≤ 8)) = 0) (t s : Int) (ho : countsO qs.length (coAdd qs) n L 1 = some (t, s)) :
    Calls Try.prog 17 #[.agg #[.int .i64 p, .int .i64 n, .int .i64 m, .int .i64 k, .slice (some ⟨g, 0, none⟩) qs.length c], .int .i64 (L : Int)] w (ResI w (rcR p n m k qs L) (rcCode p n m k qs L)) := by
  have hB := Below.refl w.heap.size w
  have hf := sq_facts h0
  have hl : (decide (0 ≤ (L : Int)) && decide ((L : Int) ≤ 8)) = true := hf.2.2.2.2.2
  have hL : L ≤ 8 := by simp only [Bool.and_eq_true, decide_eq_true_eq] at hl; omega
  have hn : 2 ≤ n ∧ n ≤ 3 := ⟨hf.2.1, hf.2.2.1⟩
  have Hs := Lib.hid hf.1
  have H0 := Lib.hid h0
  have Hl := Lib.hid hl
  have H1 : Hid (sqCode p n m k qs true = 0) := Lib.hid (by rw [hl] at h0; exact h0)
  have Ho := Lib.hid ho
  have Hc : Hid (rcCode p n m k qs L = 0) := Lib.hid (by unfold rcCode; rw [if_pos h0, Int.toNat_natCast, ho])
  have Hr : Hid (rcR p n m k qs L = [t, s]) := Lib.hid (by unfold rcR; rw [if_pos h0, Int.toNat_natCast, ho])
  clear hl h0 hf ho
  go_enter Try.func17, Try.ntmps17
  go_upto_region 0 with (fail)
  refine wp_region_lit ?_
  refine ls_op rfl (fun K' hK' => ?_)
  have lz1 := hB.size
  refine wp_new (some 2) rfl (exec_box 31 _ rfl (#[.int .i64 p, .int .i64 n, .int .i64 m, .int .i64 k, .slice (some ⟨g, 0, none⟩) qs.length c]) rfl) (fun Wz2 nnz3 => ?_)
  have bz4 := nnz3.below (Below.refl _ _) (Nat.le_refl _)
  replace hB := below_after hB bz4
  have hz5 : At Wz2 w.heap.size (.cells #[.int .i64 p, .int .i64 n, .int .i64 m, .int .i64 k, .slice (some ⟨g, 0, none⟩) qs.length c] 31 (0, 0)) := nnz3.at_
  refine hK' _ _ ?_
  clear hK' K' nnz3 bz4
  go_frame
  refine ls_op rfl (fun K' hK' => ?_)
  have lz6 := hB.size
  have lz7 := hz5.lt
  refine wp_new (some 3) rfl (exec_box 2 _ rfl (#[.int .i64 (L : Int)]) rfl) (fun Wz8 nnz9 => ?_)
  have bz10 := nnz9.below (Below.refl _ _) (Nat.le_refl _)
  replace hB := below_after hB bz10
  replace hz5 := hz5.after bz10
  have hz11 : At Wz8 Wz2.heap.size (.cells #[.int .i64 (L : Int)] 2 (0, 0)) := nnz9.at_
  refine hK' _ _ ?_
  clear hK' K' nnz9 bz10
  go_frame
  refine ls_ex (some 4) (.slice none 0 0) rfl rfl (exec_assign _ rfl (.slice none 0 0) rfl) ?_
  go_frame
  refine ls_ex (some 5) (.int .i64 0) rfl rfl (exec_assign _ rfl (.int .i64 0) rfl) ?_
  go_frame
  refine wpList_nil ?_
  go_upto_region 1 with (fail)
  refine wp_region_y (zs := []) (S := fun w' => Below w.heap.size w w' ∧ At w' w.heap.size (.cells #[.int .i64 p, .int .i64 n, .int .i64 m, .int .i64 k, .slice (some ⟨g, 0, none⟩) qs.length c] 31 (0, 0)) ∧ At w' Wz2.heap.size (.cells #[.int .i64 (L : Int)] 2 (0, 0))) (S2 := fun w' => True) (by kernel_rfl) ?_
  change wpAnyY _ _ _ _ _ _ _ _ _ _ (World.drew _)
  generalize hwdz12 : World.drew _ = wdz12
  replace hB : Below w.heap.size w wdz12 := by rw [← hwdz12]; exact hB.drew
  replace hz5 : At wdz12 w.heap.size (.cells #[.int .i64 p, .int .i64 n, .int .i64 m, .int .i64 k, .slice (some ⟨g, 0, none⟩) qs.length c] 31 (0, 0)) := by rw [← hwdz12]; exact hz5
  replace hz11 : At wdz12 Wz2.heap.size (.cells #[.int .i64 (L : Int)] 2 (0, 0)) := by rw [← hwdz12]; exact hz11
  clear hwdz12
  refine y_yield 0 (some 7) (.agg #[.int .i64 p, .int .i64 n, .int .i64 m, .int .i64 k, .slice (some ⟨g, 0, none⟩) qs.length c]) rfl (by kernel_rfl) (by kernel_rfl) (by kernel_rfl) (fun _ _ _ h => h) rfl rfl ⟨hB, hz5, hz11⟩ (fun w' h' => exec_load_all 31 _ rfl w.heap.size rfl _ _ _ h'.2.1 Try.underlying31 rfl 5 (by kernel_rfl) rfl) ?_
  go_frame
  refine y_yield 1 (some 8) (.int .i64 (L : Int)) rfl (by kernel_rfl) (by kernel_rfl) (by kernel_rfl) (fun _ _ _ h => h) rfl rfl ⟨hB, hz5, hz11⟩ (fun w' h' => exec_load_one 2 _ rfl Wz2.heap.size 0 rfl (.int .i64 (L : Int)) _ Try.underlying2 rfl (h'.2.2.at_ 0)) ?_
  go_frame
  refine y_oper 2 (by kernel_rfl) rfl rfl (fun K' hK' => ?_)
  have lz15 := hB.size
  have lz16 := hz5.lt
  have lz17 := hz11.lt
  refine wp_call1 (some 9) rfl 34 _ _ rfl (fun args w => by kernel_rfl) _ rfl _ (isLevels_c (L : Int) _) (fun e Wz13 h => ?_)
  obtain ⟨rfl, rfl⟩ := h
  refine ⟨_, rfl, ?_⟩
  refine hK' _ _ ⟨hB, hz5, hz11⟩ (fun _ => trivial) ?_
  clear hK' K'
  go_frame
  refine y_oper 3 (by kernel_rfl) rfl rfl (fun K' hK' => ?_)
  have lz20 := hB.size
  have lz21 := hz5.lt
  have lz22 := hz11.lt
  refine wp_call2 (some 10) rfl 33 _ _ _ rfl (fun args w => by kernel_rfl) _ _ rfl rfl _ (checkRepeated_c p n m k (some ⟨g, 0, none⟩) c qs (decide (0 ≤ (L : Int)) && decide ((L : Int) ≤ 8)) _ (hR.keep hB) hlen) (fun e Wz18 h => ?_)
  obtain ⟨rfl, bz19⟩ := h
  replace hB := below_after hB bz19
  replace hz5 := hz5.after bz19
  replace hz11 := hz11.after bz19
  rw [H0.out]
  clear bz19
  refine ⟨_, rfl, ?_⟩
  refine hK' _ _ ⟨hB, hz5, hz11⟩ (fun _ => trivial) ?_
  clear hK' K'
  go_frame
  refine y_oper 4 (by kernel_rfl) rfl rfl (fun K' hK' => ?_)
  refine wp_exec (some 6) rfl (.int .i64 0) (exec_assign _ rfl (.int .i64 0) rfl) ?_
  refine hK' _ _ ⟨hB, hz5, hz11⟩ (fun _ => trivial) ?_
  clear hK' K'
  go_frame
  refine y_done (by kernel_rfl) ?_ _
  go_upto_region 2 with (fail)
  refine wp_region_lit ?_
  refine ls_ex (some 11) (.int .i64 0) rfl rfl (exec_move _ rfl (.int .i64 0) rfl) ?_
  go_frame
  refine ls_ex (some 12) (.bool false) rfl rfl (exec_neq _ _ _ _ rfl 0 0 rfl rfl false rfl) ?_
  go_frame
  refine wpList_nil ?_
  go_upto_region 4 with (fail)
  refine wp_region_lit ?_
  refine ls_ex (some 14) (.func (.func 36) #[] #[.pointer (some ⟨w.heap.size, 0, none⟩), .pointer (some ⟨Wz2.heap.size, 0, none⟩)]) rfl rfl (exec_mkf2 _ _ _ rfl _ _ rfl rfl) ?_
  go_frame
  refine ls_op rfl (fun K' hK' => ?_)
  have lz25 := hB.size
  have lz26 := hz5.lt
  have lz27 := hz11.lt
  have lo5 := hB.size
  refine wp_call1 (some 15) rfl 35 _ _ rfl (fun args w => by kernel_rfl) _ rfl _ (doorL_ok 36 #[.pointer (some ⟨w.heap.size, 0, none⟩), .pointer (some ⟨Wz2.heap.size, 0, none⟩)] [t, s] 0 _ (fun w => by kernel_rfl) (fun w' hb => litR_some p n m k g c qs L w' ((hR.keep hB).keep hb) Hs.out hn hL w.heap.size Wz2.heap.size (At.after hz5 hb) (At.after hz11 hb) t s Ho.out)) (fun e Wz23 h => ?_)
  obtain ⟨v5, rfl, ho5, bz24⟩ := h
  replace hB := below_after hB bz24
  replace hz5 := hz5.after bz24
  replace hz11 := hz11.after bz24
  obtain ⟨A5, c5, rfl, _⟩ := ho5.rd
  clear bz24
  refine ⟨_, rfl, ?_⟩
  refine hK' _ _ ?_
  clear hK' K'
  go_frame
  refine ls_ex (some 16) (.slice A5 2 c5) rfl rfl (exec_extract _ 0 rfl #[.slice A5 2 c5, .int .i64 0] (by rfl) _ rfl) ?_
  go_frame
  refine ls_ex (some 17) (.int .i64 0) rfl rfl (exec_extract _ 1 rfl #[.slice A5 2 c5, .int .i64 0] (by rfl) _ rfl) ?_
  go_frame
  refine ls_ex (some 4) (.slice A5 2 c5) rfl rfl (exec_assign _ rfl (.slice A5 2 c5) rfl) ?_
  go_frame
  refine ls_ex (some 5) (.int .i64 0) rfl rfl (exec_assign _ rfl (.int .i64 0) rfl) ?_
  go_frame
  refine wpList_nil ?_
  go_wp2_with fail
  go_ret2
  exact ⟨_, by rw [Hc.out]; rfl, by rw [Hr.out]; exact ho5.mono (by omega), hB⟩
set_option maxHeartbeats 6400000 in
theorem specRc_a (p n m k : Int) (g c : Nat) (qs : List (List Nat)) (l : Int) (w : World) (hR : Rd w (some ⟨g, 0, none⟩) qs) (hlen : qs.length ≤ 1048576) (hne : sqCode p n m k qs true ≠ 0) :
    Calls Try.prog 16 #[.agg #[.int .i64 p, .int .i64 n, .int .i64 m, .int .i64 k, .slice (some ⟨g, 0, none⟩) qs.length c], .int .i64 l] w (ResI w (rcR p n m k qs l) (rcCode p n m k qs l)) := by
  have hB := Below.refl w.heap.size w
  have hno := sqCode_no hne (decide (0 ≤ l) && decide (l ≤ 8))
  have Hc : Hid (rcCode p n m k qs l = sqCode p n m k qs true) := Lib.hid (by unfold rcCode; rw [hno, if_neg hne])
  have Hr : Hid (rcR p n m k qs l = []) := Lib.hid (by unfold rcR; rw [hno, if_neg hne])
  have Hne : Hid ((sqCode p n m k qs true != 0) = true) := Lib.hid (by simpa using hne)
  have Hz : Hid ((sqCode p n m k qs true == 0) = false) := Lib.hid (by simpa using hne)
  clear hne hno
  go_enter Try.func16, Try.ntmps16
  go_upto_region 0 with (fail)
  refine wp_region_lit ?_
  refine ls_op rfl (fun K' hK' => ?_)
  have lz1 := hB.size
  refine wp_new (some 2) rfl (exec_box 31 _ rfl (#[.int .i64 p, .int .i64 n, .int .i64 m, .int .i64 k, .slice (some ⟨g, 0, none⟩) qs.length c]) rfl) (fun Wz2 nnz3 => ?_)
  have bz4 := nnz3.below (Below.refl _ _) (Nat.le_refl _)
  replace hB := below_after hB bz4
  have hz5 : At Wz2 w.heap.size (.cells #[.int .i64 p, .int .i64 n, .int .i64 m, .int .i64 k, .slice (some ⟨g, 0, none⟩) qs.length c] 31 (0, 0)) := nnz3.at_
  refine hK' _ _ ?_
  clear hK' K' nnz3 bz4
  go_frame
  refine ls_ex (some 4) (.slice none 0 0) rfl rfl (exec_assign _ rfl (.slice none 0 0) rfl) ?_
  go_frame
  refine ls_ex (some 5) (.int .i64 0) rfl rfl (exec_assign _ rfl (.int .i64 0) rfl) ?_
  go_frame
  refine wpList_nil ?_
  go_upto_region 1 with (fail)
  refine wp_region_lit ?_
  refine ls_ex (some 10) (.agg #[.int .i64 p, .int .i64 n, .int .i64 m, .int .i64 k, .slice (some ⟨g, 0, none⟩) qs.length c]) rfl rfl (exec_load_all 31 _ rfl w.heap.size rfl _ _ _ hz5 Try.underlying31 rfl 5 (by kernel_rfl) rfl) ?_
  go_frame
  refine ls_op rfl (fun K' hK' => ?_)
  have lz8 := hB.size
  have lz9 := hz5.lt
  refine wp_call1 (some 11) rfl 30 _ _ rfl (fun args w => by kernel_rfl) _ rfl _ (l06Square_c p n m k (some ⟨g, 0, none⟩) c qs _ (hR.keep hB) hlen) (fun e Wz6 h => ?_)
  obtain ⟨rfl, bz7⟩ := h
  replace hB := below_after hB bz7
  replace hz5 := hz5.after bz7
  clear bz7
  refine ⟨_, rfl, ?_⟩
  refine hK' _ _ ?_
  clear hK' K'
  go_frame
  refine ls_ex (some 6) (.int .i64 (sqCode p n m k qs true)) rfl rfl (exec_assign _ rfl (.int .i64 (sqCode p n m k qs true)) rfl) ?_
  go_frame
  refine wpList_nil ?_
  go_upto_region 2 with (fail)
  refine wp_region_lit ?_
  refine ls_ex (some 12) (.int .i64 (sqCode p n m k qs true)) rfl rfl (exec_move _ rfl (.int .i64 (sqCode p n m k qs true)) rfl) ?_
  go_frame
  refine ls_ex (some 13) (.bool false) rfl rfl (exec_eql _ _ _ _ rfl ((sqCode p n m k qs true)) 0 rfl rfl false Hz.out) ?_
  go_frame
  refine ls_ex (some 14) (.bool false) rfl rfl (exec_move _ rfl (.bool false) rfl) ?_
  go_frame
  refine ls_skip_g (some 15) rfl rfl ?_
  go_frame
  refine ls_skip_g (some 16) rfl rfl ?_
  go_frame
  refine ls_skip_g (some 17) rfl rfl ?_
  go_frame
  refine ls_ex (some 18) (.bool false) rfl rfl (exec_pick _ _ _ rfl false rfl (.bool false) rfl) ?_
  go_frame
  refine wpList_nil ?_
  go_upto_region 4 with (fail)
  refine wp_region_lit ?_
  refine ls_ex (some 19) (.int .i64 (sqCode p n m k qs true)) rfl rfl (exec_move _ rfl (.int .i64 (sqCode p n m k qs true)) rfl) ?_
  go_frame
  refine ls_ex (some 20) (.bool true) rfl rfl (exec_neq _ _ _ _ rfl ((sqCode p n m k qs true)) 0 rfl rfl true Hne.out) ?_
  go_frame
  refine wpList_nil ?_
  go_upto_region 5 with (fail)
  refine wp_region_lit ?_
  refine ls_ex (some 21) (.int .i64 (sqCode p n m k qs true)) rfl rfl (exec_move _ rfl (.int .i64 (sqCode p n m k qs true)) rfl) ?_
  go_frame
  refine ls_ex (some 4) (.slice none 0 0) rfl rfl (exec_assign _ rfl (.slice none 0 0) rfl) ?_
  go_frame
  refine ls_ex (some 5) (.int .i64 (sqCode p n m k qs true)) rfl rfl (exec_assign _ rfl (.int .i64 (sqCode p n m k qs true)) rfl) ?_
  go_frame
  refine wpList_nil ?_
  go_wp2_with fail
  go_ret2
  exact ⟨_, by rw [Hc.out]; rfl, by rw [Hr.out]; exact OwnI.nil _ _, hB⟩
set_option maxHeartbeats 6400000 in
theorem specRc_b (p n m k : Int) (g c : Nat) (qs : List (List Nat)) (l : Int) (w : World) (hR : Rd w (some ⟨g, 0, none⟩) qs) (hlen : qs.length ≤ 1048576) (h1 : sqCode p n m k qs true = 0) (hl : (decide (0 ≤ l) && decide (l ≤ 8)) = false) :
    Calls Try.prog 16 #[.agg #[.int .i64 p, .int .i64 n, .int .i64 m, .int .i64 k, .slice (some ⟨g, 0, none⟩) qs.length c], .int .i64 l] w (ResI w (rcR p n m k qs l) (rcCode p n m k qs l)) := by
  have hB := Below.refl w.heap.size w
  have hf := sq_facts h1
  have h2 : sqCode p n m k qs (decide (0 ≤ l) && decide (l ≤ 8)) = 2 := by unfold sqCode; rw [if_pos hf.1, hl]; simp
  have Hc : Hid (rcCode p n m k qs l = 2) := Lib.hid (by unfold rcCode; rw [h2]; rfl)
  have Hr : Hid (rcR p n m k qs l = []) := Lib.hid (by unfold rcR; rw [h2]; rfl)
  have Hl := Lib.hid hl
  have H1 := Lib.hid h1
  clear h1 hl h2 hf
  go_enter Try.func16, Try.ntmps16
  go_upto_region 0 with (fail)
  refine wp_region_lit ?_
  refine ls_op rfl (fun K' hK' => ?_)
  have lz1 := hB.size
  refine wp_new (some 2) rfl (exec_box 31 _ rfl (#[.int .i64 p, .int .i64 n, .int .i64 m, .int .i64 k, .slice (some ⟨g, 0, none⟩) qs.length c]) rfl) (fun Wz2 nnz3 => ?_)
  have bz4 := nnz3.below (Below.refl _ _) (Nat.le_refl _)
  replace hB := below_after hB bz4
  have hz5 : At Wz2 w.heap.size (.cells #[.int .i64 p, .int .i64 n, .int .i64 m, .int .i64 k, .slice (some ⟨g, 0, none⟩) qs.length c] 31 (0, 0)) := nnz3.at_
  refine hK' _ _ ?_
  clear hK' K' nnz3 bz4
  go_frame
  refine ls_ex (some 4) (.slice none 0 0) rfl rfl (exec_assign _ rfl (.slice none 0 0) rfl) ?_
  go_frame
  refine ls_ex (some 5) (.int .i64 0) rfl rfl (exec_assign _ rfl (.int .i64 0) rfl) ?_
  go_frame
  refine wpList_nil ?_
  go_upto_region 1 with (fail)
  refine wp_region_lit ?_
  refine ls_ex (some 10) (.agg #[.int .i64 p, .int .i64 n, .int .i64 m, .int .i64 k, .slice (some ⟨g, 0, none⟩) qs.length c]) rfl rfl (exec_load_all 31 _ rfl w.heap.size rfl _ _ _ hz5 Try.underlying31 rfl 5 (by kernel_rfl) rfl) ?_
  go_frame
  refine ls_op rfl (fun K' hK' => ?_)
  have lz8 := hB.size
  have lz9 := hz5.lt
  refine wp_call1 (some 11) rfl 30 _ _ rfl (fun args w => by kernel_rfl) _ rfl _ (l06Square_c p n m k (some ⟨g, 0, none⟩) c qs _ (hR.keep hB) hlen) (fun e Wz6 h => ?_)
  obtain ⟨rfl, bz7⟩ := h
  replace hB := below_after hB bz7
  replace hz5 := hz5.after bz7
  rw [H1.out]
  clear bz7
  refine ⟨_, rfl, ?_⟩
  refine hK' _ _ ?_
  clear hK' K'
  go_frame
  refine ls_ex (some 6) (.int .i64 0) rfl rfl (exec_assign _ rfl (.int .i64 0) rfl) ?_
  go_frame
  refine wpList_nil ?_
  go_upto_region 2 with (fail)
  refine wp_region_lit ?_
  refine ls_ex (some 12) (.int .i64 0) rfl rfl (exec_move _ rfl (.int .i64 0) rfl) ?_
  go_frame
  refine ls_ex (some 13) (.bool true) rfl rfl (exec_eql _ _ _ _ rfl 0 0 rfl rfl true rfl) ?_
  go_frame
  refine ls_ex (some 14) (.bool true) rfl rfl (exec_move _ rfl (.bool true) rfl) ?_
  go_frame
  refine ls_ex_g (some 15) (.int .i64 l) rfl rfl (exec_move _ rfl (.int .i64 l) rfl) ?_
  go_frame
  refine ls_op_g rfl (fun K' hK' => ?_)
  have lz12 := hB.size
  have lz13 := hz5.lt
  refine wp_call3 (some 16) rfl 31 _ _ _ _ rfl (fun args w => by kernel_rfl) _ _ _ rfl rfl rfl _ (l01In_c l 0 8 _) (fun e Wz10 h => ?_)
  obtain ⟨rfl, rfl⟩ := h
  rw [Hl.out]
  refine ⟨_, rfl, ?_⟩
  refine hK' _ _ ?_
  clear hK' K'
  go_frame
  refine ls_ex_g (some 17) (.bool true) rfl rfl (exec_not _ _ rfl false rfl) ?_
  go_frame
  refine ls_ex (some 18) (.bool true) rfl rfl (exec_pick _ _ _ rfl true rfl (.bool true) rfl) ?_
  go_frame
  refine wpList_nil ?_
  go_upto_region 3 with (fail)
  refine wp_region_lit ?_
  refine ls_ex (some 6) (.int .i64 2) rfl rfl (exec_assign _ rfl (.int .i64 2) rfl) ?_
  go_frame
  refine wpList_nil ?_
  go_upto_region 4 with (fail)
  refine wp_region_lit ?_
  refine ls_ex (some 19) (.int .i64 2) rfl rfl (exec_move _ rfl (.int .i64 2) rfl) ?_
  go_frame
  refine ls_ex (some 20) (.bool true) rfl rfl (exec_neq _ _ _ _ rfl 2 0 rfl rfl true rfl) ?_
  go_frame
  refine wpList_nil ?_
  go_upto_region 5 with (fail)
  refine wp_region_lit ?_
  refine ls_ex (some 21) (.int .i64 2) rfl rfl (exec_move _ rfl (.int .i64 2) rfl) ?_
  go_frame
  refine ls_ex (some 4) (.slice none 0 0) rfl rfl (exec_assign _ rfl (.slice none 0 0) rfl) ?_
  go_frame
  refine ls_ex (some 5) (.int .i64 2) rfl rfl (exec_assign _ rfl (.int .i64 2) rfl) ?_
  go_frame
  refine wpList_nil ?_
  go_wp2_with fail
  go_ret2
  exact ⟨_, by rw [Hc.out]; rfl, by rw [Hr.out]; exact OwnI.nil _ _, hB⟩
set_option maxHeartbeats 6400000 in
theorem specRc_d (p n m k : Int) (g c : Nat) (qs : List (List Nat)) (L : Nat) (w : World) (hR : Rd w (some ⟨g, 0, none⟩) qs) (hlen : qs.length ≤ 1048576) (h0 : sqCode p n m k qs (decide (0 ≤ (L : Int)) && decide ((L : Int) ≤ 8)) = 0) (ho : countsO qs.length (coAdd qs) n L 1 = none) :
    Calls Try.prog 16 #[.agg #[.int .i64 p, .int .i64 n, .int .i64 m, .int .i64 k, .slice (some ⟨g, 0, none⟩) qs.length c], .int .i64 (L : Int)] w (ResI w (rcR p n m k qs L) (rcCode p n m k qs L)) := by
  have hB := Below.refl w.heap.size w
  have hf := sq_facts h0
  have hl : (decide (0 ≤ (L : Int)) && decide ((L : Int) ≤ 8)) = true := hf.2.2.2.2.2
  have hL : L ≤ 8 := by simp only [Bool.and_eq_true, decide_eq_true_eq] at hl; omega
  have hn : 2 ≤ n ∧ n ≤ 3 := ⟨hf.2.1, hf.2.2.1⟩
  have Hs := Lib.hid hf.1
  have H0 := Lib.hid h0
  have Hl := Lib.hid hl
  have H1 : Hid (sqCode p n m k qs true = 0) := Lib.hid (by rw [hl] at h0; exact h0)
  have Ho := Lib.hid ho
  have Hc : Hid (rcCode p n m k qs L = 3) := Lib.hid (by unfold rcCode; rw [if_pos h0, Int.toNat_natCast, ho])
  have Hr : Hid (rcR p n m k qs L = []) := Lib.hid (by unfold rcR; rw [if_pos h0, Int.toNat_natCast, ho])
  clear hl h0 hf ho
  go_enter Try.func16, Try.ntmps16
  go_upto_region 0 with (fail)
  refine wp_region_lit ?_
  refine ls_op rfl (fun K' hK' => ?_)
  have lz1 := hB.size
  refine wp_new (some 2) rfl (exec_box 31 _ rfl (#[.int .i64 p, .int .i64 n, .int .i64 m, .int .i64 k, .slice (some ⟨g, 0, none⟩) qs.length c]) rfl) (fun Wz2 nnz3 => ?_)
  have bz4 := nnz3.below (Below.refl _ _) (Nat.le_refl _)
  replace hB := below_after hB bz4
  have hz5 : At Wz2 w.heap.size (.cells #[.int .i64 p, .int .i64 n, .int .i64 m, .int .i64 k, .slice (some ⟨g, 0, none⟩) qs.length c] 31 (0, 0)) := nnz3.at_
  refine hK' _ _ ?_
  clear hK' K' nnz3 bz4
  go_frame
  refine ls_ex (some 4) (.slice none 0 0) rfl rfl (exec_assign _ rfl (.slice none 0 0) rfl) ?_
  go_frame
  refine ls_ex (some 5) (.int .i64 0) rfl rfl (exec_assign _ rfl (.int .i64 0) rfl) ?_
  go_frame
  refine wpList_nil ?_
  go_upto_region 1 with (fail)
  refine wp_region_lit ?_
  refine ls_ex (some 10) (.agg #[.int .i64 p, .int .i64 n, .int .i64 m, .int .i64 k, .slice (some ⟨g, 0, none⟩) qs.length c]) rfl rfl (exec_load_all 31 _ rfl w.heap.size rfl _ _ _ hz5 Try.underlying31 rfl 5 (by kernel_rfl) rfl) ?_
  go_frame
  refine ls_op rfl (fun K' hK' => ?_)
  have lz8 := hB.size
  have lz9 := hz5.lt
  refine wp_call1 (some 11) rfl 30 _ _ rfl (fun args w => by kernel_rfl) _ rfl _ (l06Square_c p n m k (some ⟨g, 0, none⟩) c qs _ (hR.keep hB) hlen) (fun e Wz6 h => ?_)
  obtain ⟨rfl, bz7⟩ := h
  replace hB := below_after hB bz7
  replace hz5 := hz5.after bz7
  rw [H1.out]
  clear bz7
  refine ⟨_, rfl, ?_⟩
  refine hK' _ _ ?_
  clear hK' K'
  go_frame
  refine ls_ex (some 6) (.int .i64 0) rfl rfl (exec_assign _ rfl (.int .i64 0) rfl) ?_
  go_frame
  refine wpList_nil ?_
  go_upto_region 2 with (fail)
  refine wp_region_lit ?_
  refine ls_ex (some 12) (.int .i64 0) rfl rfl (exec_move _ rfl (.int .i64 0) rfl) ?_
  go_frame
  refine ls_ex (some 13) (.bool true) rfl rfl (exec_eql _ _ _ _ rfl 0 0 rfl rfl true rfl) ?_
  go_frame
  refine ls_ex (some 14) (.bool true) rfl rfl (exec_move _ rfl (.bool true) rfl) ?_
  go_frame
  refine ls_ex_g (some 15) (.int .i64 (L : Int)) rfl rfl (exec_move _ rfl (.int .i64 (L : Int)) rfl) ?_
  go_frame
  refine ls_op_g rfl (fun K' hK' => ?_)
  have lz12 := hB.size
  have lz13 := hz5.lt
  refine wp_call3 (some 16) rfl 31 _ _ _ _ rfl (fun args w => by kernel_rfl) _ _ _ rfl rfl rfl _ (l01In_c (L : Int) 0 8 _) (fun e Wz10 h => ?_)
  obtain ⟨rfl, rfl⟩ := h
  rw [Hl.out]
  refine ⟨_, rfl, ?_⟩
  refine hK' _ _ ?_
  clear hK' K'
  go_frame
  refine ls_ex_g (some 17) (.bool false) rfl rfl (exec_not _ _ rfl true rfl) ?_
  go_frame
  refine ls_ex (some 18) (.bool false) rfl rfl (exec_pick _ _ _ rfl true rfl (.bool false) rfl) ?_
  go_frame
  refine wpList_nil ?_
  go_upto_region 4 with (fail)
  refine wp_region_lit ?_
  refine ls_ex (some 19) (.int .i64 0) rfl rfl (exec_move _ rfl (.int .i64 0) rfl) ?_
  go_frame
  refine ls_ex (some 20) (.bool false) rfl rfl (exec_neq _ _ _ _ rfl 0 0 rfl rfl false rfl) ?_
  go_frame
  refine wpList_nil ?_
  go_upto_region 6 with (fail)
  refine wp_region_lit ?_
  refine ls_ex (some 23) (.agg #[.int .i64 p, .int .i64 n, .int .i64 m, .int .i64 k, .slice (some ⟨g, 0, none⟩) qs.length c]) rfl rfl (exec_load_all 31 _ rfl w.heap.size rfl _ _ _ hz5 Try.underlying31 rfl 5 (by kernel_rfl) rfl) ?_
  go_frame
  refine ls_ex (some 24) (.int .i64 (L : Int)) rfl rfl (exec_move _ rfl (.int .i64 (L : Int)) rfl) ?_
  go_frame
  refine ls_op rfl (fun K' hK' => ?_)
  have lz16 := hB.size
  have lz17 := hz5.lt
  refine wp_call3 (some 25) rfl 32 _ _ _ _ rfl (fun args w => by kernel_rfl) _ _ _ rfl rfl rfl _ (repeated_none p n m k g c qs L 1 _ (hR.keep hB) Hs.out hn hL ⟨by omega, by omega⟩ Ho.out) (fun e Wz14 h => ?_)
  obtain ⟨rfl, bz15⟩ := h
  replace hB := below_after hB bz15
  replace hz5 := hz5.after bz15
  clear bz15
  refine ⟨_, rfl, ?_⟩
  refine hK' _ _ ?_
  clear hK' K'
  go_frame
  refine ls_ex (some 22) (.tuple #[.int .i64 0, .int .i64 0, .bool false]) rfl rfl (exec_move _ rfl (.tuple #[.int .i64 0, .int .i64 0, .bool false]) rfl) ?_
  go_frame
  refine ls_ex (some 26) (.int .i64 0) rfl rfl (exec_extract _ 0 rfl #[.int .i64 0, .int .i64 0, .bool false] (by rfl) _ rfl) ?_
  go_frame
  refine ls_ex (some 27) (.int .i64 0) rfl rfl (exec_extract _ 1 rfl #[.int .i64 0, .int .i64 0, .bool false] (by rfl) _ rfl) ?_
  go_frame
  refine ls_ex (some 28) (.bool false) rfl rfl (exec_extract _ 2 rfl #[.int .i64 0, .int .i64 0, .bool false] (by rfl) _ rfl) ?_
  go_frame
  refine ls_ex (some 7) (.int .i64 0) rfl rfl (exec_assign _ rfl (.int .i64 0) rfl) ?_
  go_frame
  refine ls_ex (some 8) (.int .i64 0) rfl rfl (exec_assign _ rfl (.int .i64 0) rfl) ?_
  go_frame
  refine ls_ex (some 9) (.bool false) rfl rfl (exec_assign _ rfl (.bool false) rfl) ?_
  go_frame
  refine wpList_nil ?_
  go_upto_region 7 with (fail)
  refine wp_region_lit ?_
  refine ls_ex (some 29) (.bool false) rfl rfl (exec_move _ rfl (.bool false) rfl) ?_
  go_frame
  refine ls_ex (some 30) (.bool true) rfl rfl (exec_not _ _ rfl false rfl) ?_
  go_frame
  refine wpList_nil ?_
  go_upto_region 8 with (fail)
  refine wp_region_lit ?_
  refine ls_ex (some 4) (.slice none 0 0) rfl rfl (exec_assign _ rfl (.slice none 0 0) rfl) ?_
  go_frame
  refine ls_ex (some 5) (.int .i64 3) rfl rfl (exec_assign _ rfl (.int .i64 3) rfl) ?_
  go_frame
  refine wpList_nil ?_
  go_wp2_with fail
  go_ret2
  exact ⟨_, by rw [Hc.out]; rfl, by rw [Hr.out]; exact OwnI.nil _ _, hB⟩
set_option maxHeartbeats 6400000 in
theorem specRc_e (p n m k : Int) (g c : Nat) (qs : List (List Nat)) (L : Nat) (w : World) (hR : Rd w (some ⟨g, 0, none⟩) qs) (hlen : qs.length ≤ 1048576) (h0 : sqCode p n m k qs (decide (0 ≤ (L : Int)) && decide ((L : Int) ≤ 8)) = 0) (t s : Int) (ho : countsO qs.length (coAdd qs) n L 1 = some (t, s)) :
    Calls Try.prog 16 #[.agg #[.int .i64 p, .int .i64 n, .int .i64 m, .int .i64 k, .slice (some ⟨g, 0, none⟩) qs.length c], .int .i64 (L : Int)] w (ResI w (rcR p n m k qs L) (rcCode p n m k qs L)) := by
  have hB := Below.refl w.heap.size w
  have hf := sq_facts h0
  have hl : (decide (0 ≤ (L : Int)) && decide ((L : Int) ≤ 8)) = true := hf.2.2.2.2.2
  have hL : L ≤ 8 := by simp only [Bool.and_eq_true, decide_eq_true_eq] at hl; omega
  have hn : 2 ≤ n ∧ n ≤ 3 := ⟨hf.2.1, hf.2.2.1⟩
  have Hs := Lib.hid hf.1
  have H0 := Lib.hid h0
  have Hl := Lib.hid hl
  have H1 : Hid (sqCode p n m k qs true = 0) := Lib.hid (by rw [hl] at h0; exact h0)
  have Ho := Lib.hid ho
  have Hc : Hid (rcCode p n m k qs L = 0) := Lib.hid (by unfold rcCode; rw [if_pos h0, Int.toNat_natCast, ho])
  have Hr : Hid (rcR p n m k qs L = [t, s]) := Lib.hid (by unfold rcR; rw [if_pos h0, Int.toNat_natCast, ho])
  clear hl h0 hf ho
  go_enter Try.func16, Try.ntmps16
  go_upto_region 0 with (fail)
  refine wp_region_lit ?_
  refine ls_op rfl (fun K' hK' => ?_)
  have lz1 := hB.size
  refine wp_new (some 2) rfl (exec_box 31 _ rfl (#[.int .i64 p, .int .i64 n, .int .i64 m, .int .i64 k, .slice (some ⟨g, 0, none⟩) qs.length c]) rfl) (fun Wz2 nnz3 => ?_)
  have bz4 := nnz3.below (Below.refl _ _) (Nat.le_refl _)
  replace hB := below_after hB bz4
  have hz5 : At Wz2 w.heap.size (.cells #[.int .i64 p, .int .i64 n, .int .i64 m, .int .i64 k, .slice (some ⟨g, 0, none⟩) qs.length c] 31 (0, 0)) := nnz3.at_
  refine hK' _ _ ?_
  clear hK' K' nnz3 bz4
  go_frame
  refine ls_ex (some 4) (.slice none 0 0) rfl rfl (exec_assign _ rfl (.slice none 0 0) rfl) ?_
  go_frame
  refine ls_ex (some 5) (.int .i64 0) rfl rfl (exec_assign _ rfl (.int .i64 0) rfl) ?_
  go_frame
  refine wpList_nil ?_
  go_upto_region 1 with (fail)
  refine wp_region_lit ?_
  refine ls_ex (some 10) (.agg #[.int .i64 p, .int .i64 n, .int .i64 m, .int .i64 k, .slice (some ⟨g, 0, none⟩) qs.length c]) rfl rfl (exec_load_all 31 _ rfl w.heap.size rfl _ _ _ hz5 Try.underlying31 rfl 5 (by kernel_rfl) rfl) ?_
  go_frame
  refine ls_op rfl (fun K' hK' => ?_)
  have lz8 := hB.size
  have lz9 := hz5.lt
  refine wp_call1 (some 11) rfl 30 _ _ rfl (fun args w => by kernel_rfl) _ rfl _ (l06Square_c p n m k (some ⟨g, 0, none⟩) c qs _ (hR.keep hB) hlen) (fun e Wz6 h => ?_)
  obtain ⟨rfl, bz7⟩ := h
  replace hB := below_after hB bz7
  replace hz5 := hz5.after bz7
  rw [H1.out]
  clear bz7
  refine ⟨_, rfl, ?_⟩
  refine hK' _ _ ?_
  clear hK' K'
  go_frame
  refine ls_ex (some 6) (.int .i64 0) rfl rfl (exec_assign _ rfl (.int .i64 0) rfl) ?_
  go_frame
  refine wpList_nil ?_
  go_upto_region 2 with (fail)
  refine wp_region_lit ?_
  refine ls_ex (some 12) (.int .i64 0) rfl rfl (exec_move _ rfl (.int .i64 0) rfl) ?_
  go_frame
  refine ls_ex (some 13) (.bool true) rfl rfl (exec_eql _ _ _ _ rfl 0 0 rfl rfl true rfl) ?_
  go_frame
  refine ls_ex (some 14) (.bool true) rfl rfl (exec_move _ rfl (.bool true) rfl) ?_
  go_frame
  refine ls_ex_g (some 15) (.int .i64 (L : Int)) rfl rfl (exec_move _ rfl (.int .i64 (L : Int)) rfl) ?_
  go_frame
  refine ls_op_g rfl (fun K' hK' => ?_)
  have lz12 := hB.size
  have lz13 := hz5.lt
  refine wp_call3 (some 16) rfl 31 _ _ _ _ rfl (fun args w => by kernel_rfl) _ _ _ rfl rfl rfl _ (l01In_c (L : Int) 0 8 _) (fun e Wz10 h => ?_)
  obtain ⟨rfl, rfl⟩ := h
  rw [Hl.out]
  refine ⟨_, rfl, ?_⟩
  refine hK' _ _ ?_
  clear hK' K'
  go_frame
  refine ls_ex_g (some 17) (.bool false) rfl rfl (exec_not _ _ rfl true rfl) ?_
  go_frame
  refine ls_ex (some 18) (.bool false) rfl rfl (exec_pick _ _ _ rfl true rfl (.bool false) rfl) ?_
  go_frame
  refine wpList_nil ?_
  go_upto_region 4 with (fail)
  refine wp_region_lit ?_
  refine ls_ex (some 19) (.int .i64 0) rfl rfl (exec_move _ rfl (.int .i64 0) rfl) ?_
  go_frame
  refine ls_ex (some 20) (.bool false) rfl rfl (exec_neq _ _ _ _ rfl 0 0 rfl rfl false rfl) ?_
  go_frame
  refine wpList_nil ?_
  go_upto_region 6 with (fail)
  refine wp_region_lit ?_
  refine ls_ex (some 23) (.agg #[.int .i64 p, .int .i64 n, .int .i64 m, .int .i64 k, .slice (some ⟨g, 0, none⟩) qs.length c]) rfl rfl (exec_load_all 31 _ rfl w.heap.size rfl _ _ _ hz5 Try.underlying31 rfl 5 (by kernel_rfl) rfl) ?_
  go_frame
  refine ls_ex (some 24) (.int .i64 (L : Int)) rfl rfl (exec_move _ rfl (.int .i64 (L : Int)) rfl) ?_
  go_frame
  refine ls_op rfl (fun K' hK' => ?_)
  have lz16 := hB.size
  have lz17 := hz5.lt
  refine wp_call3 (some 25) rfl 32 _ _ _ _ rfl (fun args w => by kernel_rfl) _ _ _ rfl rfl rfl _ (repeated_some p n m k g c qs L 1 _ (hR.keep hB) Hs.out hn hL ⟨by omega, by omega⟩ Ho.out) (fun e Wz14 h => ?_)
  obtain ⟨rfl, bz15⟩ := h
  replace hB := below_after hB bz15
  replace hz5 := hz5.after bz15
  clear bz15
  refine ⟨_, rfl, ?_⟩
  refine hK' _ _ ?_
  clear hK' K'
  go_frame
  refine ls_ex (some 22) (.tuple #[.int .i64 t, .int .i64 s, .bool true]) rfl rfl (exec_move _ rfl (.tuple #[.int .i64 t, .int .i64 s, .bool true]) rfl) ?_
  go_frame
  refine ls_ex (some 26) (.int .i64 t) rfl rfl (exec_extract _ 0 rfl #[.int .i64 t, .int .i64 s, .bool true] (by rfl) _ rfl) ?_
  go_frame
  refine ls_ex (some 27) (.int .i64 s) rfl rfl (exec_extract _ 1 rfl #[.int .i64 t, .int .i64 s, .bool true] (by rfl) _ rfl) ?_
  go_frame
  refine ls_ex (some 28) (.bool true) rfl rfl (exec_extract _ 2 rfl #[.int .i64 t, .int .i64 s, .bool true] (by rfl) _ rfl) ?_
  go_frame
  refine ls_ex (some 7) (.int .i64 t) rfl rfl (exec_assign _ rfl (.int .i64 t) rfl) ?_
  go_frame
  refine ls_ex (some 8) (.int .i64 s) rfl rfl (exec_assign _ rfl (.int .i64 s) rfl) ?_
  go_frame
  refine ls_ex (some 9) (.bool true) rfl rfl (exec_assign _ rfl (.bool true) rfl) ?_
  go_frame
  refine wpList_nil ?_
  go_upto_region 7 with (fail)
  refine wp_region_lit ?_
  refine ls_ex (some 29) (.bool true) rfl rfl (exec_move _ rfl (.bool true) rfl) ?_
  go_frame
  refine ls_ex (some 30) (.bool false) rfl rfl (exec_not _ _ rfl true rfl) ?_
  go_frame
  refine wpList_nil ?_
  go_upto_region 9 with (fail)
  refine wp_region_lit ?_
  refine ls_ex (some 31) (.int .i64 t) rfl rfl (exec_move _ rfl (.int .i64 t) rfl) ?_
  go_frame
  refine ls_ex (some 32) (.int .i64 s) rfl rfl (exec_move _ rfl (.int .i64 s) rfl) ?_
  go_frame
  refine ls_op rfl (fun K' hK' => ?_)
  have lz18 := hB.size
  have lz19 := hz5.lt
  refine wp_new (some 33) rfl (exec_bsi2 _ _ rfl t s rfl rfl) (fun Wz20 nnz21 => ?_)
  have bz22 := nnz21.below (Below.refl _ _) (Nat.le_refl _)
  replace hB := below_after hB bz22
  replace hz5 := hz5.after bz22
  have hz23 : At Wz20 Wz14.heap.size (.cells #[.int .i64 t, .int .i64 s] 2 (0, 0)) := nnz21.at_
  refine hK' _ _ ?_
  clear hK' K' nnz21 bz22
  go_frame
  refine ls_ex (some 4) (.slice (some ⟨Wz14.heap.size, 0, none⟩) 2 2) rfl rfl (exec_assign _ rfl (.slice (some ⟨Wz14.heap.size, 0, none⟩) 2 2) rfl) ?_
  go_frame
  refine ls_ex (some 5) (.int .i64 0) rfl rfl (exec_assign _ rfl (.int .i64 0) rfl) ?_
  go_frame
  refine wpList_nil ?_
  go_wp2_with fail
  go_ret2
  exact ⟨_, by rw [Hc.out]; rfl, by rw [Hr.out]; exact OwnI.of_at (xs := [t, s]) hz23 (by have := hB.size; omega) (by simp), hB⟩
theorem implRepeatedCost_c (p n m k : Int) (g c : Nat) (qs : List (List Nat)) (l : Int) (w : World) (hR : Rd w (some ⟨g, 0, none⟩) qs) (hlen : qs.length ≤ 1048576) : Calls Try.prog 17 #[.agg #[.int .i64 p, .int .i64 n, .int .i64 m, .int .i64 k, .slice (some ⟨g, 0, none⟩) qs.length c], .int .i64 l] w (ResI w (rcR p n m k qs l) (rcCode p n m k qs l)) := by
  by_cases h0 : sqCode p n m k qs (decide (0 ≤ l) && decide (l ≤ 8)) = 0
  · have hl : (decide (0 ≤ l) && decide (l ≤ 8)) = true := (sq_facts h0).2.2.2.2.2
    obtain ⟨L, rfl⟩ := Int.eq_ofNat_of_zero_le (show 0 ≤ l by simp only [Bool.and_eq_true, decide_eq_true_eq] at hl; omega)
    cases ho : countsO qs.length (coAdd qs) n L 1 with
    | none => exact implRc_d p n m k g c qs L w hR hlen h0 ho
    | some v => exact implRc_e p n m k g c qs L w hR hlen h0 v.1 v.2 ho
  · exact implRc_a p n m k g c qs l w hR hlen h0
theorem specRepeatedCost_c (p n m k : Int) (g c : Nat) (qs : List (List Nat)) (l : Int) (w : World) (hR : Rd w (some ⟨g, 0, none⟩) qs) (hlen : qs.length ≤ 1048576) : Calls Try.prog 16 #[.agg #[.int .i64 p, .int .i64 n, .int .i64 m, .int .i64 k, .slice (some ⟨g, 0, none⟩) qs.length c], .int .i64 l] w (ResI w (rcR p n m k qs l) (rcCode p n m k qs l)) := by
  by_cases h1 : sqCode p n m k qs true = 0
  · by_cases hl : (decide (0 ≤ l) && decide (l ≤ 8)) = true
    · obtain ⟨L, rfl⟩ := Int.eq_ofNat_of_zero_le (show 0 ≤ l by simp only [Bool.and_eq_true, decide_eq_true_eq] at hl; omega)
      cases ho : countsO qs.length (coAdd qs) n L 1 with
      | none => exact specRc_d p n m k g c qs L w hR hlen (by rw [hl]; exact h1) ho
      | some v => exact specRc_e p n m k g c qs L w hR hlen (by rw [hl]; exact h1) v.1 v.2 ho
    · exact specRc_b p n m k g c qs l w hR hlen h1 (eq_false_of_ne_true hl)
  · exact specRc_a p n m k g c qs l w hR hlen h1
end Go.Proofs.Ytbpapkpdlplfcaa
