/-
  spec.l03Numbers; impl.isIndex, isProductIndex.
-/
import Derived.Test.YtppenoincihoeaaMv1
namespace Go.Proofs.Ytppenoincihoeaa
open Go.RowKit
set_option maxRecDepth 100000
def inI (x : Int) (n : Nat) : Bool := decide (0 ≤ x) && decide (x < n)
theorem inI_sub (x : Int) (n : Nat) : (decide (0 ≤ x) && decide (x ≤ (n : Int) - 1)) = inI x n := by
  unfold inI
  congr 1
  rw [decide_eq_decide]
  omega
theorem inI_nat {x : Int} {n : Nat} (h : inI x n = true) : ∃ i : Nat, x = i ∧ i < n := by
  simp only [inI, Bool.and_eq_true, decide_eq_true_eq] at h
  exact ⟨x.toNat, by omega, by omega⟩
def NumRel (w : World) (p n m k : Int) (A : Option Addr) (cap : Nat) (L : Nat) (xs : List Int) (j : Nat) (wr : World) : Prop :=
  (∀ i (h : i < xs.length), i < j → inI xs[i] L = true) ∧ Below w.heap.size w wr ∧ At wr w.heap.size (.cells #[.int .i64 p, .int .i64 n, .int .i64 m, .int .i64 k, .slice A L cap] 28 (0, 0))
set_option maxHeartbeats 1600000 in
theorem l03Numbers_c (p n m k : Int) (A : Option Addr) (cap L : Nat) (g c : Nat) (xs : List Int) (w : World) (hL : L ≤ 1000) (hx : xs.length ≤ 100) (hc : ∀ j (h : j < xs.length), w.cell? ⟨g, j, none⟩ = some (.int .i64 xs[j])) :
    Calls Try.prog 25 #[.agg #[.int .i64 p, .int .i64 n, .int .i64 m, .int .i64 k, .slice A L cap], .slice (some ⟨g, 0, none⟩) xs.length c] w fun e w' => e = .returned (.bool (xs.all fun x => inI x L)) ∧ Below w.heap.size w w' := by
  have HC := Lib.hid hc
  clear hc
  go_enter Try.func25, Try.ntmps25
  go_wp2_with fail
  go_loopw [5] (fun i wr => ∃ j : Nat, j ≤ xs.length ∧ i = .int .i64 j ∧ NumRel w p n m k A cap L xs j wr) (fun i _ => xs.length - (intOf i).toNat)
  case atStart => exact ⟨0, by omega, rfl, by omega, below1 _ _, al1_0 _ _⟩
  case round =>
    obtain ⟨j, hj, rfl, hall, hB, h0⟩ := hrel
    have Hall := Lib.hid hall
    clear hall
    by_cases hlt : j < xs.length
    · have e0 : IntKind.i64.wrap ((j : Int) + 1) = (j : Int) + 1 := IntWalk.i64_in _ (by omega)
      have e1 : IntKind.i64.wrap ((L : Int) - 1) = (L : Int) - 1 := IntWalk.i64_in _ (by omega)
      have hj' : (j : Int) < (xs.length : Int) := by omega
      have hcell : wr.cell? ⟨g, j, none⟩ = some (.int .i64 xs[j]) := by
        have h1 := HC.out j hlt
        rw [hB.cell (p := ⟨g, j, none⟩) (block_lt_of_cell h1)]
        exact h1
      have c4 : wr.cell? ⟨w.heap.size, 4, none⟩ = some (.slice A L cap) := h0.at_ 4
      have HI := Lib.hid (fun w => l01In_c xs[j] 0 ((L : Int) - 1) w)
      have HE := Lib.hid (inI_sub xs[j] L)
      cases hin : inI xs[j] L with
      | true =>
        have HN : Hid (∀ i (h : i < xs.length), i < j + 1 → inI xs[i] L = true) := Lib.hid (fun i h hi => by
          by_cases e : i = j
          · subst e; exact hin
          · exact Hall.out i h (by omega))
        have Hin := Lib.hid hin
        clear hin
        generalize xs[j] = x at *
        have HI2 : Hid (∀ w, Calls Try.prog 26 #[.int .i64 x, .int .i64 0, .int .i64 ((L : Int) - 1)] w fun e w' => e = .returned (.bool true) ∧ w = w') := Lib.hid (fun w => by have h := HI.out w; rw [HE.out, Hin.out] at h; exact h)
        clear HI
        go_wp2_with fail
        refine wp_region_held (S := fun w' => At w' w.heap.size (.cells #[.int .i64 p, .int .i64 n, .int .i64 m, .int .i64 k, .slice A L cap] 28 (0, 0)) ∧ w'.cell? ⟨g, j, none⟩ = some (.int .i64 x)) (by kernel_rfl) ?_
        change wpAnyH _ _ _ _ _ _ _ _ (World.drew _)
        generalize hwda : World.drew _ = wda
        replace hB : Below w.heap.size w wda := by rw [← hwda]; exact hB.drew
        replace h0 : At wda w.heap.size (.cells #[.int .i64 p, .int .i64 n, .int .i64 m, .int .i64 k, .slice A L cap] 28 (0, 0)) := by rw [← hwda]; exact h0
        replace hcell : wda.cell? ⟨g, j, none⟩ = some (.int .i64 x) := by rw [← hwda]; exact hcell
        clear hwda
        refine held_yield 0 (some 12) (.slice (some ⟨g, 0, none⟩) xs.length c) rfl (by kernel_rfl) (by kernel_rfl) (by kernel_rfl) (fun _ _ _ h => h) rfl rfl ⟨h0, hcell⟩ (fun w' h' => exec_move _ rfl (.slice (some ⟨g, 0, none⟩) xs.length c) rfl) ?_
        go_frame
        refine held_yield 1 (some 13) (.int .i64 j) rfl (by kernel_rfl) (by kernel_rfl) (by kernel_rfl) (fun _ _ _ h => h) rfl rfl ⟨h0, hcell⟩ (fun w' h' => exec_move _ rfl (.int .i64 j) rfl) ?_
        go_frame
        refine held_yield 2 (some 14) (.pointer (some ⟨g, j, none⟩)) rfl (by kernel_rfl) (by kernel_rfl) (by kernel_rfl) (fun _ _ _ h => h) rfl rfl ⟨h0, hcell⟩ (fun w' h' => exec_index0 _ 2 _ _ rfl g xs.length c j rfl rfl Try.underlying82 (by kernel_rfl) hlt) ?_
        go_frame
        refine held_yield 3 (some 15) (.int .i64 x) rfl (by kernel_rfl) (by kernel_rfl) (by kernel_rfl) (fun _ _ _ h => h) rfl rfl ⟨h0, hcell⟩ (fun w' h' => exec_load_one 2 _ rfl g j rfl _ _ Try.underlying2 rfl h'.2) ?_
        go_frame
        refine held_yield 4 (some 16) (.pointer (some ⟨w.heap.size, 4, none⟩)) rfl (by kernel_rfl) (by kernel_rfl) (by kernel_rfl) (fun _ _ _ h => h) rfl rfl ⟨h0, hcell⟩ (fun w' h' => exec_fieldAddr 28 _ 4 rfl _ (by kernel_rfl)) ?_
        go_frame
        refine held_yield 5 (some 17) (.slice A L cap) rfl (by kernel_rfl) (by kernel_rfl) (by kernel_rfl) (fun _ _ _ h => h) rfl rfl ⟨h0, hcell⟩ (fun w' h' => exec_load_one 26 _ rfl w.heap.size 4 rfl _ _ Try.underlying26 rfl (h'.1.at_ 4)) ?_
        go_frame
        refine held_yield 6 (some 18) (.int .i64 L) rfl (by kernel_rfl) (by kernel_rfl) (by kernel_rfl) (fun _ _ _ h => h) rfl rfl ⟨h0, hcell⟩ (fun w' h' => exec_len _ 26 52 rfl A L cap rfl Try.underlying26) ?_
        go_frame
        refine held_yield 7 (some 19) (.int .i64 ((L : Int) - 1)) rfl (by kernel_rfl) (by kernel_rfl) (by kernel_rfl) (fun _ _ _ h => h) rfl rfl ⟨h0, hcell⟩ (fun w' h' => exec_sub _ _ _ _ rfl (L : Int) 1 _ rfl rfl e1) ?_
        go_frame
        refine held_oper 8 (by kernel_rfl) rfl rfl (fun K' hK' => ?_)
        refine wp_call3 (some 20) rfl 26 _ _ _ _ rfl (fun args w => by kernel_rfl) _ _ _ rfl rfl rfl _ (HI2.out _) (fun e wna1 h => ?_)
        obtain ⟨rfl, rfl⟩ := h
        refine ⟨_, rfl, hK' _ _ ⟨h0, hcell⟩ ?_⟩
        clear hK' K'
        go_frame
        refine held_yield 9 (some 21) (.bool false) rfl (by kernel_rfl) (by kernel_rfl) (by kernel_rfl) (fun _ _ _ h => h) rfl rfl ⟨h0, hcell⟩ (fun w' h' => exec_not 4 _ rfl true rfl) ?_
        go_frame
        refine wpAnyH_done (by kernel_rfl) ?_ _
        go_wp2_with fail
        go_roundw
        case rel => exact ⟨j + 1, by omega, by go_num, HN.out, hB, h0⟩
        case measure => simp [intOf]; omega
      | false =>
        have HN : Hid ((xs.all fun x => inI x L) = false) := Lib.hid (by rw [List.all_eq_false]; exact ⟨xs[j], List.getElem_mem hlt, by rw [hin]; simp⟩)
        have Hin := Lib.hid hin
        clear hin
        generalize xs[j] = x at *
        have HI2 : Hid (∀ w, Calls Try.prog 26 #[.int .i64 x, .int .i64 0, .int .i64 ((L : Int) - 1)] w fun e w' => e = .returned (.bool false) ∧ w = w') := Lib.hid (fun w => by have h := HI.out w; rw [HE.out, Hin.out] at h; exact h)
        clear HI
        go_wp2_with fail
        refine wp_region_held (S := fun w' => At w' w.heap.size (.cells #[.int .i64 p, .int .i64 n, .int .i64 m, .int .i64 k, .slice A L cap] 28 (0, 0)) ∧ w'.cell? ⟨g, j, none⟩ = some (.int .i64 x)) (by kernel_rfl) ?_
        change wpAnyH _ _ _ _ _ _ _ _ (World.drew _)
        generalize hwda : World.drew _ = wda
        replace hB : Below w.heap.size w wda := by rw [← hwda]; exact hB.drew
        replace h0 : At wda w.heap.size (.cells #[.int .i64 p, .int .i64 n, .int .i64 m, .int .i64 k, .slice A L cap] 28 (0, 0)) := by rw [← hwda]; exact h0
        replace hcell : wda.cell? ⟨g, j, none⟩ = some (.int .i64 x) := by rw [← hwda]; exact hcell
        clear hwda
        refine held_yield 0 (some 12) (.slice (some ⟨g, 0, none⟩) xs.length c) rfl (by kernel_rfl) (by kernel_rfl) (by kernel_rfl) (fun _ _ _ h => h) rfl rfl ⟨h0, hcell⟩ (fun w' h' => exec_move _ rfl (.slice (some ⟨g, 0, none⟩) xs.length c) rfl) ?_
        go_frame
        refine held_yield 1 (some 13) (.int .i64 j) rfl (by kernel_rfl) (by kernel_rfl) (by kernel_rfl) (fun _ _ _ h => h) rfl rfl ⟨h0, hcell⟩ (fun w' h' => exec_move _ rfl (.int .i64 j) rfl) ?_
        go_frame
        refine held_yield 2 (some 14) (.pointer (some ⟨g, j, none⟩)) rfl (by kernel_rfl) (by kernel_rfl) (by kernel_rfl) (fun _ _ _ h => h) rfl rfl ⟨h0, hcell⟩ (fun w' h' => exec_index0 _ 2 _ _ rfl g xs.length c j rfl rfl Try.underlying82 (by kernel_rfl) hlt) ?_
        go_frame
        refine held_yield 3 (some 15) (.int .i64 x) rfl (by kernel_rfl) (by kernel_rfl) (by kernel_rfl) (fun _ _ _ h => h) rfl rfl ⟨h0, hcell⟩ (fun w' h' => exec_load_one 2 _ rfl g j rfl _ _ Try.underlying2 rfl h'.2) ?_
        go_frame
        refine held_yield 4 (some 16) (.pointer (some ⟨w.heap.size, 4, none⟩)) rfl (by kernel_rfl) (by kernel_rfl) (by kernel_rfl) (fun _ _ _ h => h) rfl rfl ⟨h0, hcell⟩ (fun w' h' => exec_fieldAddr 28 _ 4 rfl _ (by kernel_rfl)) ?_
        go_frame
        refine held_yield 5 (some 17) (.slice A L cap) rfl (by kernel_rfl) (by kernel_rfl) (by kernel_rfl) (fun _ _ _ h => h) rfl rfl ⟨h0, hcell⟩ (fun w' h' => exec_load_one 26 _ rfl w.heap.size 4 rfl _ _ Try.underlying26 rfl (h'.1.at_ 4)) ?_
        go_frame
        refine held_yield 6 (some 18) (.int .i64 L) rfl (by kernel_rfl) (by kernel_rfl) (by kernel_rfl) (fun _ _ _ h => h) rfl rfl ⟨h0, hcell⟩ (fun w' h' => exec_len _ 26 52 rfl A L cap rfl Try.underlying26) ?_
        go_frame
        refine held_yield 7 (some 19) (.int .i64 ((L : Int) - 1)) rfl (by kernel_rfl) (by kernel_rfl) (by kernel_rfl) (fun _ _ _ h => h) rfl rfl ⟨h0, hcell⟩ (fun w' h' => exec_sub _ _ _ _ rfl (L : Int) 1 _ rfl rfl e1) ?_
        go_frame
        refine held_oper 8 (by kernel_rfl) rfl rfl (fun K' hK' => ?_)
        refine wp_call3 (some 20) rfl 26 _ _ _ _ rfl (fun args w => by kernel_rfl) _ _ _ rfl rfl rfl _ (HI2.out _) (fun e wna1 h => ?_)
        obtain ⟨rfl, rfl⟩ := h
        refine ⟨_, rfl, hK' _ _ ⟨h0, hcell⟩ ?_⟩
        clear hK' K'
        go_frame
        refine held_yield 9 (some 21) (.bool true) rfl (by kernel_rfl) (by kernel_rfl) (by kernel_rfl) (fun _ _ _ h => h) rfl rfl ⟨h0, hcell⟩ (fun w' h' => exec_not 4 _ rfl false rfl) ?_
        go_frame
        refine wpAnyH_done (by kernel_rfl) ?_ _
        go_wp2_with fail
        go_ret
        exact ⟨by rw [HN.out]; rfl, hB⟩
    · obtain rfl : j = xs.length := by omega
      have HN : Hid ((xs.all fun x => inI x L) = true) := Lib.hid (by
        rw [List.all_eq_true]
        intro x hx
        obtain ⟨i, hi, rfl⟩ := List.mem_iff_getElem.1 hx
        exact Hall.out i hi hi)
      go_wp2_with fail
      go_ret
      exact ⟨by rw [HN.out]; rfl, hB⟩
theorem isIdx_c (a : Int) (n : Nat) (w : World) : Calls Try.prog 32 #[.int .i64 a, .int .i64 n] w fun e w' => e = .returned (.bool (inI a n)) ∧ w = w' := by
  by_cases h : 0 ≤ a
  · have Hr : Hid (inI a n = decide (a < (n : Int))) := Lib.hid (by simp [inI, h])
    have h1 : decide (0 ≤ a) = true := by simp [h]
    go_enter Try.func32, Try.ntmps32
    go_wp2_with fail
    go_ret
    exact ⟨by rw [Hr.out]; rfl, rfl⟩
  · have Hr : Hid (inI a n = false) := Lib.hid (by simp [inI, h])
    have h1 : decide (0 ≤ a) = false := by simp [h]
    go_enter Try.func32, Try.ntmps32
    go_wp2_with fail
    go_ret
    exact ⟨by rw [Hr.out]; rfl, rfl⟩
set_option maxHeartbeats 400000 in
theorem isProductIndex_c (p n m k : Int) (A : Option Addr) (cap L : Nat) (i : Int) (w : World) :
    Calls Try.prog 31 #[.agg #[.int .i64 p, .int .i64 n, .int .i64 m, .int .i64 k, .slice A L cap], .int .i64 i] w fun e w' => e = .returned (.bool (inI i L)) ∧ Below w.heap.size w w' := by
  go_enter Try.func31, Try.ntmps31
  go_wp2_with fail
  refine (isIdx_c i L _).mono ?_
  rintro e w1 ⟨rfl, rfl⟩
  go_wp2_with fail
  go_ret
  exact ⟨rfl, below1 _ _⟩
end Go.Proofs.Ytppenoincihoeaa
