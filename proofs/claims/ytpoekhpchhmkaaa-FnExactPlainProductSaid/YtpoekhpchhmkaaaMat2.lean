/-
  laws.szInt64S, szInt64SS, eqInt64SS, markInt64SS, heldInt64SS.
-/
import Derived.Test.YtpoekhpchhmkaaaMat1
namespace Go.Proofs.Ytpoekhpchhmkaaa
open Go.RowKit
set_option maxRecDepth 100000
def tot (row : Nat → List Int) : Nat → Nat
  | 0 => 0
  | k + 1 => tot row k + (row k).length
theorem tot_mono (row : Nat → List Int) {i j : Nat} (h : i ≤ j) : tot row i ≤ tot row j := by
  induction h with
  | refl => exact Nat.le_refl _
  | step _ ih => exact Nat.le_trans ih (by simp [tot])
set_option maxHeartbeats 400000 in
theorem szInt64S_c (A : Option Addr) (n c : Nat) (l : Int) (w : World) (h0 : 0 ≤ l) (hn : n ≤ 9223372036854775807) (hl : l ≤ 1048576) :
    Calls Try.prog 41 #[.slice A n c, .int .i64 l] w fun e w' => e = .returned (.int .i64 (if l < n then -1 else l - n)) ∧ w = w' := by
  by_cases h : l - n < 0
  · have h' : l < n := by omega
    go_enter Try.func41, Try.ntmps41
    go_wp2_with fail
    go_ret
    exact ⟨by simp, rfl⟩
  · have h' : ¬ l < n := by omega
    go_enter Try.func41, Try.ntmps41
    go_wp2_with fail
    go_ret
    exact ⟨by simp, rfl⟩
def SzM (n : Nat) (row : Nat → List Int) (l r : Int) : Prop := r = -1 ∨ (0 ≤ r ∧ r + n + tot row n = l)
set_option maxHeartbeats 800000 in
theorem szInt64SS_c (A : Option Addr) (n c : Nat) (row : Nat → List Int) (l : Int) (w : World) (hr : RdM w A n row) (h0 : 0 ≤ l) (hn : n ≤ 9223372036854775807) (hrow : ∀ i, i < n → (row i).length ≤ 9223372036854775807) (hl : l ≤ 1048576) :
    Calls Try.prog 17 #[.slice A n c, .int .i64 l] w fun e w' => ∃ r, e = .returned (.int .i64 r) ∧ SzM n row l r ∧ w = w' := by
  by_cases h : l - n < 0
  · have h' : l < n := by omega
    go_enter Try.func17, Try.ntmps17
    go_wp2_with fail
    go_ret
    exact ⟨_, rfl, .inl rfl, rfl⟩
  · have h' : ¬ l < n := by omega
    go_enter Try.func17, Try.ntmps17
    go_wp2_with fail
    go_loop [1, 5] (fun lv i => ∃ (k : Nat) (r : Int), k ≤ n ∧ i = .int .i64 k ∧ lv = .int .i64 r ∧ 0 ≤ r ∧ r + n + tot row k = l) (fun _ i => n - (intOf i).toNat)
    case atStart => exact ⟨0, l - n, by omega, rfl, rfl, by omega, by simp [tot]⟩
    case round =>
      obtain ⟨k, r, hk, rfl, rfl, hr0, hrl⟩ := hrel
      by_cases hlt : k < n
      · obtain ⟨b, off, B, cB, rfl, hc, hI⟩ := hr.at_ hlt
        have e0 : IntKind.i64.wrap ((k : Int) + 1) = (k : Int) + 1 := IntWalk.i64_in _ (by omega)
        have hk' : (k : Int) < (n : Int) := by omega
        have hS := szInt64S_c B (row k).length cB r w hr0 (hrow k hlt) (by omega)
        by_cases hb : r < (row k).length
        · simp only [if_pos hb] at hS
          go_wp2_with fail
          refine hS.mono ?_
          rintro e w' ⟨rfl, rfl⟩
          go_wp2_with fail
          go_ret
          exact ⟨_, rfl, .inl rfl, rfl⟩
        · simp only [if_neg hb] at hS
          have hb2 : ¬ r - ((row k).length : Int) < 0 := by omega
          go_wp2_with fail
          refine hS.mono ?_
          rintro e w' ⟨rfl, rfl⟩
          go_wp2_with fail
          exact ⟨⟨k + 1, _, by omega, by go_num, rfl, by omega, by simp [tot]; omega⟩, by simp [intOf]; omega⟩
      · obtain rfl : k = n := by omega
        go_wp2_with fail
        go_ret
        exact ⟨_, rfl, .inr ⟨hr0, hrl⟩, rfl⟩
set_option maxHeartbeats 800000 in
theorem eqInt64SS_c (A B : Option Addr) (c d n : Nat) (row : Nat → List Int) (w : World) (ha : RdM w A n row) (hb : RdM w B n row) (hn : n ≤ 9000000000000000000) (hrow : ∀ i, i < n → (row i).length ≤ 9000000000000000000) :
    Calls Try.prog 21 #[.slice A n c, .slice B n d] w fun e w' => e = .returned (.bool true) ∧ Below w.heap.size w w' := by
  have hbl : (((n : Nat) : Int) != ((n : Nat) : Int)) = false := by simp
  go_enter Try.func21, Try.ntmps21
  go_wp2_with fail
  go_loopw [5] (fun i wr => ∃ k : Nat, k ≤ n ∧ i = .int .i64 k ∧ Below w.heap.size w wr) (fun i _ => n - (intOf i).toNat)
  case atStart => exact ⟨0, by omega, rfl, Below.refl _ _⟩
  case round =>
    obtain ⟨k, hk, rfl, hB⟩ := hrel
    by_cases hlt : k < n
    · obtain ⟨b, off, C, cC, rfl, hc, hI⟩ := (ha.keep hB).at_ hlt
      obtain ⟨b', off', C', cC', rfl, hc', hI'⟩ := (hb.keep hB).at_ hlt
      have hl := hrow k hlt
      have e0 : IntKind.i64.wrap ((k : Int) + 1) = (k : Int) + 1 := IntWalk.i64_in _ (by omega)
      generalize row k = xs at *
      go_wp2_with fail
      refine wp_region_still_tail (P := Try.prog) 8 (by kernel_rfl) (by kernel_rfl) ?_
      simp only [List.take_succ_cons, List.take_zero, List.drop_succ_cons, List.drop_zero]
      refine wpStill_of_exec rfl (exec_move _ rfl (.slice (some ⟨b, off, none⟩) n c) rfl) ?_
      go_frame
      refine wpStill_of_exec rfl (exec_move _ rfl (.int .i64 k) rfl) ?_
      go_frame
      refine wpStill_of_exec rfl (exec_index_slice _ 66 _ _ rfl b off n c k 1 rfl rfl Try.underlying44 (by kernel_rfl) hlt) ?_
      go_frame
      refine wpStill_of_exec rfl (exec_load_one 66 _ rfl b (off + k * 1) rfl (.slice C xs.length cC) _ Try.underlying66 rfl (by rw [Nat.mul_one]; exact hc)) ?_
      go_frame
      refine wpStill_of_exec rfl (exec_move _ rfl (.slice (some ⟨b', off', none⟩) n d) rfl) ?_
      go_frame
      refine wpStill_of_exec rfl (exec_move _ rfl (.int .i64 k) rfl) ?_
      go_frame
      refine wpStill_of_exec rfl (exec_index_slice _ 66 _ _ rfl b' off' n d k 1 rfl rfl Try.underlying44 (by kernel_rfl) hlt) ?_
      go_frame
      refine wpStill_of_exec rfl (exec_load_one 66 _ rfl b' (off' + k * 1) rfl (.slice C' xs.length cC') _ Try.underlying66 rfl (by rw [Nat.mul_one]; exact hc')) ?_
      go_frame
      refine wpStill_nil ?_
      go_wp2_with fail
      refine (eqInt64S_c C C' cC cC' xs _ (hI.keep (Below.refl _ _).drew) (hI'.keep (Below.refl _ _).drew) hl).mono ?_
      rintro e w2 ⟨rfl, b2⟩
      have hB2 := below_after (hB.drew) b2
      go_wp2_with fail
      go_roundw
      case rel => exact ⟨k + 1, by omega, by go_num, hB2⟩
      case measure => simp [intOf]; omega
    · obtain rfl : k = n := by omega
      go_wp2_with fail
      go_ret
      exact ⟨rfl, hB⟩
def markRow (K : Nat) (row : Nat → List Int) (i : Nat) : List Int := (List.range (row i).length).map fun j => ((K + tot row i + j : Nat) : Int)
theorem markRow_len (K : Nat) (row : Nat → List Int) (i : Nat) : (markRow K row i).length = (row i).length := by simp [markRow]
theorem markCI_row (K : Nat) (row : Nat → List Int) (i : Nat) : markCI (iar (row i)) (K + tot row i) (row i).length = iar (markRow K row i) := by
  apply Array.ext'
  simp only [markCI, iar, i64s, markRow]
  rw [List.drop_of_length_le (by simp)]
  simp [List.map_map, markVI, Function.comp_def]
def stage (K : Nat) (row : Nat → List Int) (a x : Nat) : List Int := if x < a then markRow K row x else row x
theorem stage_at (K : Nat) (row : Nat → List Int) (a : Nat) : stage K row a a = row a := by simp [stage]
theorem stage_new (K : Nat) (row : Nat → List Int) (a : Nat) : stage K row (a + 1) a = markRow K row a := by simp [stage]
theorem stage_ne (K : Nat) (row : Nat → List Int) (a x : Nat) (h : x ≠ a) : stage K row (a + 1) x = stage K row a x := by
  unfold stage
  by_cases h1 : x < a
  · rw [if_pos h1, if_pos (by omega)]
  · rw [if_neg h1, if_neg (by omega)]
theorem MatB.congr {w : World} {lo hi g n : Nat} {cs : Array Value} {gs : Nat → Nat} {row row' : Nat → List Int} (h : MatB w lo hi g cs gs n row) (he : ∀ i, i < n → row' i = row i) : MatB w lo hi g cs gs n row' :=
  ⟨h.out, h.og, fun i hi => by rw [he i hi]; exact h.cell i hi, fun i hi => by rw [he i hi]; exact h.row i hi, h.inj⟩
set_option maxHeartbeats 800000 in
theorem markInt64SS_c {lo hi : Nat} {v : Value} (K n : Nat) (row : Nat → List Int) (w : World) (h : OwnM w lo hi v n row) (ht : n + tot row n ≤ 1048576) (hk : K ≤ 1000000000) :
    Calls Try.prog 22 #[v, .int .i64 K] w fun e w' => e = .returned (.int .i64 ((K + tot row n : Nat) : Int)) ∧ OwnM w' lo hi v n (markRow K row) ∧ Same lo hi w w' := by
  rcases h with ⟨rfl, rfl⟩ | ⟨g, c, cs, gs, rfl, hm⟩
  · go_enter Try.func22, Try.ntmps22
    go_wp2_with fail
    go_loop [1, 5] (fun kv i => i = .int .i64 0 ∧ kv = .int .i64 (K : Int)) (fun _ _ => 0)
    case atStart => exact ⟨rfl, rfl⟩
    case round =>
      obtain ⟨rfl, rfl⟩ := hrel
      go_wp2_with fail
      go_ret
      exact ⟨rfl, OwnM.nil _ _ _ _, Same.refl _ _ _⟩
  · go_enter Try.func22, Try.ntmps22
    go_wp2_with fail
    go_loopw [1, 5] (fun kv i wr => ∃ a : Nat, a ≤ n ∧ i = .int .i64 a ∧ kv = .int .i64 ((K + tot row a : Nat) : Int) ∧ MatB wr lo hi g cs gs n (stage K row a) ∧ Same lo hi w wr) (fun _ i _ => n - (intOf i).toNat)
    case atStart => exact ⟨0, by omega, rfl, by simp [tot], hm.congr fun i _ => by simp [stage], Same.refl _ _ _⟩
    case round =>
      clear hm
      obtain ⟨a, ha, rfl, rfl, hm, hS⟩ := hrel
      by_cases hlt : a < n
      · have e0 : IntKind.i64.wrap ((a : Int) + 1) = (a : Int) + 1 := IntWalk.i64_in _ (by omega)
        have hk' : (a : Int) < (n : Int) := by omega
        have t1 := tot_mono row (show a + 1 ≤ n by omega)
        simp only [tot] at t1
        have hrw := hm.row a hlt
        have c0 := hm.cell a hlt
        rw [stage_at] at hrw c0
        have hc : wr.cell? ⟨g, a, none⟩ = some (.slice (some ⟨gs a, 0, none⟩) (row a).length (row a).length) := by rw [hm.out.at_ a, c0]
        have HC := Lib.hid (markInt64S_at (gs a) (row a).length (row a).length (K + tot row a) (iar (row a)) 2 wr hrw.1 (by rw [iar_size]; exact Nat.le_refl _) (by omega) (by omega))
        go_wp2_with fail
        refine HC.out.mono ?_
        rintro e w2 ⟨rfl, hA, hG⟩
        rw [markCI_row] at hA
        have hm2 : MatB w2 lo hi g cs gs n (stage K row (a + 1)) := hm.put hlt (fun x hx => stage_ne K row a x hx) (by rw [stage_new, stage_at, markRow_len]) (by rw [stage_new]; exact hA) (fun x o hx hA => (hG.block x hA.lt (by simpa using hx)).trans hA)
        have hS2 := hS.trans (Same.of_grown hG hrw.2)
        clear HC hm hS hG hA
        go_wp2_with fail
        exact ⟨⟨a + 1, by omega, by go_num, by simp [tot]; omega, hm2, hS2⟩, by simp [intOf]; omega⟩
      · obtain rfl : a = n := by omega
        go_wp2_with fail
        go_ret
        exact ⟨rfl, .inr ⟨g, c, cs, gs, rfl, hm.congr fun i hi => by simp [stage, hi]⟩, hS⟩
set_option maxHeartbeats 800000 in
theorem heldInt64SS_c {lo hi : Nat} {v : Value} (K n : Nat) (row : Nat → List Int) (w : World) (h : OwnM w lo hi v n (markRow K row)) (ht : n + tot row n ≤ 1048576) (hk : K ≤ 1000000000) :
    Calls Try.prog 23 #[v, .int .i64 K] w fun e w' => e = .returned (.int .i64 ((K + tot row n : Nat) : Int)) ∧ w = w' := by
  rcases h with ⟨rfl, rfl⟩ | ⟨g, c, cs, gs, rfl, hm⟩
  · go_enter Try.func23, Try.ntmps23
    go_wp2_with fail
    go_loop [1, 5] (fun kv i => i = .int .i64 0 ∧ kv = .int .i64 (K : Int)) (fun _ _ => 0)
    case atStart => exact ⟨rfl, rfl⟩
    case round =>
      obtain ⟨rfl, rfl⟩ := hrel
      go_wp2_with fail
      go_ret
      exact ⟨rfl, rfl⟩
  · go_enter Try.func23, Try.ntmps23
    go_wp2_with fail
    go_loop [1, 5] (fun kv i => ∃ a : Nat, a ≤ n ∧ i = .int .i64 a ∧ kv = .int .i64 ((K + tot row a : Nat) : Int)) (fun _ i => n - (intOf i).toNat)
    case atStart => exact ⟨0, by omega, rfl, by simp [tot]⟩
    case round =>
      obtain ⟨a, ha, rfl, rfl⟩ := hrel
      by_cases hlt : a < n
      · have e0 : IntKind.i64.wrap ((a : Int) + 1) = (a : Int) + 1 := IntWalk.i64_in _ (by omega)
        have hk' : (a : Int) < (n : Int) := by omega
        have t1 := tot_mono row (show a + 1 ≤ n by omega)
        simp only [tot] at t1
        have hrw := hm.row a hlt
        have c0 := hm.cell a hlt
        rw [markRow_len] at c0
        have hc : w.cell? ⟨g, a, none⟩ = some (.slice (some ⟨gs a, 0, none⟩) (row a).length (row a).length) := by rw [hm.out.at_ a, c0]
        have HC := Lib.hid (heldInt64S_at (gs a) (row a).length (row a).length (K + tot row a) w (fun i hi => by
          rw [hrw.1.at_ i, ← markCI_row, markCI_get hi]) (by omega) (by omega))
        have hneg : ¬ ((K + tot row a + (row a).length : Nat) : Int) < 0 := by omega
        have hneg' : ¬ (K : Int) + ((tot row a : Nat) : Int) + ((row a).length : Int) < 0 := by omega
        go_wp2_with fail
        refine HC.out.mono ?_
        rintro e w2 ⟨rfl, rfl⟩
        go_wp2_with fail
        exact ⟨⟨a + 1, by omega, by go_num, by simp [tot]; omega⟩, by simp [intOf]; omega⟩
      · obtain rfl : a = n := by omega
        go_wp2_with fail
        go_ret
        exact ⟨rfl, rfl⟩
end Go.Proofs.Ytpoekhpchhmkaaa
