/-
  slices.Concat at []int64, impl.sumOfForm: ConcI and FormAt in one, over the kits.
-/
import Derived.Test.YtolgfpcadfjliaaMat1
import Derived.Test.YtolgfpcadfjliaaConcat
import Derived.Test.YtolgfpcadfjliaaTen6
import Derived.Test.YtolgfpcadfjliaaPln2
import Derived.Lib.AppendZeros
import Derived.BigQuiet
import Derived.Deep.QuietTactic
namespace Go.Proofs.Ytolgfpcadfjliaa
section
open Go.RowKit
set_option maxRecDepth 100000
set_option maxHeartbeats 800000 in
theorem growNilI_c (n : Nat) (hn : n ≤ 1000000) (w : World) :
    Calls Try.prog 65 #[.slice none 0 0, .int .i64 n] w fun e w' => ∃ v, e = .returned v ∧ OwnI w' w.heap.size v [] ∧ Below w.heap.size w w' := by
  rcases Nat.eq_zero_or_pos n with h0 | hpos
  · subst h0
    go_enter Try.func65, Try.ntmps65
    go_wp2_with fail
    go_ret
    exact ⟨_, rfl, OwnI.nil _ _, Below.refl _ _⟩
  · obtain ⟨i0, hi, hz0, hz1, hz2⟩ := info_parts infoI64
    have happ := Lib.run_append_nil_zeros (P := Try.prog) w 22 3 22 2 i0 (.int .i64 0) .i64 .i64 Try.underlying22 Try.underlying3 hi hz0 n hpos (by rw [hz1]; omega) (by omega) (by rw [hz2]; omega)
    generalize hcap : grownCap w n 0 2 = cap2 at happ
    have hcapge : n ≤ cap2 := by rw [← hcap]; exact grownCap_ge w _ 0 2
    have hcaple : cap2 ≤ maxLen := by rw [← hcap]; exact grownCap_le_maxLen w _ 0 2 (by unfold maxLen; omega)
    generalize hZ : (Builtin.zeroCells (Value.int .i64 0).cells n ++ Builtin.zeroCells (Value.int .i64 0).cells (cap2 - n)) = Z at happ
    have hZs : Z.size = cap2 * 1 := by
      rw [← hZ]
      simp only [Array.size_append, size_zeroCells, Value.cells, List.size_toArray, List.length_cons, List.length_nil]
      omega
    have Happ := Lib.hid happ
    have HZs := Lib.hid hZs
    have Hcl := Lib.hid hcaple
    have hc1 : (n : Int) ≤ (cap2 : Int) := by omega
    have hcm : (cap2 : Int) ≤ 9223372036854775807 := by unfold maxLen at hcaple; omega
    clear happ hcap hZ hZs hcaple
    go_enter Try.func65, Try.ntmps65
    go_wp2_with (at_builtin; refine Lib.wpList_append_run _ rfl _ _ _ _ rfl _ _ rfl rfl _ _ Happ.out ?_)
    go_ret
    refine ⟨_, rfl, ⟨by simp [i64s], .inr ⟨w.heap.size, cap2, Z, rfl, Nat.le_refl _, ?_, by simp, Hcl.out, HZs.out, by simp [i64s]⟩⟩, ?_⟩
    · exact al1_0 _ _
    · exact (below1 _ _).drew
def catI (row : Nat → List Int) : Nat → List Int
  | 0 => []
  | k + 1 => catI row k ++ row k
theorem catI_len (row : Nat → List Int) (k : Nat) : (catI row k).length = tot row k := by
  induction k with
  | zero => rfl
  | succ k ih => simp [catI, tot, ih]
theorem catI_get (row : Nat → List Int) {i n k : Nat} (hi : i < n) (hk : k < (row i).length) : (catI row n)[tot row i + k]? = (row i)[k]? := by
  induction n with
  | zero => omega
  | succ n ih =>
    rcases Nat.lt_or_ge i n with h | h
    · have h1 := tot_mono row (show i + 1 ≤ n by omega)
      simp only [tot] at h1
      rw [catI, List.getElem?_append_left (by rw [catI_len]; omega)]
      exact ih h
    · obtain rfl : i = n := by omega
      rw [catI, List.getElem?_append_right (by rw [catI_len]; omega), catI_len]
      congr 1
      omega
theorem RdI.cells {w : World} {b off : Nat} {xs : List Int} (h : RdI w (some ⟨b, off, none⟩) xs) : ∀ j u, (i64s xs)[j]? = some u → w.cell? ((⟨b, off, none⟩ : Addr).add j) = some u := by
  intro j u hu
  simp only [i64s, List.getElem?_map] at hu
  cases hj : xs[j]? with
  | none => rw [hj] at hu; cases hu
  | some x =>
    rw [hj] at hu
    simp only [Option.map_some, Option.some.injEq] at hu
    subst hu
    rcases h with rfl | ⟨b', off', e, hc⟩
    · simp at hj
    · simp only [Option.some.injEq, Addr.mk.injEq] at e
      obtain ⟨rfl, rfl, _⟩ := e
      rw [add_none]
      exact hc j x hj
theorem i64s_one (xs : List Int) : ∀ v ∈ i64s xs, v.oneCell' = true := by
  intro v hv
  obtain ⟨x, _, rfl⟩ := List.mem_map.1 hv
  rfl
theorem OwnI.append {w : World} {lo : Nat} {v : Value} {xs ys : List Int} (ow : w.ownsRow lo 2 1 v (xs.length + ys.length) (i64s xs ++ i64s ys)) : OwnI w lo v (xs ++ ys) := by
  unfold OwnI
  rw [show i64s (xs ++ ys) = i64s xs ++ i64s ys by simp [i64s], List.length_append]
  exact ow
set_option maxHeartbeats 1600000 in
theorem concatI_c (A : Option Addr) (c n : Nat) (row : Nat → List Int) (w : World) (hr : RdM w A n row) (hpos : ∀ i, i < n → 0 < (row i).length) (hn : n ≤ 1000) (ht : tot row n ≤ 1000000) :
    Calls Try.prog 49 #[.slice A n c] w fun e w' => ∃ v, e = .returned v ∧ OwnI w' w.heap.size v (catI row n) ∧ Below w.heap.size w w' := by
  go_enter Try.func49, Try.ntmps49
  go_wp2_with fail
  go_loop [3, 11] (fun s i => ∃ k : Nat, k ≤ n ∧ i = .int .i64 k ∧ s = .int .i64 ((tot row k : Nat) : Int)) (fun _ i => n - (intOf i).toNat)
  case atStart => exact ⟨0, by omega, rfl, rfl⟩
  case round =>
    obtain ⟨k, hk, rfl, rfl⟩ := hrel
    by_cases hlt : k < n
    · obtain ⟨b, off, B, cB, hA0, hc, hI⟩ := hr.at_ hlt
      have hst := tot_mono row (show k + 1 ≤ n by omega)
      have HS : Hid (tot row (k + 1) = tot row k + (row k).length) := Lib.hid rfl
      rw [HS.out] at hst
      have hneg : ¬ (tot row k : Int) + ((row k).length : Int) < 0 := by omega
      subst hA0
      have hlt' : (k : Int) < (n : Int) := by omega
      generalize row k = xs at *
      generalize tot row k = S at *
      go_wp2_with fail
      exact ⟨⟨k + 1, by omega, by go_num, by rw [HS.out]; go_num⟩, by simp [intOf]; omega⟩
    · obtain rfl : k = n := by omega
      have HR := Lib.hid hr
      clear hr
      have HT := Lib.hid ht
      generalize hS : tot row k = S at *
      have HSum := Lib.hid hS
      clear hS
      go_wp2_with fail
      refine (growNilI_c S (by omega) _).mono ?_
      rintro e w1 ⟨v, rfl, ho, hB⟩
      go_wp2_with fail
      go_loopw [6, 27] (fun v i wr => ∃ j : Nat, j ≤ k ∧ i = .int .i64 j ∧ OwnI wr w.heap.size v (catI row j) ∧ Below w.heap.size w wr) (fun _ i _ => k - (intOf i).toNat)
      case atStart => exact ⟨0, by omega, rfl, ho, hB⟩
      case round =>
        clear ho hB
        obtain ⟨j, hj, rfl, ho, hB⟩ := hrel
        by_cases hlt : j < k
        · obtain ⟨b, off, B, cB, hA0, hc, hI⟩ := (HR.out.keep hB).at_ hlt
          have hlt' : (j : Int) < (k : Int) := by omega
          have hst := tot_mono row (show j + 1 ≤ k by omega)
          have hp := hpos j hlt
          have hcl := catI_len row j
          have HC : Hid (catI row (j + 1) = catI row j ++ row j) := Lib.hid rfl
          simp only [tot] at hst
          rw [HSum.out] at hst
          subst hA0
          obtain ⟨b3, off3, rfl, _⟩ := hI.at_ hp
          have hle : (catI row j).length + (row j).length ≤ 1000000 := by rw [hcl]; omega
          have hcells := hI.cells
          generalize row j = xs at *
          generalize catI row j = C at *
          obtain ⟨i0, hi, hz0, hz1, hz2⟩ := info_parts infoI64
          go_wp2_with (at_builtin; refine wpList_append_own _ rfl _ _ 22 rfl w.heap.size 2 i0 (.int .i64 0) 1 8 Try.underlying22 hi hz0 hz1 hz2 rfl (by decide) _ _ _ rfl ho ⟨b3, off3, none⟩ xs.length cB (i64s xs) rfl (by simp [i64s]) hcells (i64s_one _) (by unfold maxLen; omega) (by omega) (by exact hB.size) ?_; intro v1 w8 own8 gr8 nil8)
          exact ⟨⟨j + 1, by omega, by go_num, by rw [HC.out]; exact OwnI.append own8, below_grownI hB gr8 ho (Nat.le_refl _)⟩, by simp [intOf]; omega⟩
        · obtain rfl : j = k := by omega
          go_wp2_with fail
          go_ret
          exact ⟨_, rfl, ho, hB⟩
end
section
open Go.RowKit
set_option maxRecDepth 100000
def sumF (f : List Nat) (xs : List Int) : Nat → Int
  | 0 => 0
  | k + 1 => sumF f xs k + ((f[k]?.getD 0 : Nat) : Int) * (xs[k]?.getD 0)
theorem mul_b {y : Nat} {x : Int} (hy : y < 256) (hx : 0 ≤ x ∧ x ≤ 5) : 0 ≤ (y : Int) * x ∧ (y : Int) * x ≤ 1280 := by
  have h1 : (y : Int) * x ≤ 256 * 5 := Int.mul_le_mul (by omega) (by omega) hx.1 (by omega)
  exact ⟨Int.mul_nonneg (by omega) hx.1, by omega⟩
theorem sumF_in {f : List Nat} {xs : List Int} (hf : Bytes 9 f) (hx : ∀ x ∈ xs, 0 ≤ x ∧ x ≤ 5) (k : Nat) : 0 ≤ sumF f xs k ∧ sumF f xs k ≤ k * 1280 := by
  induction k with
  | zero => exact ⟨Int.le_refl _, by simp [sumF]⟩
  | succ k ih =>
    have h := mul_b (hf.lt k) (x := xs[k]?.getD 0) (by
      cases hk : xs[k]? with
      | none => simp
      | some x => simpa using hx x (List.mem_of_getElem? hk))
    simp only [sumF]
    omega
theorem catI_mem {row : Nat → List Int} {n : Nat} {x : Int} (h : x ∈ catI row n) : ∃ i, i < n ∧ x ∈ row i := by
  induction n with
  | zero => cases h
  | succ n ih =>
    rw [catI, List.mem_append] at h
    rcases h with h | h
    · obtain ⟨i, hi, hx⟩ := ih h
      exact ⟨i, by omega, hx⟩
    · exact ⟨n, by omega, h⟩
end
end Go.Proofs.Ytolgfpcadfjliaa
