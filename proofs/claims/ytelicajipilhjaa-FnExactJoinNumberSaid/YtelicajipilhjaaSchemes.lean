/-
  laws.toProductS, toScheme, szProductS, szScheme: the copies are equal and lie in new memory; nothing that was there is written.
-/
import Derived.Test.YtelicajipilhjaaForms
namespace Go.Proofs.Ytelicajipilhjaa
open Go.RowKit
def ProdsRel (w : World) (g : Nat) (qs : List (List Nat)) (i : Value) (wr : World) : Prop :=
  ∃ k : Nat, k ≤ qs.length ∧ i = .int .i64 k ∧ Below w.heap.size w wr ∧ At wr g (.cells (u8s ((qs.take k).flatten ++ List.replicate ((qs.length - k) * 27) 0)) 49 (0, 0))
/-- The returned slice lies at the head of a new block, which holds just the products. -/
def NewProds (w : World) (qs : List (List Nat)) (e : Ending) (w' : World) : Prop :=
  ∃ g : Nat, e = .returned (.slice (some ⟨g, 0, none⟩) qs.length qs.length) ∧ w.heap.size ≤ g ∧ At w' g (.cells (u8s qs.flatten) 49 (0, 0)) ∧ Below w.heap.size w w'
set_option maxHeartbeats 400000 in
theorem toProductS_c (A : Option Addr) (c : Nat) (qs : List (List Nat)) (w : World) (hr : Rd w A qs) (hn : qs.length ≤ 1048576) :
    Calls Try.prog 25 #[.slice A qs.length c] w (NewProds w qs) := by
  have hl : ∀ q ∈ qs, q.length = 27 := hr.len
  go_enter Try.func25, Try.ntmps25
  go_wp2_with (refine wpList_make_u8s rfl _ _ 26 rfl 49 27 27 Try.underlying26 (by kernel_rfl) (by omega) qs.length rfl rfl (by omega) (by omega) ?_; intro w1 n1)
  have hB := n1.below (Below.refl w.heap.size w) (Nat.le_refl _)
  have hA := n1.at_
  go_wp2_with fail
  go_loopw [4] (fun i wr => ProdsRel w w.heap.size qs i wr) (fun i _ => qs.length - (intOf i).toNat)
  case atStart => exact ⟨0, by omega, rfl, hB, by simpa using hA⟩
  case round =>
    obtain ⟨k, hk, rfl, hB1, hA1⟩ := hrel
    clear n1 hA
    by_cases hlt : k < qs.length
    · obtain ⟨b, off, rfl, hc⟩ := (hr.keep hB1).at_ hlt
      have hq := hr.good qs[k] (List.getElem_mem hlt)
      have Hs := Lib.hid (flat_step hl (List.getElem?_eq_getElem hlt))
      have Hl := Lib.hid hl
      have Hc := Lib.hid hc
      have Hr := Lib.hid hr
      clear hl hc hr
      go_wp2_with (refine wpList_load_cells rfl 65 _ rfl b (off + k * 27) rfl qs[k] _ 27 Hc.out Try.underlying65 rfl (by kernel_rfl) hq.len ?_)
      refine (toProduct_c _ hq _).mono ?_
      rintro e w2 ⟨rfl, b2⟩
      have hA2 := hA1.after b2
      have hB2 := below_after hB1 b2
      have Hlen := Lib.hid (flat_room Hl.out hlt)
      go_wp2_with (refine wpList_store_u8s rfl 49 _ _ rfl rfl w.heap.size (k * 27) rfl qs[k] rfl _ _ hA2 27 (by kernel_rfl) hq.len Hlen.out ?_; intro w3 p3)
      go_roundw
      case rel =>
        have h3 := p3.at_
        rw [Hs.out] at h3
        exact ⟨k + 1, by omega, by go_num, p3.below hB2 (Nat.le_refl _), h3⟩
      case measure => simp [intOf]; omega
    · obtain rfl : k = qs.length := by omega
      rw [flat_end] at hA1
      go_wp2_with fail
      go_ret
      exact ⟨w.heap.size, rfl, Nat.le_refl _, hA1, hB1⟩
/-- The returned scheme has new products. -/
def NewScheme (w : World) (p n m k : Int) (qs : List (List Nat)) (e : Ending) (w' : World) : Prop :=
  ∃ g : Nat, e = .returned (.agg #[.int .i64 p, .int .i64 n, .int .i64 m, .int .i64 k, .slice (some ⟨g, 0, none⟩) qs.length qs.length]) ∧ w.heap.size ≤ g ∧ At w' g (.cells (u8s qs.flatten) 49 (0, 0)) ∧ Below w.heap.size w w'
set_option maxHeartbeats 400000 in
theorem toScheme_c (p n m k : Int) (A : Option Addr) (c : Nat) (qs : List (List Nat)) (w : World) (hr : Rd w A qs) (hn : qs.length ≤ 1048576) :
    Calls Try.prog 10 #[.agg #[.int .i64 p, .int .i64 n, .int .i64 m, .int .i64 k, .slice A qs.length c]] w (NewScheme w p n m k qs) := by
  go_enter Try.func10, Try.ntmps10
  go_wp2_with fail
  refine (toProductS_c A c qs _ (hr.keep (below3 _ _ _ _)) hn).mono ?_
  rintro e w1 ⟨g, rfl, hg, hA, b1⟩
  have h1 := At.after (al3_1 _ _ _ _) b1
  have h2 := At.after (al3_2 _ _ _ _) b1
  have hB := below_after (below3 _ _ _ _) b1
  rw [size_al3] at hg
  clear b1
  have c4 : w1.cell? ⟨w.heap.size + 1 + 1, 4, none⟩ = some (.slice none 0 0) := h2.at_ 4
  have f4 := h2.free 4
  have p2 := Put.cell (i := 4) h2 (.slice (some ⟨g, 0, none⟩) qs.length qs.length)
  have h1' := p2.other h1 (by omega)
  have h2' := p2.at_
  have hA' := p2.other hA (by omega)
  have hB' := p2.below hB (by omega)
  clear p2 h1 h2
  go_wp2_with (first | (refine wpList_load_all rfl 28 _ rfl (w.heap.size + 1 + 1) rfl _ _ _ h2' Try.underlying28 rfl 5 (by kernel_rfl) rfl ?_) | (refine wpList_store_all rfl 28 _ _ rfl rfl (w.heap.size + 1) rfl _ rfl _ _ h1' 5 (by kernel_rfl) rfl rfl (by simp [Value.oneCell']) ?_; intro w2 p2))
  refine bodyPost_ret (results_at rfl _ _ (w.heap.size + 1) _ _ _ rfl p2.at_ Try.underlying28 rfl 5 (by kernel_rfl) rfl) rfl ?_
  exact ⟨g, rfl, by omega, p2.other hA' (by omega), p2.below hB' (by omega)⟩
set_option maxHeartbeats 400000 in
theorem szProductS_c (A : Option Addr) (n c : Nat) (l : Int) (w : World) (h0 : 0 ≤ l) (hn : n ≤ 9223372036854775807) (hl : l ≤ 1048576) :
    Calls Try.prog 23 #[.slice A n c, .int .i64 l] w fun e w' => e = .returned (.int .i64 (if l < n then -1 else l - n)) ∧ w = w' := by
  by_cases h : l - n < 0
  · have h' : l < n := by omega
    go_enter Try.func23, Try.ntmps23
    go_wp2_with fail
    go_ret
    exact ⟨by simp, rfl⟩
  · have h' : ¬ l < n := by omega
    go_enter Try.func23, Try.ntmps23
    go_wp2_with fail
    go_ret
    exact ⟨by simp, rfl⟩
theorem szScheme_c (p n m k : Int) (A : Option Addr) (len c : Nat) (l : Int) (w : World) (h0 : 0 ≤ l) (hn : len ≤ 9223372036854775807) (hl : l ≤ 1048576) :
    Calls Try.prog 8 #[.agg #[.int .i64 p, .int .i64 n, .int .i64 m, .int .i64 k, .slice A len c], .int .i64 l] w fun e w' => e = .returned (.int .i64 (if l < len then -1 else l - len)) ∧ Below w.heap.size w w' := by
  by_cases h : l < len
  · have h1 := szProductS_c A len c l
    simp only [if_pos h] at h1
    go_enter Try.func8, Try.ntmps8
    go_wp2_with (go_at_call 23; refine (h1 _ h0 hn hl).mono ?_; rintro e w' ⟨rfl, rfl⟩)
    go_ret
    exact ⟨by simp, below1 _ _⟩
  · have h1 := szProductS_c A len c l
    simp only [if_neg h] at h1
    have h2 : ¬ l - len < 0 := by omega
    go_enter Try.func8, Try.ntmps8
    go_wp2_with (go_at_call 23; refine (h1 _ h0 hn hl).mono ?_; rintro e w' ⟨rfl, rfl⟩)
    go_ret
    exact ⟨by simp, below1 _ _⟩
end Go.Proofs.Ytelicajipilhjaa
