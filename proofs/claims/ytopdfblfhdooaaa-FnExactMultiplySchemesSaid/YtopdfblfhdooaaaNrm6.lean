/-
  impl.normalProducts, schemeFor, NormalProducts; spec.NormalProducts.
-/
import Derived.Test.YtopdfblfhdooaaaOwnSet
import Derived.Test.YtopdfblfhdooaaaNrm3
import Derived.Test.YtopdfblfhdooaaaNrm5
namespace Go.Proofs.Ytopdfblfhdooaaa
open Go.RowKit
set_option maxRecDepth 100000
def mixQ (N : List Nat → List Nat) (qs : List (List Nat)) (j : Nat) : List (List Nat) := (qs.take j).map N ++ qs.drop j
theorem mixQ_len (N : List Nat → List Nat) (qs : List (List Nat)) {j : Nat} (hj : j ≤ qs.length) : (mixQ N qs j).length = qs.length := by simp [mixQ]; omega
theorem mixQ_get (N : List Nat → List Nat) {qs : List (List Nat)} {j : Nat} (hj : j < qs.length) : (mixQ N qs j)[j]'(by rw [mixQ_len N qs (by omega)]; exact hj) = qs[j] := by
  have h1 : ((qs.take j).map N).length = j := by simp; omega
  simp only [mixQ]
  rw [List.getElem_append_right (by omega)]
  simp [Nat.min_eq_left (Nat.le_of_lt hj)]
theorem mixQ_set (N : List Nat → List Nat) {qs : List (List Nat)} {j : Nat} (hj : j < qs.length) : (mixQ N qs j).set j (N qs[j]) = mixQ N qs (j + 1) := by
  have h1 : ((qs.take j).map N).length = j := by simp; omega
  unfold mixQ
  rw [List.set_append_right _ _ (by omega), h1, Nat.sub_self, List.drop_eq_getElem_cons hj, List.set_cons_zero, List.take_succ_eq_append_getElem hj, List.map_append, List.append_assoc]
  rfl
theorem mixQ_bytes {N : List Nat → List Nat} {qs : List (List Nat)} (hN : ∀ q, Bytes 27 (N q)) (hq : ∀ q ∈ qs, Bytes 27 q) (j : Nat) : ∀ q ∈ mixQ N qs j, Bytes 27 q := by
  intro q hm
  simp only [mixQ, List.mem_append, List.mem_map] at hm
  rcases hm with ⟨r, _, rfl⟩ | hm
  · exact hN r
  · exact hq q (List.mem_of_mem_drop hm)
theorem Own.lenV {w : World} {lo c n : Nat} {A : Option Addr} {qs : List (List Nat)} (h : Own w lo (.slice A n c) qs) : n = qs.length := h.len
theorem schemeFor_c (p n m k : Int) (A : Option Addr) (l c : Nat) (w : World) :
    Calls Try.prog 43 #[.int .i64 p, .agg #[.int .i64 n, .int .i64 m, .int .i64 k], .slice A l c] w fun e w' => e = .returned (.agg #[.int .i64 p, .int .i64 n, .int .i64 m, .int .i64 k, .slice A l c]) ∧ Below w.heap.size w w' := by
  go_enter Try.func43, Try.ntmps43
  go_wp2_with fail
  refine bodyPost_ret (results_at rfl _ _ (w.heap.size + 1) _ _ _ rfl (al2_1 _ _ _) Try.underlying39 rfl 5 (by kernel_rfl) rfl) rfl ?_
  exact ⟨rfl, below2 _ _ _⟩
def nrmCode (p n m k : Int) (qs : List (List Nat)) : Int := if schemeB p n m k qs then 0 else 1
def nrmZ (p n m k : Int) (qs : List (List Nat)) (x : Int) : Int := if schemeB p n m k qs then x else 0
def nrmQs (p n m k : Int) (qs : List (List Nat)) : List (List Nat) := if schemeB p n m k qs then qs.map (normQ p) else []
theorem nrmQs_len (p n m k : Int) (qs : List (List Nat)) : (nrmQs p n m k qs).length ≤ 30 := by
  unfold nrmQs
  split
  · rename_i h
    rw [List.length_map]
    exact schemeB_len h
  · simp
theorem nrmQs_bytes (p n m k : Int) (qs : List (List Nat)) : ∀ r ∈ nrmQs p n m k qs, Bytes 27 r := by
  unfold nrmQs
  split
  · rename_i h
    intro r hr
    obtain ⟨q, _, rfl⟩ := List.mem_map.1 hr
    exact normQ_bytes q (sizesB_parts (schemeB_sizes h)).1
  · simp
end Go.Proofs.Ytopdfblfhdooaaa
