/-
  Sorting: bytes in the order of their lists, insertion behind equals, and that it makes what a merge sort makes.
-/
import Derived.Test.YtmbjpnkedepijaaBase
import Derived.Sort.Statements
import Derived.Shelf.SlSortCmp.Insertion
namespace Go.Proofs.Ytmbjpnkedepijaa
open Go.Sort Go.Shelf
/-- Which of two lists comes first: -1, 0 or 1. -/
def lexC : List Nat → List Nat → Int
  | a :: x, b :: y => if a < b then -1 else if b < a then 1 else lexC x y
  | _, _ => 0
theorem lexC_cons (a b : Nat) (x y : List Nat) : lexC (a :: x) (b :: y) = if a < b then -1 else if b < a then 1 else lexC x y := rfl
theorem lexC_self : ∀ x : List Nat, lexC x x = 0
  | [] => rfl
  | a :: x => by simp [lexC, lexC_self x]
theorem lexC_vals : ∀ x y : List Nat, lexC x y = -1 ∨ lexC x y = 0 ∨ lexC x y = 1
  | [], _ => by simp [lexC]
  | _ :: _, [] => by simp [lexC]
  | a :: x, b :: y => by
    have := lexC_vals x y
    unfold lexC
    split
    · simp
    · split
      · simp
      · exact this
theorem lexC_anti : ∀ x y : List Nat, lexC y x = - lexC x y
  | [], [] => rfl
  | [], _ :: _ => rfl
  | _ :: _, [] => rfl
  | a :: x, b :: y => by
    unfold lexC
    rcases Nat.lt_trichotomy a b with h | h | h
    · rw [if_neg (by omega), if_pos h, if_pos h]
      rfl
    · subst h
      simp [lexC_anti x y]
    · rw [if_pos h, if_neg (by omega), if_pos h]
theorem lexC_eq : ∀ x y : List Nat, x.length = y.length → lexC x y = 0 → x = y
  | [], [], _, _ => rfl
  | [], _ :: _, h, _ => by simp at h
  | _ :: _, [], h, _ => by simp at h
  | a :: x, b :: y, hl, h => by
    unfold lexC at h
    split at h
    · omega
    · split at h
      · omega
      · rw [show a = b by omega, lexC_eq x y (by simpa using hl) h]
theorem lexC_trans : ∀ x y z : List Nat, x.length = y.length → y.length = z.length → lexC x y ≤ 0 → lexC y z ≤ 0 → lexC x z ≤ 0
  | [], _, _, _, _, _, _ => by simp [lexC]
  | _ :: _, [], _, h, _, _, _ => by simp at h
  | _ :: _, _ :: _, [], _, h, _, _ => by simp at h
  | a :: x, b :: y, c :: z, h1, h2, h3, h4 => by
    have ih := lexC_trans x y z (by simpa using h1) (by simpa using h2)
    unfold lexC at h3 h4 ⊢
    repeat' split at h3
    all_goals repeat' split at h4
    all_goals repeat' split
    all_goals first | omega | exact ih h3 h4
theorem lexC_trans2 (x y z : List Nat) (h1 : x.length = y.length) (h2 : y.length = z.length) (h3 : lexC x y < 0) (h4 : lexC y z < 0) : lexC x z < 0 := by
  have h5 := lexC_trans x y z h1 h2 (by omega) (by omega)
  rcases lexC_vals x z with h | h | h
  · omega
  · have e := lexC_eq x z (by omega) h
    subst e
    have := lexC_anti x y
    omega
  · omega
theorem lexC_append : ∀ (x y u v : List Nat), x.length = y.length → lexC (x ++ u) (y ++ v) = if lexC x y = 0 then lexC u v else lexC x y
  | [], [], _, _, _ => by simp [lexC]
  | [], _ :: _, _, _, h => by simp at h
  | _ :: _, [], _, _, h => by simp at h
  | a :: x, b :: y, u, v, h => by
    rw [List.cons_append, List.cons_append, lexC_cons, lexC_cons, lexC_append x y u v (by simpa using h)]
    by_cases h1 : a < b
    · simp [h1]
    · by_cases h2 : b < a
      · simp [h1, h2]
      · simp only [if_neg h1, if_neg h2]
/-- The 27 numbers of a product. -/
abbrev P27 := { q : List Nat // Bytes 27 q }
instance : Inhabited P27 := ⟨⟨List.replicate 27 0, by simp [Bytes]⟩⟩
def cf27 (x y : P27) : Int := lexC x.1 y.1
theorem lt27 (x y : P27) : ltOf cf27 x y = decide (lexC x.1 y.1 < 0) := rfl
theorem swo27 : SWO (ltOf cf27) where
  irrefl x := by rw [lt27, lexC_self]; decide
  trans x y z h1 h2 := by
    rw [lt27, decide_eq_true_eq] at *
    exact lexC_trans2 _ _ _ (by rw [x.2.1, y.2.1]) (by rw [y.2.1, z.2.1]) h1 h2
  ntrans x y z h1 h2 := by
    rw [lt27, decide_eq_false_iff_not] at *
    have a1 := lexC_anti x.1 y.1
    have a2 := lexC_anti y.1 z.1
    have a3 := lexC_anti x.1 z.1
    have := lexC_trans z.1 y.1 x.1 (by rw [z.2.1, y.2.1]) (by rw [y.2.1, x.2.1]) (by omega) (by omega)
    omega
theorem tot27 (x y : P27) (h1 : ltOf cf27 x y = false) (h2 : ltOf cf27 y x = false) : x = y := by
  rw [lt27, decide_eq_false_iff_not] at *
  have a1 := lexC_anti x.1 y.1
  exact Subtype.ext (lexC_eq _ _ (by rw [x.2.1, y.2.1]) (by omega))
/-- Where a list comes to stand among others: behind those that it does not come before. -/
def posL (x : List Nat) : List (List Nat) → Nat
  | [] => 0
  | y :: l => if lexC x y < 0 then 0 else posL x l + 1
def insL (x : List Nat) (l : List (List Nat)) : List (List Nat) := l.take (posL x l) ++ x :: l.drop (posL x l)
def insA : List (List Nat) → List (List Nat) → List (List Nat)
  | acc, [] => acc
  | acc, x :: xs => insA (insL x acc) xs
theorem flatten_len27 : ∀ (qs : List (List Nat)), (∀ q ∈ qs, q.length = 27) → qs.flatten.length = qs.length * 27
  | [], _ => rfl
  | q :: qs, h => by
    rw [List.flatten_cons, List.length_append, flatten_len27 qs (fun q hq => h q (by simp [hq])), h q (by simp), List.length_cons]
    omega
theorem posL_le (x : List Nat) : ∀ l : List (List Nat), posL x l ≤ l.length
  | [] => Nat.le_refl _
  | y :: l => by
    unfold posL
    split
    · omega
    · have := posL_le x l
      simp
      omega
theorem insL_cons (x y : List Nat) (l : List (List Nat)) : insL x (y :: l) = if lexC x y < 0 then x :: y :: l else y :: insL x l := by
  unfold insL
  rw [show posL x (y :: l) = if lexC x y < 0 then 0 else posL x l + 1 from rfl]
  split <;> simp
theorem insL_perm (x : List Nat) (l : List (List Nat)) : (insL x l).Perm (x :: l) := by
  unfold insL
  have h : (l.take (posL x l) ++ x :: l.drop (posL x l)).Perm (x :: (l.take (posL x l) ++ l.drop (posL x l))) := List.perm_middle
  rwa [List.take_append_drop] at h
def le27 (x y : List Nat) : Prop := lexC x y ≤ 0
theorem insL_sorted (x : List Nat) : ∀ l : List (List Nat), x.length = 27 → (∀ y ∈ l, y.length = 27) → l.Pairwise le27 → (insL x l).Pairwise le27
  | [], _, _, _ => by simp [insL, posL]
  | y :: l, hx, hl, h => by
    rw [insL_cons]
    have hy := hl y (by simp)
    rw [List.pairwise_cons] at h
    split
    · next h0 =>
      rw [List.pairwise_cons, List.pairwise_cons]
      refine ⟨fun z hz => ?_, h⟩
      rcases List.mem_cons.1 hz with rfl | hz
      · unfold le27
        omega
      · exact lexC_trans x y z (by omega) (by rw [hy, hl z (by simp [hz])]) (by omega) (h.1 z hz)
    · next h0 =>
      rw [List.pairwise_cons]
      refine ⟨fun z hz => ?_, insL_sorted x l hx (fun z hz => hl z (by simp [hz])) h.2⟩
      rcases List.mem_cons.1 ((insL_perm x l).mem_iff.1 hz) with rfl | hz
      · have := lexC_anti z y
        unfold le27
        omega
      · exact h.1 z hz
theorem insA_perm : ∀ (xs acc : List (List Nat)), (insA acc xs).Perm (acc ++ xs)
  | [], acc => by simp [insA]
  | x :: xs, acc => by
    rw [insA]
    refine (insA_perm xs _).trans ?_
    refine ((insL_perm x acc).append_right xs).trans ?_
    exact List.perm_middle.symm
theorem insA_sorted : ∀ (xs acc : List (List Nat)), (∀ x ∈ xs, x.length = 27) → (∀ y ∈ acc, y.length = 27) → acc.Pairwise le27 → (insA acc xs).Pairwise le27
  | [], _, _, _, h => h
  | x :: xs, acc, hx, ha, h => by
    rw [insA]
    refine insA_sorted xs _ (fun y hy => hx y (by simp [hy])) (fun y hy => ?_) (insL_sorted x acc (hx x (by simp)) ha h)
    rcases List.mem_cons.1 ((insL_perm x acc).mem_iff.1 hy) with rfl | hy
    · exact hx y (by simp)
    · exact ha y hy
/-- What a merge sort makes of products is what insertion makes of them. -/
theorem merge_ins (d : List P27) : (d.mergeSort fun x y => !(ltOf cf27) y x).map (·.1) = insA [] (d.map (·.1)) := by
  have hl : ∀ x ∈ d.map (·.1), x.length = 27 := fun x hx => by
    obtain ⟨y, _, rfl⟩ := List.mem_map.1 hx
    exact y.2.1
  have p1 : ((d.mergeSort fun x y => !(ltOf cf27) y x).map (·.1)).Perm (d.map (·.1)) := (List.mergeSort_perm _ _).map _
  have p2 := insA_perm (d.map (·.1)) []
  rw [List.nil_append] at p2
  have s1 : ((d.mergeSort fun x y => !(ltOf cf27) y x).map (·.1)).Pairwise le27 := by
    rw [List.pairwise_map]
    refine (List.pairwise_mergeSort (fun a b c h1 h2 => ?_) (fun a b => ?_) d).imp (fun {a b} h => ?_)
    · rw [Bool.not_eq_true'] at *
      exact swo27.ntrans _ _ _ h2 h1
    · have := lexC_anti a.1 b.1
      simp only [lt27, Bool.or_eq_true, Bool.not_eq_true', decide_eq_false_iff_not]
      omega
    · rw [Bool.not_eq_true', lt27, decide_eq_false_iff_not] at h
      have := lexC_anti a.1 b.1
      show lexC a.1 b.1 ≤ 0
      omega
  have s2 := insA_sorted (d.map (·.1)) [] hl (by simp) List.Pairwise.nil
  refine List.Perm.eq_of_pairwise (le := le27) (fun a b ha hb h1 h2 => ?_) s1 s2 (p1.trans p2.symm)
  have la := hl a (p1.mem_iff.1 ha)
  have lb := hl b (p2.mem_iff.1 hb)
  have := lexC_anti a b
  unfold le27 at h1 h2
  exact lexC_eq a b (by omega) (by omega)
end Go.Proofs.Ytmbjpnkedepijaa
