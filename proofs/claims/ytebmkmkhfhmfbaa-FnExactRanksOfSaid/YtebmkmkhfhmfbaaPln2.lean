/-
  impl.shapeOfRows, isSmallMatrix, zeroMatrix; the entries of a product.
-/
import Derived.Test.YtebmkmkhfhmfbaaPln1
import Derived.Test.YtebmkmkhfhmfbaaHeld
namespace Go.Proofs.Ytebmkmkhfhmfbaa
open Go.RowKit
set_option maxRecDepth 100000
def colM (N : Nat) (row : Nat → List Int) : Int := if N = 0 then 0 else ((row 0).length : Int)
def smallB (p : Int) (N : Nat) (row : Nat → List Int) : Bool := sizeB N && sizeB (colM N row) && matB p N (colM N row) N row
set_option maxHeartbeats 800000 in
theorem shapeOfRows_c (A : Option Addr) (c N : Nat) (row : Nat → List Int) (w : World) (hr : RdM w A N row) (hN : N ≤ 1048576) (hrow : ∀ i, i < N → (row i).length ≤ 1048576) :
    Calls Try.prog 37 #[.slice A N c] w fun e w' => e = .returned (.agg #[.int .i64 N, .int .i64 (colM N row)]) ∧ Below w.heap.size w w' := by
  by_cases h0 : N = 0
  · subst h0
    go_enter Try.func37, Try.ntmps37
    go_wp2_with fail
    refine bodyPost_ret (results_at rfl _ _ w.heap.size _ _ _ rfl (al1_0 _ _) Try.underlying52 rfl 2 (by kernel_rfl) rfl) rfl ?_
    exact ⟨rfl, below1 _ _⟩
  · replace hr := hr.keep (below1 w (.cells #[.int .i64 0, .int .i64 0] 52 (0, 0)))
    obtain ⟨b, off, B, cB, rfl, hc, hI⟩ := hr.at_ (i := 0) (by omega)
    have hc' : (w.alloc (.cells #[.int .i64 0, .int .i64 0] 52 (0, 0))).cell? ⟨b, off, none⟩ = some (.slice B (row 0).length cB) := hc
    have hs : colM N row = ((row 0).length : Int) := by simp [colM, h0]
    have hz : (((N : Nat) : Int) == 0) = false := by simp; omega
    have hpos : (0 : Int) < (N : Int) := by omega
    rw [hs]
    clear hs
    go_enter Try.func37, Try.ntmps37
    go_wp2_with fail
    refine bodyPost_ret (results_at rfl _ _ w.heap.size _ _ _ rfl (al1_0 _ _) Try.underlying52 rfl 2 (by kernel_rfl) rfl) rfl ?_
    exact ⟨rfl, below1 _ _⟩
section
variable {w w' : World} {lo hi hi' g k b : Nat} {cs : Array Value} {gs : Nat → Nat} {row : Nat → List Int}
theorem MatB.pushL {L : Nat} (hL : (row k).length = L) (h : MatB w lo hi g cs gs k row) (hb : hi ≤ b) (hb' : b < hi') (hk : k < cs.size) (hnew : At w' b (.cells (iar (row k)) 2 (0, 0))) (keep : ∀ x o, x < hi → x ≠ g → At w x o → At w' x o)
    (hout : At w' g (.cells (cs.setIfInBounds k (.slice (some ⟨b, 0, none⟩) L L)) 49 (0, 0))) :
    MatB w' lo hi' g (cs.setIfInBounds k (.slice (some ⟨b, 0, none⟩) L L)) (fun x => if x = k then b else gs x) (k + 1) row := by
  subst hL
  exact h.push hb hb' hk hnew keep hout
end
set_option maxHeartbeats 800000 in
theorem zeroMatrix_c (n m : Nat) (w : World) (hn : n ≤ 1000) (hm : m ≤ 1000) :
    Calls Try.prog 24 #[.agg #[.int .i64 n, .int .i64 m]] w (NewM w n fun _ => List.replicate m 0) := by
  go_enter Try.func24, Try.ntmps24
  go_wp2_with (refine wpList_make_one rfl _ _ 26 rfl 49 (.slice none 0 0) 24 Try.underlying26 infoIS rfl n rfl rfl (by omega) (by omega) ?_; intro w1 n1)
  have hB := n1.below (below1 w _) (by rw [size_al1]; omega)
  have hA := n1.at_
  have hx := n1.old (al1_0 w _)
  rw [size_al1] at hA
  go_wp2_with fail
  go_loopw [10] (fun i wr => ∃ (k : Nat) (cs : Array Value) (gs : Nat → Nat), k ≤ n ∧ cs.size = n ∧ i = .int .i64 k ∧ Below w.heap.size w wr ∧ At wr w.heap.size (.cells #[.int .i64 n, .int .i64 m] 52 (0, 0)) ∧ MatB wr w.heap.size wr.heap.size (w.heap.size + 1) cs gs k (fun _ => List.replicate m 0)) (fun i _ => n - (intOf i).toNat)
  case atStart => exact ⟨0, _, fun _ => 0, by omega, by simp, rfl, hB, hx, hA, ⟨by omega, hA.lt⟩, by omega, by omega, by omega⟩
  case round =>
    obtain ⟨k, cs, gs, hk, hcs, rfl, hB1, hx1, hM⟩ := hrel
    clear n1 hA hB hx
    by_cases hlt : k < n
    · have e0 : IntKind.i64.wrap ((k : Int) + 1) = (k : Int) + 1 := IntWalk.i64_in _ (by omega)
      have hk' : (k : Int) < (n : Int) := by omega
      have hls := hM.out.lt
      have c1 : wr.cell? ⟨w.heap.size, 1, none⟩ = some (.int .i64 m) := hx1.at_ 1
      have hsz := hB1.size
      go_wp2_with (refine wpList_make_one rfl _ _ 49 rfl 2 (.int .i64 0) 8 Try.underlying49 infoI64 rfl m rfl rfl (by omega) (by omega) ?_; intro w2 n2; have hO := n2.old hM.out; have x0 := cells_old hO (k := k) (by omega); have z0 := hO.free k)
      have P := Put.cell (i := k) hO (.slice (some ⟨wr.heap.size, 0, none⟩) m m)
      have hA2 := n2.at_
      rw [iar_zero] at hA2
      have hlt2 := hA2.lt
      have B2 := n2.below hB1 hsz
      have M2 : MatB _ w.heap.size w2.heap.size (w.heap.size + 1) _ _ (k + 1) (fun _ => List.replicate m 0) := hM.pushL (by simp) (Nat.le_refl _) hlt2 (by omega) (P.other hA2 (by omega)) (fun x o h1 h2 h3 => P.other (n2.old h3) h2) P.at_
      have B3 := P.below B2 (by omega)
      have X3 := P.other (n2.old hx1) (by omega)
      have s3 : (w2.setCell ⟨w.heap.size + 1, k, none⟩ (.slice (some ⟨wr.heap.size, 0, none⟩) m m)).heap.size = w2.heap.size := size_setCell' _ _ _
      rw [← s3] at M2
      go_roundw
      case rel => exact ⟨k + 1, _, _, by omega, by simp [hcs], by go_num, B3, X3, M2⟩
      case measure => simp [intOf]; omega
    · obtain rfl : k = n := by omega
      go_wp2_with fail
      go_ret
      exact ⟨_, rfl, .inr ⟨_, _, cs, gs, rfl, hM⟩, hB1⟩
/-! ### The entries of a product -/
def dot (p : Int) (f : Nat → Int) : Nat → Int
  | 0 => 0
  | j + 1 => (dot p f j + f j) % p
theorem dot_in {p : Int} (f : Nat → Int) (hp : 0 < p) (j : Nat) : 0 ≤ dot p f j ∧ dot p f j < p := by
  cases j with
  | zero => exact ⟨Int.le_refl _, hp⟩
  | succ j => exact ⟨Int.emod_nonneg _ (by omega), Int.emod_lt_of_pos _ hp⟩
def plAt (p : Int) (X Y : Nat → List Int) (i l j : Nat) : Int := dot p (fun j => (X i)[j]?.getD 0 * (Y j)[l]?.getD 0) j
theorem plAt_zero (p : Int) (X Y : Nat → List Int) (i l : Nat) : plAt p X Y i l 0 = 0 := rfl
theorem plAt_step (p : Int) (X Y : Nat → List Int) (i l j : Nat) : plAt p X Y i l (j + 1) = (plAt p X Y i l j + (X i)[j]?.getD 0 * (Y j)[l]?.getD 0) % p := rfl
def mapRow (K : Nat) (F : Nat → Int) : List Int := (List.range K).map F
theorem mapRow_len (K : Nat) (F : Nat → Int) : (mapRow K F).length = K := by simp [mapRow]
theorem mapRow_get {K : Nat} (F : Nat → Int) {l : Nat} (h : l < K) : (iar (mapRow K F))[l]? = some (.int .i64 (F l)) := by
  simp [iar, i64s, mapRow, h]
theorem mapRow_congr {K : Nat} {F G : Nat → Int} (h : ∀ x, x < K → F x = G x) : mapRow K F = mapRow K G := by
  apply List.map_congr_left
  intro x hx
  exact h x (List.mem_range.1 hx)
theorem mapRow_set (K : Nat) (F : Nat → Int) (l : Nat) (v : Int) : (mapRow K F).set l v = mapRow K (fun x => if x = l then v else F x) := by
  apply List.ext_getElem?
  intro i
  simp only [mapRow, List.getElem?_set, List.length_map, List.length_range, List.getElem?_map]
  by_cases e : l = i
  · subst e
    by_cases h : l < K
    · simp [h]
    · simp [h]
  · have e' : ¬ i = l := fun h => e h.symm
    by_cases h : i < K
    · simp [h, e, e']
    · simp [h, e]
theorem mapRow_zero (K : Nat) : List.replicate K (0 : Int) = mapRow K fun _ => 0 := by
  apply List.ext_getElem?
  intro i
  by_cases h : i < K <;> simp [mapRow, h]
def plRow (p : Int) (X Y : Nat → List Int) (M K i : Nat) : List Int := mapRow K fun l => plAt p X Y i l M
end Go.Proofs.Ytebmkmkhfhmfbaa
