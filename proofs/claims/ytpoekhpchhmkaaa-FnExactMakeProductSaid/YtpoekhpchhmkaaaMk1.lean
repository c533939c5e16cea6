/-
  What a scheme makes of two matrices, as a plain function: entries, places, one product after the other.
-/
import Derived.Test.YtpoekhpchhmkaaaFormAt
namespace Go.Proofs.Ytpoekhpchhmkaaa
open Go.RowKit
set_option maxRecDepth 100000
theorem val_mod (E C a b p : Int) : (E + C * ((a % p * (b % p)) % p)) % p = (E + C * (a * b)) % p := by
  rw [← Int.mul_emod a b p, Int.add_emod E (C * (a * b % p)) p, Int.mul_emod C (a * b % p) p, Int.emod_emod, ← Int.mul_emod C (a * b) p, ← Int.add_emod]
/-- An entry behind 't' products: 'S' the products of the sums, 'C' the numbers of the third form. -/
def mkE (p : Int) (S : Nat → Int) (C : Nat → Nat → Int) (c : Nat) : Nat → Int
  | 0 => 0
  | t + 1 => (mkE p S C c t + C t c * S t) % p
theorem mkE_in {p : Int} (S : Nat → Int) (C : Nat → Nat → Int) (c : Nat) (hp : 0 < p) (t : Nat) : 0 ≤ mkE p S C c t ∧ mkE p S C c t < p := by
  cases t with
  | zero => exact ⟨Int.le_refl _, hp⟩
  | succ t => exact ⟨Int.emod_nonneg _ (by omega), Int.emod_lt_of_pos _ hp⟩
theorem place_inj {K x z i l : Nat} (hz : z < K) (hl : l < K) (h : x * K + z = i * K + l) : x = i ∧ z = l := by
  have hK : 0 < K := by omega
  have h1 : (x * K + z) / K = x := by rw [Nat.mul_comm, Nat.mul_add_div hK, Nat.div_eq_of_lt hz, Nat.add_zero]
  have h2 : (i * K + l) / K = i := by rw [Nat.mul_comm, Nat.mul_add_div hK, Nat.div_eq_of_lt hl, Nat.add_zero]
  have h3 : x = i := by rw [← h1, ← h2, h]
  subst h3
  exact ⟨rfl, by omega⟩
/-- The row 'x' where the places below 'c' have the product 't' already. -/
def matC (p : Int) (S : Nat → Int) (C : Nat → Nat → Int) (K t c x : Nat) : List Int := mapRow K fun z => mkE p S C (x * K + z) (if x * K + z < c then t + 1 else t)
theorem matC_len (p : Int) (S : Nat → Int) (C : Nat → Nat → Int) (K t c x : Nat) : (matC p S C K t c x).length = K := mapRow_len _ _
theorem matC_zero (p : Int) (S : Nat → Int) (C : Nat → Nat → Int) (K x : Nat) : matC p S C K 0 0 x = List.replicate K 0 := by
  rw [mapRow_zero]
  refine mapRow_congr fun z _ => ?_
  rw [if_neg (by omega)]
  rfl
theorem matC_get (p : Int) (S : Nat → Int) (C : Nat → Nat → Int) {K : Nat} (t i : Nat) {l : Nat} (hl : l < K) : (iar (matC p S C K t (i * K + l) i))[l]? = some (.int .i64 (mkE p S C (i * K + l) t)) := by
  unfold matC
  rw [mapRow_get _ hl, if_neg (Nat.lt_irrefl _)]
theorem matC_set (p : Int) (S : Nat → Int) (C : Nat → Nat → Int) {K : Nat} (t i : Nat) {l : Nat} (hl : l < K) : (matC p S C K t (i * K + l) i).set l (mkE p S C (i * K + l) (t + 1)) = matC p S C K t (i * K + l + 1) i := by
  unfold matC
  rw [mapRow_set]
  refine mapRow_congr fun z _ => ?_
  by_cases e : z = l
  · subst e
    rw [if_pos rfl, if_pos (by omega)]
  · rw [if_neg e]
    by_cases h : i * K + z < i * K + l
    · rw [if_pos h, if_pos (by omega)]
    · rw [if_neg h, if_neg (by omega)]
theorem matC_ne (p : Int) (S : Nat → Int) (C : Nat → Nat → Int) {K : Nat} (t i : Nat) {l : Nat} (hl : l < K) (x : Nat) (hx : x ≠ i) : matC p S C K t (i * K + l + 1) x = matC p S C K t (i * K + l) x := by
  refine mapRow_congr fun z hz => ?_
  have hne : ¬ x * K + z = i * K + l := fun h => hx (place_inj hz hl h).1
  by_cases h : x * K + z < i * K + l
  · rw [if_pos h, if_pos (by omega)]
  · rw [if_neg h, if_neg (by omega)]
theorem matC_next (p : Int) (S : Nat → Int) (C : Nat → Nat → Int) (K N t x : Nat) (hx : x < N) : matC p S C K t (N * K) x = matC p S C K (t + 1) 0 x := by
  refine mapRow_congr fun z hz => ?_
  have h : (x + 1) * K ≤ N * K := Nat.mul_le_mul_right _ hx
  rw [Nat.succ_mul] at h
  rw [if_pos (by omega), if_neg (by omega)]
theorem term_in {p E s : Int} {y : Nat} (hp : 0 < p) (hp5 : p ≤ 5) (hE : 0 ≤ E ∧ E < p) (hs : 0 ≤ s ∧ s ≤ 200000000) (hy : y < 256) : IntKind.i64.wrap ((y : Int) * s) = (y : Int) * s ∧ IntKind.i64.wrap (E + (y : Int) * s) = E + (y : Int) * s ∧ (E + (y : Int) * s).tmod p = (E + (y : Int) * s) % p := by
  have h1 : 0 ≤ (y : Int) * s := Int.mul_nonneg (by omega) hs.1
  have h2 : (y : Int) * s ≤ 256 * 200000000 := Int.mul_le_mul (by omega) hs.2 hs.1 (by omega)
  exact ⟨IntWalk.i64_in _ (by omega), IntWalk.i64_in _ (by omega), Int.tmod_eq_emod_of_nonneg (by omega)⟩
/-- What both sides keep: the scheme's box, the matrix that is made. -/
structure PM (w0 : World) (cs0 : Array Value) (t0 : TypeId) (s : Nat) (lo hi g : Nat) (cs : Array Value) (gs : Nat → Nat) (N : Nat) (row : Nat → List Int) (wr : World) : Prop where
  below : Below w0.heap.size w0 wr
  box : At wr s (.cells cs0 t0 (0, 0))
  mat : MatB wr lo hi g cs gs N row
  ne : ∀ i, i < N → s ≠ gs i ∧ w0.heap.size ≤ gs i
section
variable {w0 wr w' : World} {cs0 cs : Array Value} {t0 : TypeId} {s lo hi g N K : Nat} {gs : Nat → Nat} {row row' : Nat → List Int}
theorem PM.after (h : PM w0 cs0 t0 s lo hi g cs gs N row wr) (hb : Below wr.heap.size wr w') : PM w0 cs0 t0 s lo hi g cs gs N row w' := ⟨below_after h.below hb, h.box.after hb, h.mat.below hb, h.ne⟩
theorem PM.congr (h : PM w0 cs0 t0 s lo hi g cs gs N row wr) (he : ∀ i, i < N → row' i = row i) : PM w0 cs0 t0 s lo hi g cs gs N row' wr := ⟨h.below, h.box, h.mat.congr he, h.ne⟩
theorem PM.put (h : PM w0 cs0 t0 s lo hi g cs gs N row wr) {a : Nat} (ha : a < N) (hr : ∀ x, x ≠ a → row' x = row x) (hl : (row' a).length = (row a).length) (pp : Put wr w' (gs a) (.cells (iar (row' a)) 2 (0, 0))) :
    PM w0 cs0 t0 s lo hi g cs gs N row' w' :=
  ⟨pp.below h.below (h.ne a ha).2, pp.other h.box (h.ne a ha).1, h.mat.put ha hr hl pp.at_ (fun _ _ hx ho => pp.other ho hx), h.ne⟩
end
end Go.Proofs.Ytpoekhpchhmkaaa
