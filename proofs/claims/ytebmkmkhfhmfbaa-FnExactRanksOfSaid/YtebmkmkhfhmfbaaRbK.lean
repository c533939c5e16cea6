/-
  Maps from forms to numbers: look-ups and updates; impl.RanksOf's state: three maps from forms to ranks, and a matrix that is filled place by place. (By hand.)
-/
import Derived.Test.YtebmkmkhfhmfbaaLK1
import Derived.DeepKeys3
import Derived.ChangeMaps4
import Derived.Test.YtebmkmkhfhmfbaaRbF
import Derived.Test.YtebmkmkhfhmfbaaMat1
namespace Go.Proofs.Ytebmkmkhfhmfbaa
open Go.RowKit Go.ChangeMaps
set_option maxRecDepth 100000
theorem form_lits (d : Nat) (a0 a1 a2 a3 a4 a5 a6 a7 a8 : Nat) (h : a0 < 256 ∧ a1 < 256 ∧ a2 < 256 ∧ a3 < 256 ∧ a4 < 256 ∧ a5 < 256 ∧ a6 < 256 ∧ a7 < 256 ∧ a8 < 256) :
    ∃ ls, (Try.prog).keyLits (d + 2) 45 (u8s [a0, a1, a2, a3, a4, a5, a6, a7, a8]).toList = some ls := by
  have hw : ∀ a : Nat, a < 256 → (Lit.int .u8 (a : Int)).wf = true := fun a ha => by
    simp [Lit.wf, IntKind.min, IntKind.max, IntKind.bits, IntKind.signed]
    omega
  have hl : ∀ a : Nat, a < 256 → (Try.prog).keyLits (d + 1) 5 [.int .u8 (a : Int)] = some [.int .u8 (a : Int)] := fun a ha => by
    unfold Program.keyLits
    rw [Try.underlying5]
    simp [hw a ha]
  have c1 : (Try.prog).cellsOf 45 = 9 := by kernel_rfl
  have c2 : (Try.prog).cellsOf 5 = 1 := by kernel_rfl
  unfold Program.keyLits
  rw [Try.underlying45]
  simp only [c1, c2]
  simp [u8s, List.range_succ, hl, h.1, h.2.1, h.2.2.1, h.2.2.2.1, h.2.2.2.2.1, h.2.2.2.2.2.1, h.2.2.2.2.2.2.1, h.2.2.2.2.2.2.2.1, h.2.2.2.2.2.2.2.2]
/-- A form: nine bytes. -/
def FormOk (f : List Nat) : Prop := f.length = 9 ∧ ∀ x ∈ f, x < 256
theorem form_key {f : List Nat} (h : FormOk f) : ∃ l, keyOf Try.prog 45 (.agg (u8s f)) = some l := by
  have hT : ∃ d, (Try.prog).types.size + 1 = d + 2 := ⟨(Try.prog).types.size - 1, by have : 1 ≤ (Try.prog).types.size := Nat.le_of_ble_eq_true (by kernel_rfl); omega⟩
  obtain ⟨d, hd⟩ := hT
  have hkt : (Try.prog).keyType 45 = true := by kernel_rfl
  have hc : (Try.prog).cellsOf 45 = 9 := by kernel_rfl
  have hfm : (Value.agg (u8s f)).formed Try.prog 45 = true := by
    simp only [Value.formed]
    rw [Try.underlying45]
    simp [hc, u8s, h.1]
  match f, h with
  | [a0, a1, a2, a3, a4, a5, a6, a7, a8], h =>
    obtain ⟨ls, hls⟩ := form_lits d a0 a1 a2 a3 a4 a5 a6 a7 a8 (by have h2 := h.2; simp only [List.mem_cons, List.not_mem_nil, or_false, forall_eq_or_imp, forall_eq] at h2; exact h2)
    unfold keyOf
    rw [Try.underlying45]
    simp only [hkt, hfm, Bool.and_self, if_true, hd]
    exact ⟨_, by rw [show (Value.agg (u8s [a0, a1, a2, a3, a4, a5, a6, a7, a8])).cells = u8s [a0, a1, a2, a3, a4, a5, a6, a7, a8] from rfl, hls]; rfl⟩
theorem formLaw : WideMaps.KeyLaw Try.prog 45 := deep_law (m := 2) (by omega) (by kernel_rfl) (by kernel_rfl) (by kernel_rfl)
/-- A map from forms to numbers, each entry related. -/
def MapF (w : World) (b : Nat) (Φ : List Nat → Int → Prop) : Prop :=
  ∃ es clock, At w b (.map es clock) ∧ ∀ e ∈ es.toList, ∃ f v, FormOk f ∧ e.key = .agg (u8s f) ∧ e.val = .int .i64 v ∧ Φ f v
theorem MapF.of_empty {w : World} {b : Nat} {Φ : List Nat → Int → Prop} (h : At w b (.map #[] 0)) : MapF w b Φ := ⟨_, _, h, by simp⟩
theorem MapF.below {w w' : World} {b : Nat} {Φ : List Nat → Int → Prop} (h : MapF w b Φ) (hb : Below w.heap.size w w') : MapF w' b Φ := by
  obtain ⟨es, cl, h1, h2⟩ := h
  exact ⟨es, cl, h1.after hb, h2⟩
theorem MapF.drew {w : World} {b : Nat} {Φ : List Nat → Int → Prop} (h : MapF w b Φ) : MapF w.drew b Φ := h.below (Below.refl _ _).drew
theorem MapF.lt {w : World} {b : Nat} {Φ : List Nat → Int → Prop} (h : MapF w b Φ) : b < w.heap.size := by
  obtain ⟨es, cl, h1, h2⟩ := h
  exact h1.lt
theorem MapF.put {w w' : World} {b g : Nat} {o : Obj} {Φ : List Nat → Int → Prop} (h : MapF w b Φ) (hp : Put w w' g o) (hne : b ≠ g) : MapF w' b Φ := by
  obtain ⟨es, cl, h1, h2⟩ := h
  exact ⟨es, cl, hp.other h1 hne, h2⟩
theorem MapF.keys {Φ : List Nat → Int → Prop} {es : Array MapEntry} (h2 : ∀ e ∈ es.toList, ∃ f v, FormOk f ∧ e.key = .agg (u8s f) ∧ e.val = .int .i64 v ∧ Φ f v) : ∀ e ∈ es.toList, ∃ l, keyOf Try.prog 45 e.key = some l := fun e he => by
  obtain ⟨f, v, hf, hk, _⟩ := h2 e he
  rw [hk]
  exact form_key hf
theorem exec_lookF {o : Oper} {a : Act} {w : World} (x y : Operand) (ho : o.op = .lookup 55 x y true) {b : Nat} {Φ : List Nat → Int → Prop} (h : MapF w b Φ) (f : List Nat) (hf : FormOk f) (hx : a.eval x = .map (some b)) (hy : a.eval y = .agg (u8s f)) :
    (execOp a.eval o).run Try.prog w = .ok (.value (.tuple #[.int .i64 0, .bool false])) w ∨ ∃ v, (execOp a.eval o).run Try.prog w = .ok (.value (.tuple #[.int .i64 v, .bool true])) w ∧ Φ f v := by
  obtain ⟨es, cl, h1, h2⟩ := h
  obtain ⟨l, hkey⟩ := form_key hf
  have hz : (zeroValue 2).run Try.prog w = .ok (.int .i64 0) w := by kernel_rfl
  have ht := Try.underlying55
  have K := formLaw
  rcases K.find w hkey es.toList (MapF.keys h2) with ⟨r1, _⟩ | ⟨j, e0, r1, r2, r3⟩
  · refine .inl ?_
    unfold execOp
    simp only [ho, hx, hy]
    simp [Instr.lookup, run_underlying ht, MapKept.run_getObj_map h1, K.check w _ hkey, r1, hz, Result.andThen]
  · obtain ⟨g, v, _, hk, hv, hΦ⟩ := h2 e0 (List.mem_of_getElem? r2)
    have hg : g = f := by
      rw [hk] at r3
      exact u8s_inj (Value.agg.inj r3)
    subst hg
    refine .inr ⟨v, ?_, hΦ⟩
    unfold execOp
    simp only [ho, hx, hy]
    simp [Instr.lookup, run_underlying ht, MapKept.run_getObj_map h1, K.check w _ hkey, r1, hv, Result.andThen]
theorem put_setBlock {w : World} {b : Nat} {o o' : Obj} (h : At w b o) : Put w (setBlock w b o') b o' := by
  refine ⟨by unfold At setBlock; exact Array.getElem?_setIfInBounds_self_of_lt h.lt, fun {k o2} h' hk => ?_, fun {n} hs => ?_, fun {B w0} hb hB => ?_⟩
  · unfold At setBlock
    rw [Array.getElem?_setIfInBounds_ne (fun e => hk e.symm)]
    exact h'
  · exact Eq.trans (by simp [setBlock]) hs
  · exact hb.trans ⟨rfl, rfl, rfl, by simp [setBlock], fun k hk => by simp only [setBlock]; rw [Array.getElem?_setIfInBounds_ne (by omega)]⟩
theorem wp_mapUpF {o : Oper} {a : Act} {w : World} {K : Act → World → Prop} {Q : Exit → Act → World → Prop} (x y z : Operand) (ho : o.op = .mapUpdate 55 x y z) (hdst : o.dst = none) {b : Nat} {Φ : List Nat → Int → Prop} (h : MapF w b Φ) (f : List Nat) (v : Int) (hf : FormOk f)
    (hx : a.eval x = .map (some b)) (hy : a.eval y = .agg (u8s f)) (hz : a.eval z = .int .i64 v) (hΦ : Φ f v) (hK : ∀ es cl w', Put w w' b (.map es cl) → MapF w' b Φ → K a w') : Oper.wp Try.prog o a w K Q := by
  obtain ⟨es, cl, h1, h2⟩ := h
  obtain ⟨l, hkey⟩ := form_key hf
  have ht := Try.underlying55
  have L := formLaw
  rcases L.find w hkey es.toList (MapF.keys h2) with ⟨r1, _⟩ | ⟨j, e0, r1, r2, r3⟩
  · have hp : Put w (setBlock w b (.map (es.push ⟨.agg (u8s f), .int .i64 v, cl⟩) (cl + 1))) b _ := put_setBlock h1
    refine (show _ → _ from fun hk => ?_) (hK _ _ _ hp ⟨_, _, hp.at_, fun e he => ?_⟩)
    · unfold Oper.wp execOp
      simp only [ho, hx, hy, hz]
      simp [Instr.mapUpdate, run_underlying ht, MapKept.run_getObj_map h1, L.check w _ hkey, r1, MapKept.run_setObj_map _ h1, Result.andThen, Oper.upon, hdst, Act.put]
      exact hk
    · simp only [Array.toList_push, List.mem_append, List.mem_singleton] at he
      rcases he with he | rfl
      · exact h2 e he
      · exact ⟨f, v, hf, rfl, rfl, hΦ⟩
  · have r2' : es[j]? = some e0 := by rw [← r2]; simp
    have hp : Put w (setBlock w b (.map (es.modify j fun e => { e with key := .agg (u8s f), val := .int .i64 v }) cl)) b _ := put_setBlock h1
    refine (show _ → _ from fun hk => ?_) (hK _ _ _ hp ⟨_, _, hp.at_, fun e he => ?_⟩)
    · unfold Oper.wp execOp
      simp only [ho, hx, hy, hz]
      simp [Instr.mapUpdate, run_underlying ht, MapKept.run_getObj_map h1, L.check w _ hkey, r1, r2', r3, L.stays w hkey, MapKept.run_setObj_map _ h1, Result.andThen, Oper.upon, hdst, Act.put]
      exact hk
    · rw [List.mem_iff_getElem?] at he
      obtain ⟨i, hi⟩ := he
      rw [Array.getElem?_toList, Array.getElem?_modify] at hi
      split at hi
      · rcases h9 : es[i]? with _ | e1
        · rw [h9] at hi; cases hi
        · rw [h9] at hi
          cases hi
          exact ⟨f, v, hf, rfl, rfl, hΦ⟩
      · exact h2 e (List.mem_of_getElem? (by rw [Array.getElem?_toList]; exact hi))
/-- The rows of a matrix that is filled up to place t of row i. -/
def midR (R : Nat → List Int) (i t x : Nat) : List Int := if x < i then R x else if x = i then (R i).take t ++ List.replicate (3 - t) 0 else List.replicate 3 0
section
variable {R : Nat → List Int} {i t x : Nat}
theorem midR_start : midR R 0 0 = fun _ => List.replicate 3 0 := by
  funext x
  unfold midR
  rw [if_neg (by omega)]
  split <;> simp
theorem midR_next (h : (R i).length = 3) : midR R i 3 = midR R (i + 1) 0 := by
  funext x
  unfold midR
  by_cases h1 : x < i
  · rw [if_pos h1, if_pos (by omega)]
  · by_cases e : x = i
    · subst e
      rw [if_neg h1, if_pos rfl, if_pos (by omega), List.take_of_length_le (by omega)]
      simp
    · rw [if_neg h1, if_neg e, if_neg (by omega)]
      split <;> simp
theorem midR_ne (h : x ≠ i) : midR R i (t + 1) x = midR R i t x := by
  unfold midR
  by_cases h1 : x < i
  · rw [if_pos h1, if_pos h1]
  · rw [if_neg h1, if_neg h1, if_neg h, if_neg h]
theorem midR_len (h : ∀ x, (R x).length = 3) (ht : t ≤ 3) : (midR R i t x).length = 3 := by
  unfold midR
  split
  · exact h x
  · split
    · simp [h i]
      omega
    · simp
theorem midR_set {X : Int} (h : (R i).length = 3) (ht : t < 3) (hX : (R i)[t]? = some X) : (midR R i t i).set t X = midR R i (t + 1) i := by
  unfold midR
  rw [if_neg (by omega), if_pos rfl, if_neg (by omega), if_pos rfl]
  match hr : R i, h, t, ht, hX with
  | [a, b, c], _, 0, _, hX | [a, b, c], _, 1, _, hX | [a, b, c], _, 2, _, hX =>
    simp at hX
    subst hX
    rfl
theorem midR_end {N : Nat} (h : x < N) : midR R N 0 x = R x := by
  unfold midR
  rw [if_pos h]
end
theorem iar_setI {l : List Int} {t : Nat} {X : Int} : (iar l).setIfInBounds t (.int .i64 X) = iar (l.set t X) := by
  apply Array.ext'
  simp [iar, i64s, List.map_set]
/-- The three maps and the matrix. -/
structure RaB (w : World) (lo hi m0 m1 m2 : Nat) (Φ : Nat → List Nat → Int → Prop) (g : Nat) (cs : Array Value) (gs : Nat → Nat) (N : Nat) (row : Nat → List Int) : Prop where
  top : hi ≤ w.heap.size
  k0 : MapF w m0 (Φ 0)
  k1 : MapF w m1 (Φ 1)
  k2 : MapF w m2 (Φ 2)
  lt : m0 < m1 ∧ m1 < m2 ∧ m2 < lo
  mat : MatB w lo hi g cs gs N row
def RaS (w : World) (lo hi m0 m1 m2 : Nat) (Φ : Nat → List Nat → Int → Prop) (g : Nat) (cs : Array Value) (gs : Nat → Nat) (N : Nat) (row : Nat → List Int) : Prop := RaB w lo hi m0 m1 m2 Φ g cs gs N row
section
variable {w w' : World} {lo hi m0 m1 m2 g N : Nat} {Φ : Nat → List Nat → Int → Prop} {cs : Array Value} {gs : Nat → Nat} {row : Nat → List Int}
theorem RaS.out (h : RaS w lo hi m0 m1 m2 Φ g cs gs N row) : RaB w lo hi m0 m1 m2 Φ g cs gs N row := h
theorem RaS.below (h : RaS w lo hi m0 m1 m2 Φ g cs gs N row) (hb : Below w.heap.size w w') : RaS w' lo hi m0 m1 m2 Φ g cs gs N row :=
  ⟨Nat.le_trans h.out.top hb.size, h.out.k0.below hb, h.out.k1.below hb, h.out.k2.below hb, h.out.lt, h.out.mat.below hb⟩
theorem RaS.drew (h : RaS w lo hi m0 m1 m2 Φ g cs gs N row) : RaS w.drew lo hi m0 m1 m2 Φ g cs gs N row := h.below (Below.refl _ _).drew
theorem RaS.away_new (h : RaS w lo hi m0 m1 m2 Φ g cs gs N row) : hi ≤ w.heap.size := h.out.top
theorem RaS.lohi (h : RaS w lo hi m0 m1 m2 Φ g cs gs N row) : lo < hi := by
  have := h.out.mat.og
  omega
theorem RaS.put {b : Nat} {o : Obj} (h : RaS w lo hi m0 m1 m2 Φ g cs gs N row) (hp : Put w w' b o) (hb : hi ≤ b) : RaS w' lo hi m0 m1 m2 Φ g cs gs N row := by
  have h1 := h.out.lt
  have h2 := h.lohi
  exact ⟨Nat.le_trans h.out.top (Nat.le_of_eq (hp.size (n := w.heap.size) rfl).symm), h.out.k0.put hp (by omega), h.out.k1.put hp (by omega), h.out.k2.put hp (by omega), h1, h.out.mat.keepR fun x _ _ hx2 hx => hp.other hx (by omega)⟩
/-- The map in place t. -/
def mapAt (m0 m1 m2 t : Nat) : Nat := if t = 0 then m0 else if t = 1 then m1 else m2
theorem RaS.at_ {t : Nat} (h : RaS w lo hi m0 m1 m2 Φ g cs gs N row) (ht : t < 3) : MapF w (mapAt m0 m1 m2 t) (Φ t) := by
  match t, ht with
  | 0, _ => exact h.out.k0
  | 1, _ => exact h.out.k1
  | 2, _ => exact h.out.k2
theorem RaS.upd {t : Nat} {o : Obj} (h : RaS w lo hi m0 m1 m2 Φ g cs gs N row) (ht : t < 3) (hp : Put w w' (mapAt m0 m1 m2 t) o) (hm : MapF w' (mapAt m0 m1 m2 t) (Φ t)) : RaS w' lo hi m0 m1 m2 Φ g cs gs N row := by
  have h1 := h.out.lt
  have hs := Nat.le_trans h.out.top (Nat.le_of_eq (hp.size (n := w.heap.size) rfl).symm)
  match t, ht with
  | 0, _ => exact ⟨hs, hm, h.out.k1.put hp (show m1 ≠ m0 by omega), h.out.k2.put hp (show m2 ≠ m0 by omega), h1, h.out.mat.keepR fun x _ hx1 _ hx => hp.other hx (show x ≠ m0 by omega)⟩
  | 1, _ => exact ⟨hs, h.out.k0.put hp (show m0 ≠ m1 by omega), hm, h.out.k2.put hp (show m2 ≠ m1 by omega), h1, h.out.mat.keepR fun x _ hx1 _ hx => hp.other hx (show x ≠ m1 by omega)⟩
  | 2, _ => exact ⟨hs, h.out.k0.put hp (show m0 ≠ m2 by omega), h.out.k1.put hp (show m1 ≠ m2 by omega), hm, h1, h.out.mat.keepR fun x _ hx1 _ hx => hp.other hx (show x ≠ m2 by omega)⟩
theorem RaS.fill {R : Nat → List Int} {i t : Nat} {X : Int} (h : RaS w lo hi m0 m1 m2 Φ g cs gs N (midR R i t)) (hR : ∀ x, (R x).length = 3) (hi' : i < N) (ht : t < 3) (hX : (R i)[t]? = some X)
    (hp : Put w w' (gs i) (.cells ((iar (midR R i t i)).setIfInBounds t (.int .i64 X)) 2 (0, 0))) : RaS w' lo hi m0 m1 m2 Φ g cs gs N (midR R i (t + 1)) := by
  have h1 := h.out.lt
  have h2 := (h.out.mat.row i hi').2
  have h3 := hp.at_
  rw [iar_setI, midR_set (hR i) ht hX] at h3
  exact ⟨Nat.le_trans h.out.top (Nat.le_of_eq (hp.size (n := w.heap.size) rfl).symm), h.out.k0.put hp (by omega), h.out.k1.put hp (by omega), h.out.k2.put hp (by omega), h1,
    h.out.mat.put hi' (fun x hx => midR_ne hx) (by rw [midR_len hR (by omega), midR_len hR (by omega)]) h3 fun x _ hx hA => hp.other hA hx⟩
theorem RaS.congr {row' : Nat → List Int} (h : RaS w lo hi m0 m1 m2 Φ g cs gs N row) (he : row = row') : RaS w lo hi m0 m1 m2 Φ g cs gs N row' := he ▸ h
end
theorem exec_mkmap {o : Oper} {a : Act} {w : World} (ho : o.op = .makeMap 55 none) : (execOp a.eval o).run Try.prog w = .ok (.value (.map (some w.heap.size))) (w.alloc (.map #[] 0)) := by
  unfold execOp
  rw [ho]
  kernel_rfl
theorem exec_maps3 {o : Oper} {a : Act} {w : World} (x y z : Operand) (ho : o.op = .build 56 #[(0, x), (1, y), (2, z)]) (n m k : Nat) (hx : a.eval x = .map (some n)) (hy : a.eval y = .map (some m)) (hz : a.eval z = .map (some k)) :
    (execOp a.eval o).run Try.prog w = .ok (.value (.agg #[.map (some n), .map (some m), .map (some k)])) w := by
  have hb : Try.prog.built 56 [(0, .map (some n)), (1, .map (some m)), (2, .map (some k))] = some #[.map (some n), .map (some m), .map (some k)] := by kernel_rfl
  unfold execOp
  have := run_build (P := Try.prog) w 56 #[(0, .map (some n)), (1, .map (some m)), (2, .map (some k))] _ hb
  simp [ho, hx, hy, hz, this]
/-- Of a map in memory, what its entries are. -/
def MapQ (w : World) (b : Nat) (Q : Array MapEntry → Prop) : Prop := ∃ es cl, At w b (.map es cl) ∧ Q es
section
variable {w w' : World} {b g : Nat} {Q : Array MapEntry → Prop}
theorem MapQ.below (h : MapQ w b Q) (hb : Below w.heap.size w w') : MapQ w' b Q := by
  obtain ⟨es, cl, h1, h2⟩ := h
  exact ⟨es, cl, h1.after hb, h2⟩
theorem MapQ.drew (h : MapQ w b Q) : MapQ w.drew b Q := h.below (Below.refl _ _).drew
theorem MapQ.away_new (h : MapQ w b Q) : b < w.heap.size := by
  obtain ⟨es, cl, h1, h2⟩ := h
  exact h1.lt
theorem MapQ.put {o : Obj} (h : MapQ w b Q) (hp : Put w w' g o) (hg : b < g) : MapQ w' b Q := by
  obtain ⟨es, cl, h1, h2⟩ := h
  exact ⟨es, cl, hp.other h1 (by omega), h2⟩
end
def HasK (f : List Nat) (es : Array MapEntry) : Prop := ∃ e ∈ es.toList, e.key = .agg (u8s f)
theorem MapF.split {w : World} {b : Nat} {Φ : List Nat → Int → Prop} (h : MapF w b Φ) (f : List Nat) : MapQ w b (HasK f) ∨ MapQ w b (fun es => ¬ HasK f es) := by
  obtain ⟨es, cl, h1, _⟩ := h
  by_cases hk : HasK f es
  · exact .inl ⟨es, cl, h1, hk⟩
  · exact .inr ⟨es, cl, h1, hk⟩
theorem exec_look {o : Oper} {a : Act} {w : World} (x y : Operand) (ho : o.op = .lookup 55 x y true) {b : Nat} {Φ : List Nat → Int → Prop} (h : MapF w b Φ) (f : List Nat) (hf : FormOk f) (V : Int) (hV : ∀ v, Φ f v → v = V)
    (hx : a.eval x = .map (some b)) (hy : a.eval y = .agg (u8s f)) : (MapQ w b (HasK f) → (execOp a.eval o).run Try.prog w = .ok (.value (.tuple #[.int .i64 V, .bool true])) w) ∧ (MapQ w b (fun es => ¬ HasK f es) → (execOp a.eval o).run Try.prog w = .ok (.value (.tuple #[.int .i64 0, .bool false])) w) := by
  obtain ⟨es, cl, h1, h2⟩ := h
  obtain ⟨l, hkey⟩ := form_key hf
  have hz : (zeroValue 2).run Try.prog w = .ok (.int .i64 0) w := by kernel_rfl
  have ht := Try.underlying55
  have K := formLaw
  have hes : ∀ {Q : Array MapEntry → Prop}, MapQ w b Q → Q es := fun {Q} hq => by
    obtain ⟨es', cl', h1', hq⟩ := hq
    have h9 := h1.symm.trans h1'
    simp only [Option.some.injEq, Obj.map.injEq] at h9
    rw [h9.1]
    exact hq
  rcases K.find w hkey es.toList (MapF.keys h2) with ⟨r1, r0⟩ | ⟨j, e0, r1, r2, r3⟩
  · refine ⟨fun hq => ?_, fun _ => ?_⟩
    · obtain ⟨e, he, hk⟩ := hes hq
      exact absurd hk (r0 e he)
    · unfold execOp
      simp only [ho, hx, hy]
      simp [Instr.lookup, run_underlying ht, MapKept.run_getObj_map h1, K.check w _ hkey, r1, hz, Result.andThen]
  · refine ⟨fun _ => ?_, fun hq => absurd ⟨e0, List.mem_of_getElem? r2, r3⟩ (hes hq)⟩
    obtain ⟨g, v, _, hk, hv, hΦ⟩ := h2 e0 (List.mem_of_getElem? r2)
    have hg : g = f := by
      rw [hk] at r3
      exact u8s_inj (Value.agg.inj r3)
    subst hg
    rw [hV v hΦ] at hv
    unfold execOp
    simp only [ho, hx, hy]
    simp [Instr.lookup, run_underlying ht, MapKept.run_getObj_map h1, K.check w _ hkey, r1, hv, Result.andThen]
/-- What RanksOf's maps hold. -/
def raF (p : Int) (n m k t : Nat) (f : List Nat) (v : Int) : Prop := v = ((if t = 0 then frank p n m f else if t = 1 then frank p m k f else frank p n k f : Nat) : Int)
end Go.Proofs.Ytebmkmkhfhmfbaa
