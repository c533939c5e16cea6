/-
  A region that draws its order, by an invariant: each operation is run once, from any state in which those that it waits for have come up; no order is branched over. No function of the program is named here.
-/
import Derived.Test.YtelicajipilhjaaHeld
namespace Go.Proofs.Ytelicajipilhjaa
open Go.RowKit
section
variable {P : Program} {ops : Array Oper} {Q : Exit → Act → World → Prop} {md : Region.Mode}
def dstOf (ops : Array Oper) (i : Nat) : Option Tmp := (ops[i]?).bind (·.dst)
/-- The frame behind those operations of which 'L' tells. -/
def putAll (ops : Array Oper) (L : Nat → Bool) (vals : Nat → Value) (a : Act) : Nat → Act
  | 0 => a
  | n + 1 => if L n then (putAll ops L vals a n).put (dstOf ops n) (vals n) else putAll ops L vals a n
def upL (L : Nat → Bool) (i : Nat) : Nat → Bool := fun j => if j = i then true else L j
def upV (vals : Nat → Value) (i : Nat) (v : Value) : Nat → Value := fun j => if j = i then v else vals j
/-- No two operations write the same slot. -/
def apartB (ops : Array Oper) : Bool := (List.range ops.size).all fun j => (List.range j).all fun i => match dstOf ops i with | some d => dstOf ops j != some d | none => true
/-- Nobody waits for a later one. -/
def backB (md : Region.Mode) (ops : Array Oper) : Bool := (List.range ops.size).all fun j => match ops[j]? with | some o => o.after.all fun e => !(Region.binds md e) || decide (e.on < j) | none => true
theorem apartB_spec (h : apartB ops = true) {i j : Nat} (hij : i < j) (hj : j < ops.size) : ∀ d, dstOf ops i = some d → dstOf ops j ≠ some d := by
  intro d hd
  unfold apartB at h
  rw [List.all_eq_true] at h
  have h1 := h j (List.mem_range.2 hj)
  rw [List.all_eq_true] at h1
  have h2 := h1 i (List.mem_range.2 hij)
  rw [hd] at h2
  simpa using h2
theorem backB_spec (h : backB md ops = true) {j : Nat} {o : Oper} (ho : ops[j]? = some o) : ∀ e ∈ o.after, Region.binds md e = true → e.on < j := by
  intro e he hbd
  unfold backB at h
  rw [List.all_eq_true] at h
  have hj : j < ops.size := (Array.getElem?_eq_some_iff.1 ho).1
  have h1 := h j (List.mem_range.2 hj)
  rw [ho] at h1
  simp only [Array.all_eq_true_iff_forall_mem, decide_eq_true_eq, Bool.or_eq_true] at h1
  rcases h1 e he with h2 | h2
  · rw [hbd] at h2
    cases h2
  · exact h2
theorem putAll_congr {L L' : Nat → Bool} {vals vals' : Nat → Value} (a : Act) : ∀ n, (∀ j, j < n → L' j = L j ∧ vals' j = vals j) → putAll ops L' vals' a n = putAll ops L vals a n
  | 0, _ => rfl
  | n + 1, h => by
    have h1 := h n (by omega)
    simp only [putAll]
    rw [h1.1, h1.2, putAll_congr a n (fun j hj => h j (by omega))]
theorem putAll_up (hd : apartB ops = true) {L : Nat → Bool} {vals : Nat → Value} (a : Act) {i : Nat} (v : Value) (hi : L i = false) : ∀ n, n ≤ ops.size → i < n → putAll ops (upL L i) (upV vals i v) a n = (putAll ops L vals a n).put (dstOf ops i) v
  | 0, _, h => by omega
  | n + 1, hn, h => by
    simp only [putAll]
    by_cases e : n = i
    · subst e
      rw [putAll_congr (L := L) (vals := vals) a n (fun j hj => by simp [upL, upV, show j ≠ n by omega]), hi]
      simp [upL, upV]
    · have ih := putAll_up hd (L := L) (vals := vals) a v hi n (by omega) (by omega)
      have e1 : upL L i n = L n := by simp [upL, e]
      have e2 : upV vals i v n = vals n := by simp [upV, e]
      rw [e1, e2, ih]
      split
      · exact Act.put_comm _ _ _ (apartB_spec hd (show i < n by omega) (by omega))
      · rfl
theorem put_size (a : Act) (d : Option Tmp) (v : Value) : (a.put d v).tmps.size = a.tmps.size := by cases d <;> simp [Act.put]
theorem putAll_size {L : Nat → Bool} {vals : Nat → Value} (a : Act) : ∀ n, (putAll ops L vals a n).tmps.size = a.tmps.size
  | 0 => rfl
  | n + 1 => by
    simp only [putAll]
    split
    · rw [put_size, putAll_size a n]
    · exact putAll_size a n
theorem eval_put_same (a : Act) (t : Tmp) (v : Value) (h : t < a.tmps.size) : (a.put (some t) v).eval (.tmp t) = v := by
  simp [Act.put, Act.eval, h]
theorem eval_put_ne (a : Act) (d : Option Tmp) (t : Tmp) (v : Value) (h : d ≠ some t) : (a.put d v).eval (.tmp t) = a.eval (.tmp t) :=
  Act.eval_put fun d' hd e => h (by rw [hd]; simp only [Operand.tmp.injEq] at e; rw [e])
theorem putAll_eval (hd : apartB ops = true) {L : Nat → Bool} {vals : Nat → Value} (a : Act) {j : Nat} {t : Tmp} (hj : dstOf ops j = some t) (hL : L j = true) (ht : t < a.tmps.size) : ∀ n, n ≤ ops.size → j < n → (putAll ops L vals a n).eval (.tmp t) = vals j
  | 0, _, h => by omega
  | n + 1, hn, h => by
    simp only [putAll]
    by_cases e : n = j
    · subst e
      rw [hL, hj, if_pos rfl]
      exact eval_put_same _ _ _ (by rw [putAll_size]; exact ht)
    · have ih := putAll_eval hd (vals := vals) a hj hL ht n (by omega) (by omega)
      split
      · rw [eval_put_ne _ _ _ _ (apartB_spec hd (show j < n by omega) (by omega) t hj)]
        exact ih
      · exact ih
theorem putAll_other {L : Nat → Bool} {vals : Nat → Value} (a : Act) {t : Tmp} : ∀ n, ((List.range n).all fun j => dstOf ops j != some t) = true → (putAll ops L vals a n).eval (.tmp t) = a.eval (.tmp t)
  | 0, _ => rfl
  | n + 1, h => by
    have h' : ((List.range n).all fun j => dstOf ops j != some t) = true ∧ dstOf ops n ≠ some t := by
      rw [List.range_succ, List.all_append] at h
      simpa using h
    simp only [putAll]
    split
    · rw [eval_put_ne _ _ _ _ h'.2]
      exact putAll_other a n h'.1
    · exact putAll_other a n h'.1
/-- Whoever has come up, those that it waits for have, too. -/
def Shut' (md : Region.Mode) (ops : Array Oper) (L : Nat → Bool) : Prop := ∀ i o, ops[i]? = some o → L i = true → ∀ e ∈ o.after, Region.binds md e = true → L e.on = true
def waits (md : Region.Mode) (ops : Array Oper) (i : Nat) : List Nat := match ops[i]? with | some o => (o.after.toList.filter (Region.binds md)).map (·.on) | none => []
theorem mem_waits {i : Nat} {o : Oper} (ho : ops[i]? = some o) {j : Nat} : j ∈ waits md ops i ↔ ∃ e ∈ o.after, Region.binds md e = true ∧ e.on = j := by
  unfold waits
  rw [ho]
  simp only [List.mem_map, List.mem_filter, Array.mem_toList_iff]
  constructor
  · rintro ⟨e, ⟨h1, h2⟩, h3⟩
    exact ⟨e, h1, h2, h3⟩
  · rintro ⟨e, h1, h2, h3⟩
    exact ⟨e, ⟨h1, h2⟩, h3⟩
/-- What is to be shown of operation 'i'. -/
def StepOK (P : Program) (md : Region.Mode) (ops : Array Oper) (Q : Exit → Act → World → Prop) (a0 : Act) (I : (Nat → Bool) → (Nat → Value) → World → Prop) (i : Nat) : Prop :=
  ∀ L vals w, (∀ k, L k = true → ∀ j, j ∈ waits md ops k → L j = true) → L i = false → (∀ j, j ∈ waits md ops i → L j = true) → I L vals w →
    wpOp P ops Q i (fun a' w' => ∃ v, a' = (putAll ops L vals a0 ops.size).put (dstOf ops i) v ∧ I (upL L i) (upV vals i v) w') (putAll ops L vals a0 ops.size) w
def StepsOK (P : Program) (md : Region.Mode) (ops : Array Oper) (Q : Exit → Act → World → Prop) (a0 : Act) (I : (Nat → Bool) → (Nat → Value) → World → Prop) (n : Nat) : Prop := ∀ i, i < n → StepOK P md ops Q a0 I i
theorem StepsOK.zero {a0 : Act} {I : (Nat → Bool) → (Nat → Value) → World → Prop} : StepsOK P md ops Q a0 I 0 := fun _ h => by omega
theorem StepsOK.succ {a0 : Act} {I : (Nat → Bool) → (Nat → Value) → World → Prop} {n : Nat} (h : StepsOK P md ops Q a0 I n) (h' : StepOK P md ops Q a0 I n) : StepsOK P md ops Q a0 I (n + 1) := fun i hi => by
  by_cases e : i = n
  · subst e; exact h'
  · exact h i (by omega)
/-- An operation that stands under no guard. -/
theorem step_at {a0 : Act} {I : (Nat → Bool) → (Nat → Value) → World → Prop} (i : Nat) (oi : Oper) (hi : ops[i]? = some oi) (hg : oi.guard = none) (js : List Nat) (hw : waits md ops i = js)
    (h : ∀ L vals w, (∀ k, L k = true → ∀ j, j ∈ waits md ops k → L j = true) → L i = false → (∀ j, j ∈ js → L j = true) → I L vals w →
      Oper.wp P oi (putAll ops L vals a0 ops.size) w (fun a' w' => ∃ v, a' = (putAll ops L vals a0 ops.size).put oi.dst v ∧ I (upL L i) (upV vals i v) w') Q) : StepOK P md ops Q a0 I i := by
  subst hw
  intro L vals w hc hn hd hI
  have h1 := h L vals w hc hn hd hI
  unfold wpOp
  rw [hi]
  simp only
  rw [if_pos (by simp [Region.wanted, hg])]
  refine .inl ?_
  have e : dstOf ops i = oi.dst := by simp [dstOf, hi]
  rw [e]
  exact h1
theorem unlisted_min {listed : Array Bool} (hb : backB md ops = true) (hs : listed.size = ops.size) (h : Region.ready md ops listed = []) : ∀ n i, i < n → i < ops.size → listed.getD i false = true
  | 0, _, h, _ => by omega
  | n + 1, i, hi, hsz => by
    cases hl : listed.getD i false with
    | true => rfl
    | false =>
      exfalso
      have hm : i ∈ Region.ready md ops listed := by
        rw [mem_ready]
        refine ⟨?_, ops[i], Array.getElem?_eq_getElem hsz, fun e he hbd => ?_⟩
        · simp [show i < listed.size by omega] at hl ⊢
          exact hl
        · have hlt := backB_spec hb (Array.getElem?_eq_getElem hsz) e he hbd
          exact unlisted_min hb hs h n e.on (by omega) (by omega)
      rw [h] at hm
      cases hm
def left (listed : Array Bool) : Nat → Nat
  | 0 => 0
  | n + 1 => left listed n + if listed.getD n false then 0 else 1
theorem left_set {listed : Array Bool} {i : Nat} (hi : i < listed.size) (hn : listed.getD i false = false) : ∀ n, i < n → left (listed.setIfInBounds i true) n + 1 = left listed n
  | 0, h => by omega
  | n + 1, h => by
    by_cases e : n = i
    · subst e
      have h1 : ∀ m, m ≤ n → left (listed.setIfInBounds n true) m = left listed m := by
        intro m
        induction m with
        | zero => intro _; rfl
        | succ m ih =>
          intro hm
          simp only [left]
          rw [ih (by omega), getD_set_ne false (show n ≠ m by omega)]
      simp only [left]
      rw [h1 n (Nat.le_refl _), hn]
      simp [hi]
    · simp only [left]
      have ih := left_set hi hn n (by omega)
      rw [getD_set_ne false (Ne.symm e)]
      omega
theorem left_pos {listed : Array Bool} {i : Nat} (hn : listed.getD i false = false) : ∀ n, i < n → 0 < left listed n
  | 0, h => by omega
  | n + 1, h => by
    simp only [left]
    by_cases e : n = i
    · subst e
      rw [hn]
      simp
    · have := left_pos hn n (by omega)
      omega
theorem wpAny_inv (hd : apartB ops = true) (hb : backB md ops = true) (a0 : Act) (I : (Nat → Bool) → (Nat → Value) → World → Prop) (step : StepsOK P md ops Q a0 I ops.size)
    (done : ∀ L vals w, (∀ i, i < ops.size → L i = true) → I L vals w → Q .normal (putAll ops L vals a0 ops.size) w) :
    ∀ (fuel : Nat) (listed : Array Bool) (vals : Nat → Value) (w : World), listed.size = ops.size → left listed ops.size ≤ fuel →
      (∀ k, listed.getD k false = true → ∀ j, j ∈ waits md ops k → listed.getD j false = true) → I (fun i => listed.getD i false) vals w →
      wpAny P md ops Q fuel listed (putAll ops (fun i => listed.getD i false) vals a0 ops.size) w
  | 0, listed, vals, w, hs, hf, hc, hI => by
    have hall : ∀ i, i < ops.size → listed.getD i false = true := fun i hi => by
      cases hl : listed.getD i false with
      | true => rfl
      | false =>
        have := left_pos hl ops.size hi
        omega
    refine ⟨?_, done _ _ _ hall hI⟩
    cases hr : Region.ready md ops listed with
    | nil => rfl
    | cons i rs =>
      exfalso
      have hm : i ∈ Region.ready md ops listed := by rw [hr]; simp
      obtain ⟨h0, o, ho, _⟩ := mem_ready.1 hm
      have hi : i < ops.size := (Array.getElem?_eq_some_iff.1 ho).1
      have h1 := hall i hi
      simp [show i < listed.size by omega] at h0 h1
      rw [h0] at h1
      cases h1
  | fuel + 1, listed, vals, w, hs, hf, hc, hI => by
    refine ⟨fun hr => done _ _ _ (fun i hi => unlisted_min hb hs hr (i + 1) i (by omega) hi) hI, fun i hi => ?_⟩
    obtain ⟨h0, o, ho, hw⟩ := mem_ready.1 hi
    have hlt : i < ops.size := (Array.getElem?_eq_some_iff.1 ho).1
    have h0' : listed.getD i false = false := by
      simp [show i < listed.size by omega] at h0 ⊢
      exact h0
    have hwait : ∀ j, j ∈ waits md ops i → listed.getD j false = true := fun j hj => by
      obtain ⟨e, he, hbd, rfl⟩ := (mem_waits ho).1 hj
      exact hw e he hbd
    have eL : (fun j => (listed.setIfInBounds i true).getD j false) = upL (fun j => listed.getD j false) i := by
      funext j
      unfold upL
      by_cases e : j = i
      · subst e
        simp [show j < listed.size by omega]
      · rw [if_neg e]
        exact getD_set_ne false (Ne.symm e)
    refine wpOp_mono (fun a' w' h => ?_) (step i hlt _ vals w hc h0' hwait hI)
    obtain ⟨v, rfl, hI'⟩ := h
    rw [← putAll_up hd a0 v h0' ops.size (Nat.le_refl _) hlt, ← eL]
    refine wpAny_inv hd hb a0 I step done fuel _ _ w' (by simpa using hs) ?_ ?_ (by rw [eL]; exact hI')
    · have := left_set (listed := listed) (i := i) (by omega) h0' ops.size hlt
      omega
    · intro k hk j hj
      by_cases e : k = i
      · subst e
        exact getD_set_true (hwait j hj)
      · rw [getD_set_ne false (Ne.symm e)] at hk
        exact getD_set_true (hc k hk j hj)
theorem left_start : ∀ n m, left (Array.replicate m false) n = n
  | 0, _ => rfl
  | n + 1, m => by
    simp only [left]
    rw [left_start n m]
    by_cases h : n < m <;> simp [h]
theorem putAll_none {L : Nat → Bool} {vals : Nat → Value} (a : Act) (h : ∀ i, L i = false) : ∀ n, putAll ops L vals a n = a
  | 0 => rfl
  | n + 1 => by
    simp only [putAll, h n]
    exact putAll_none a h n
/-- The region as a whole. -/
theorem wp_region_inv {id : Nat} {a : Act} {w : World} (hm : P.follows .mixedOrders = true) (hd : apartB ops = true) (hb : backB .any ops = true) (I : (Nat → Bool) → (Nat → Value) → World → Prop)
    (start : I (fun _ => false) (fun _ => undef) w.drew) (n : Nat) (hn : ops.size = n) (step : StepsOK P .any ops Q a I n)
    (done : ∀ L vals w, (∀ i, i < n → L i = true) → I L vals w → Q .normal (putAll ops L vals a n) w) : (Code.region id ops true).wp P Q a w := by
  subst hn
  refine wp_region_any hm ?_
  have e : (fun i => (Array.replicate ops.size false).getD i false) = fun _ => false := by
    funext i
    by_cases h : i < ops.size <;> simp [h]
  have h := wpAny_inv hd hb a I step done ops.size (Array.replicate ops.size false) (fun _ => undef) w.drew (by simp) (by rw [left_start]; exact Nat.le_refl _) (by
    intro k hk
    rw [show (Array.replicate ops.size false).getD k false = false from congrFun e k] at hk
    cases hk) (by rw [e]; exact start)
  rw [e, putAll_none a (fun _ => rfl)] at h
  exact h
end
end Go.Proofs.Ytelicajipilhjaa
