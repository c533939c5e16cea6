/-
  As RK: a region that draws its order, of loads, allocations and makes, and of stores of what the region itself has made. No function of the program is named here.
  impl.simpleFactors' first number other than 0: slices.IndexFunc.
-/
import Derived.Test.YtcfgpjkdonidgaaRK
import Derived.Test.YtcfgpjkdonidgaaTen5
namespace Go.Proofs.Ytcfgpjkdonidgaa
open Go.RowKit
section
variable {P : Program} {ops : Array Oper} {Q : Exit → Act → World → Prop} {md : Region.Mode}
/-- An allocation of the region: the operation that stores into the block (a number beyond all, if none does), the block before, the operation whose value is stored, the block behind it, the value that it yields for a block's number. -/
structure AL where
  s : Nat
  z : Obj
  j : Nat
  f : Value → Obj
  m : Nat → Value
/-- What is known behind the operations of which 'L' tells: 'val' has the values of those that yield the same in each order, 'al' the allocations. -/
structure RI2 (B : World → Prop) (lo : Nat) (val : Nat → Option Value) (al : Nat → Option AL) (L : Nat → Bool) (vals : Nat → Value) (w : World) : Prop where
  base : B w
  far : ∀ i, 500 ≤ i → L i = false
  val_ : ∀ i v, L i = true → val i = some v → vals i = v
  blk : ∀ i a, L i = true → al i = some a → ∃ b, vals i = a.m b ∧ lo ≤ b ∧ At w b (if L a.s then a.f (vals a.j) else a.z)
  dep : ∀ i a, L i = true → al i = some a → L a.s = true → L a.j = true
  dis : ∀ i i' a a' b b', i ≠ i' → L i = true → L i' = true → al i = some a → al i' = some a' → vals i = a.m b → vals i' = a'.m b' → b ≠ b'
/-- The values of allocations tell their blocks. -/
def InjA (al : Nat → Option AL) : Prop := ∀ i a, al i = some a → ∀ b b', a.m b = a.m b' → b = b'
variable {B : World → Prop} {lo : Nat} {val : Nat → Option Value} {al : Nat → Option AL} {L : Nat → Bool} {vals : Nat → Value} {w w' : World}
theorem upL2_ne {i j : Nat} (h : j ≠ i) : upL L i j = L j := by simp [upL, h]
theorem upV2_ne {i j : Nat} {v : Value} (h : j ≠ i) : upV vals i v j = vals j := by simp [upV, h]
theorem upL2_same {i : Nat} : upL L i i = true := by simp [upL]
theorem upV2_same {i : Nat} {v : Value} : upV vals i v i = v := by simp [upV]
def notStore2 (al : Nat → Option AL) (i : Nat) : Prop := ∀ j a, al j = some a → a.s ≠ i
/-- Behind an operation that yields 'v' and lays at most more memory. -/
theorem RI2.more (hB : BC B lo) (h : RI2 B lo val al L vals w) {i : Nat} {v : Value} (h5 : i < 500) (hn : L i = false) (hv : ∀ u, val i = some u → u = v) (ha : al i = none) (hs : notStore2 al i) (hb : Below w.heap.size w w') : RI2 B lo val al (upL L i) (upV vals i v) w' where
  base := hB.below h.base hb
  far j hj := by rw [upL2_ne (by omega)]; exact h.far j hj
  val_ j u hL hj := by
    by_cases e : j = i
    · subst e; rw [upV2_same]; exact (hv u hj).symm
    · rw [upL2_ne e] at hL; rw [upV2_ne e]; exact h.val_ j u hL hj
  blk j a hL hj := by
    have e : j ≠ i := fun e => by rw [e, ha] at hj; cases hj
    rw [upL2_ne e] at hL
    obtain ⟨b, e1, e2, e3⟩ := h.blk j a hL hj
    refine ⟨b, by rw [upV2_ne e]; exact e1, e2, ?_⟩
    rw [upL2_ne (hs j a hj)]
    cases hs' : L a.s with
    | true =>
      have hj' := h.dep j a hL hj hs'
      have ne : a.j ≠ i := fun e => by rw [e, hn] at hj'; cases hj'
      rw [hs'] at e3
      rw [upV2_ne ne]
      exact e3.after hb
    | false =>
      rw [hs'] at e3
      exact e3.after hb
  dep j a hL hj hs' := by
    have e : j ≠ i := fun e => by rw [e, ha] at hj; cases hj
    rw [upL2_ne e] at hL
    rw [upL2_ne (hs j a hj)] at hs'
    have h1 := h.dep j a hL hj hs'
    by_cases e9 : a.j = i
    · rw [e9]; exact upL2_same
    · rw [upL2_ne e9]; exact h1
  dis j k a a' b b' hne hj hk aj ak ej ek := by
    have e : j ≠ i := fun e => by rw [e, ha] at aj; cases aj
    have e' : k ≠ i := fun e => by rw [e, ha] at ak; cases ak
    rw [upL2_ne e] at hj; rw [upL2_ne e'] at hk
    rw [upV2_ne e] at ej; rw [upV2_ne e'] at ek
    exact h.dis j k a a' b b' hne hj hk aj ak ej ek
/-- Behind an allocation. -/
theorem RI2.alloc (hB : BC B lo) (hI : InjA al) (h : RI2 B lo val al L vals w) {i : Nat} {a : AL} (h5 : i < 500) (hn : L i = false) (hns : L a.s = false) (hv : val i = none) (ha : al i = some a) (hsi : a.s ≠ i) (hs : notStore2 al i) (hN : New w w' a.z) : RI2 B lo val al (upL L i) (upV vals i (a.m w.heap.size)) w' where
  base := hB.below h.base (hN.below (Below.refl _ _) (Nat.le_refl _))
  far j hj := by rw [upL2_ne (by omega)]; exact h.far j hj
  val_ j u hL hj := by
    have e : j ≠ i := fun e => by rw [e, hv] at hj; cases hj
    rw [upL2_ne e] at hL; rw [upV2_ne e]; exact h.val_ j u hL hj
  blk j a' hL hj := by
    by_cases e : j = i
    · subst e
      rw [ha] at hj
      cases hj
      refine ⟨w.heap.size, by rw [upV2_same], hB.size h.base, ?_⟩
      rw [upL2_ne hsi, hns]
      exact hN.at_
    · rw [upL2_ne e] at hL
      obtain ⟨b, e1, e2, e3⟩ := h.blk j a' hL hj
      refine ⟨b, by rw [upV2_ne e]; exact e1, e2, ?_⟩
      rw [upL2_ne (hs j a' hj)]
      cases hs' : L a'.s with
      | true =>
        have hj' := h.dep j a' hL hj hs'
        have ne : a'.j ≠ i := fun e => by rw [e, hn] at hj'; cases hj'
        rw [hs'] at e3
        rw [upV2_ne ne]
        exact hN.old e3
      | false =>
        rw [hs'] at e3
        exact hN.old e3
  dep j a' hL hj hs' := by
    rw [upL2_ne (hs j a' hj)] at hs'
    by_cases e : j = i
    · subst e
      rw [ha] at hj
      cases hj
      rw [hns] at hs'
      cases hs'
    · rw [upL2_ne e] at hL
      have h1 := h.dep j a' hL hj hs'
      by_cases e9 : a'.j = i
      · rw [e9]; exact upL2_same
      · rw [upL2_ne e9]; exact h1
  dis j k a1 a2 b b' hne hj hk aj ak ej ek := by
    have key : ∀ k a2 b', k ≠ i → L k = true → al k = some a2 → vals k = a2.m b' → b' < w.heap.size := fun k a2 b' _ hk ak hc => by
      obtain ⟨b0, e1, _, e3⟩ := h.blk k a2 hk ak
      have := hI k a2 ak b0 b' (e1.symm.trans hc)
      have := e3.lt
      omega
    by_cases e : j = i
    · have e' : k ≠ i := fun e' => hne (e.trans e'.symm)
      subst e
      rw [ha] at aj
      cases aj
      rw [upL2_ne e'] at hk
      rw [upV2_same] at ej
      rw [upV2_ne e'] at ek
      have := hI j a ha _ _ ej
      have := key k a2 b' e' hk ak ek
      omega
    · rw [upL2_ne e] at hj
      rw [upV2_ne e] at ej
      by_cases e' : k = i
      · subst e'
        rw [ha] at ak
        cases ak
        rw [upV2_same] at ek
        have := hI k a ha _ _ ek
        have := key j a1 b e hj aj ej
        omega
      · rw [upL2_ne e'] at hk
        rw [upV2_ne e'] at ek
        exact h.dis j k a1 a2 b b' hne hj hk aj ak ej ek
/-- Behind the store into what an allocation of the region has laid. -/
theorem RI2.put (hB : BC B lo) (h : RI2 B lo val al L vals w) {i b : Nat} {a : AL} {v : Value} (h5 : a.s < 500) (hi : L i = true) (hns : L a.s = false) (ha : al i = some a) (hb : vals i = a.m b) (hlo : lo ≤ b) (hv : val a.s = none) (has : al a.s = none) (hdep : L a.j = true)
    (huniq : ∀ j a', al j = some a' → a'.s = a.s → j = i) (hP : Put w w' b (a.f (vals a.j))) : RI2 B lo val al (upL L a.s) (upV vals a.s v) w' where
  base := hB.put h.base hlo hP
  far j hj := by rw [upL2_ne (by omega)]; exact h.far j hj
  val_ j u hL hj := by
    have e : j ≠ a.s := fun e => by rw [e, hv] at hj; cases hj
    rw [upL2_ne e] at hL; rw [upV2_ne e]; exact h.val_ j u hL hj
  blk j a' hL hj := by
    have e : j ≠ a.s := fun e => by rw [e, has] at hj; cases hj
    rw [upL2_ne e] at hL
    by_cases ej : j = i
    · subst ej
      rw [ha] at hj
      cases hj
      have ne : a.j ≠ a.s := fun e9 => by rw [e9, hns] at hdep; cases hdep
      exact ⟨b, by rw [upV2_ne e]; exact hb, hlo, by rw [upL2_same, upV2_ne ne]; exact hP.at_⟩
    · obtain ⟨b', e1, e2, e3⟩ := h.blk j a' hL hj
      have hne : b' ≠ b := h.dis j i a' a b' b ej hL hi hj ha e1 hb
      have es : a'.s ≠ a.s := fun es => ej (huniq j a' hj es)
      refine ⟨b', by rw [upV2_ne e]; exact e1, e2, ?_⟩
      rw [upL2_ne es]
      cases hs' : L a'.s with
      | true =>
        have hj' := h.dep j a' hL hj hs'
        have ne : a'.j ≠ a.s := fun e9 => by rw [e9, hns] at hj'; cases hj'
        rw [hs'] at e3
        rw [upV2_ne ne]
        exact hP.other e3 hne
      | false =>
        rw [hs'] at e3
        exact hP.other e3 hne
  dep j a' hL hj hs' := by
    have e : j ≠ a.s := fun e => by rw [e, has] at hj; cases hj
    rw [upL2_ne e] at hL
    by_cases ej : j = i
    · subst ej
      rw [ha] at hj
      cases hj
      have ne : a.j ≠ a.s := fun e9 => by rw [e9, hns] at hdep; cases hdep
      rw [upL2_ne ne]
      exact hdep
    · have es : a'.s ≠ a.s := fun es => ej (huniq j a' hj es)
      rw [upL2_ne es] at hs'
      have h1 := h.dep j a' hL hj hs'
      by_cases e9 : a'.j = a.s
      · rw [e9]; exact upL2_same
      · rw [upL2_ne e9]; exact h1
  dis j k a1 a2 b1 b2 hne hj hk aj ak ej ek := by
    have e : j ≠ a.s := fun e => by rw [e, has] at aj; cases aj
    have e' : k ≠ a.s := fun e => by rw [e, has] at ak; cases ak
    rw [upL2_ne e] at hj; rw [upL2_ne e'] at hk
    rw [upV2_ne e] at ej; rw [upV2_ne e'] at ek
    exact h.dis j k a1 a2 b1 b2 hne hj hk aj ak ej ek
theorem RI2.start (h : B w) : RI2 B lo val al (fun _ => false) (fun _ => undef) w where
  base := h
  far _ _ := rfl
  val_ _ _ h := by cases h
  blk _ _ h := by cases h
  dep _ _ h := by cases h
  dis _ _ _ _ _ _ _ h := by cases h
variable {a0 : Act}
/-- An operation that yields 'v' wherever the condition holds. -/
theorem step_pure2 (hB : BC B lo) (i : Nat) (h5 : i < 500) (oi : Oper) (hi : ops[i]? = some oi) (hg : oi.guard = none) (js : List Nat) (hw : waits md ops i = js) (v : Value) (hv : val i = some v) (ha : al i = none) (hs : notStore2 al i)
    (h : ∀ L vals w, (∀ j, j ∈ js → L j = true) → RI2 B lo val al L vals w → (execOp (putAll ops L vals a0 ops.size).eval oi).run P w = .ok (.value v) w) : StepOK P md ops Q a0 (RI2 B lo val al) i :=
  step_at i oi hi hg js hw fun L vals w _ hn hd' hI => by
    unfold Oper.wp
    rw [h L vals w hd' hI]
    exact ⟨v, rfl, hI.more hB h5 hn (fun u hu => by rw [hv] at hu; cases hu; rfl) ha hs (Below.refl _ _)⟩
theorem step_alloc2 (hB : BC B lo) (hJ : InjA al) (i : Nat) (h5 : i < 500) (oi : Oper) (hi : ops[i]? = some oi) (hg : oi.guard = none) (js : List Nat) (hw : waits md ops i = js) (a : AL) (hv : val i = none) (ha : al i = some a) (hsi : a.s ≠ i) (hsw : (waits md ops a.s).contains i = true ∨ 500 ≤ a.s) (hs : notStore2 al i)
    (h : ∀ L vals w (K : Act → World → Prop), (∀ j, j ∈ js → L j = true) → RI2 B lo val al L vals w → (∀ w', New w w' a.z → K ((putAll ops L vals a0 ops.size).put oi.dst (a.m w.heap.size)) w') → Oper.wp P oi (putAll ops L vals a0 ops.size) w K Q) : StepOK P md ops Q a0 (RI2 B lo val al) i :=
  step_at i oi hi hg js hw fun L vals w hc hn hd' hI => by
    have hns : L a.s = false := by
      rcases hsw with hsw | hsw
      · cases hL : L a.s with
        | false => rfl
        | true =>
          have := hc a.s hL i (by simpa using hsw)
          rw [hn] at this
          cases this
      · exact hI.far _ hsw
    exact h L vals w _ hd' hI fun w' hN => ⟨_, rfl, hI.alloc hB hJ h5 hn hns hv ha hsi hs hN⟩
theorem step_store2 (hB : BC B lo) (s : Nat) (h5 : s < 500) (os : Oper) (hi : ops[s]? = some os) (hg : os.guard = none) (js : List Nat) (hw : waits md ops s = js) (hd0 : os.dst = none) (i : Nat) (hij : i ∈ js) (a : AL) (has' : a.s = s) (hjj : a.j ∈ js) (hv : val s = none) (ha : al i = some a) (has : al s = none)
    (huniq : ∀ j a', al j = some a' → a'.s = s → j = i)
    (h : ∀ L vals w b (K : Act → World → Prop), (∀ j, j ∈ js → L j = true) → RI2 B lo val al L vals w → vals i = a.m b → At w b a.z → (∀ w', Put w w' b (a.f (vals a.j)) → K (putAll ops L vals a0 ops.size) w') → Oper.wp P os (putAll ops L vals a0 ops.size) w K Q) : StepOK P md ops Q a0 (RI2 B lo val al) s :=
  step_at s os hi hg js hw fun L vals w _ hn hd' hI => by
    subst has'
    obtain ⟨b, e1, e2, e3⟩ := hI.blk i a (hd' i hij) ha
    rw [hn] at e3
    refine h L vals w b _ hd' hI e1 e3 fun w' hP => ⟨undef, ?_, hI.put hB h5 (hd' i hij) hn ha e1 e2 hv has (hd' a.j hjj) huniq hP⟩
    rw [hd0]
    rfl
/-- The slot of an operation that has come up. -/
theorem RI2.slot (h : RI2 B lo val al L vals w) (hd : apartB ops = true) {j : Nat} {t : Tmp} (hj : dstOf ops j = some t) (hL : L j = true) (ht : t < a0.tmps.size) (hsz : j < ops.size) {v : Value} (hv : val j = some v) : (putAll ops L vals a0 ops.size).eval (.tmp t) = v := by
  rw [putAll_eval hd a0 hj hL ht ops.size (Nat.le_refl _) hsz]
  exact h.val_ j v hL hv
end
def alOf2 (l : List (Nat × AL)) (i : Nat) : Option AL := (l.find? fun x => x.1 == i).map (·.2)
theorem alOf2_mem {l : List (Nat × AL)} {i : Nat} {a : AL} (h : alOf2 l i = some a) : (i, a) ∈ l := by
  unfold alOf2 at h
  rw [Option.map_eq_some_iff] at h
  obtain ⟨x, hx, e⟩ := h
  have h1 := List.find?_some hx
  have h2 := List.mem_of_find?_eq_some hx
  simp only [beq_iff_eq] at h1
  obtain ⟨a, b⟩ := x
  simp only at h1 e
  subst h1 e
  exact h2
theorem notStore2_of {l : List (Nat × AL)} {i : Nat} (h : (l.all fun x => x.2.s != i) = true) : notStore2 (alOf2 l) i := fun j a hj e => by
  have h1 := (List.all_eq_true.1 h) _ (alOf2_mem hj)
  simp [e] at h1
theorem uniq2_of {l : List (Nat × AL)} {i s : Nat} (h : (l.all fun x => x.2.s != s || x.1 == i) = true) : ∀ j a', alOf2 l j = some a' → a'.s = s → j = i := fun j a' hj e => by
  have h1 := (List.all_eq_true.1 h) _ (alOf2_mem hj)
  simpa [e] using h1
theorem bc_below (w0 : World) : BC (fun W => Below w0.heap.size w0 W) w0.heap.size where
  below h b := below_after h b
  put h hg hP := hP.below h hg
  size h := h.size
theorem inj_ptr {b b' : Nat} (h : Value.pointer (some ⟨b, 0, none⟩) = .pointer (some ⟨b', 0, none⟩)) : b = b' := by simpa using h
theorem inj_slice {b b' n c : Nat} (h : Value.slice (some ⟨b, 0, none⟩) n c = .slice (some ⟨b', 0, none⟩) n c) : b = b' := by simpa using h
end Go.Proofs.Ytcfgpjkdonidgaa
namespace Go.Proofs.Ytcfgpjkdonidgaa
open Go.RowKit
set_option maxRecDepth 100000
/-- The first number other than 0 stands at t. -/
def nzP (xs : List Int) (t : Nat) : Prop := t < xs.length ∧ xs[t]?.getD 0 ≠ 0 ∧ ∀ y, y < t → xs[y]?.getD 0 = 0
def nzN (xs : List Int) : Prop := ∀ y, y < xs.length → xs[y]?.getD 0 = 0
theorem nz_cases (xs : List Int) : nzN xs ∨ ∃ t, nzP xs t := by
  by_cases h : nzN xs
  · exact .inl h
  · right
    have h1 : ∃ y, y < xs.length ∧ xs[y]?.getD 0 ≠ 0 := by
      by_cases h2 : ∃ y, y < xs.length ∧ xs[y]?.getD 0 ≠ 0
      · exact h2
      · exact absurd (fun y hy => by
          by_cases h3 : xs[y]?.getD 0 = 0
          · exact h3
          · exact absurd ⟨y, hy, h3⟩ h2) h
    obtain ⟨y, hy⟩ := h1
    induction y using Nat.strongRecOn with
    | ind y ih =>
      by_cases h2 : ∃ z, z < y ∧ xs[z]?.getD 0 ≠ 0
      · obtain ⟨z, hz, hz2⟩ := h2
        exact ih z hz ⟨by omega, hz2⟩
      · refine ⟨y, hy.1, hy.2, fun z hz => ?_⟩
        by_cases h3 : xs[z]?.getD 0 = 0
        · exact h3
        · exact absurd ⟨z, hz, h3⟩ h2
theorem sf1_c (x : Int) (b : Bool) (hb : (x != 0) = b) (w : World) :
    Calls Try.prog 35 #[.int .i64 x] w fun e w' => e = .returned (.bool b) ∧ w = w' := by
  have Hb := Lib.hid hb
  clear hb
  go_enter Try.func35, Try.ntmps35
  go_upto_region 0 with (fail)
  refine wp_region_lit ?_
  refine ls_ex (some 2) (.bool false) rfl rfl (exec_assign _ rfl (.bool false) rfl) ?_
  go_frame
  refine wpList_nil ?_
  go_upto_region 1 with (fail)
  refine wp_region_lit ?_
  refine ls_ex (some 3) (.int .i64 x) rfl rfl (exec_move _ rfl (.int .i64 x) rfl) ?_
  go_frame
  refine ls_ex (some 4) (.bool b) rfl rfl (exec_neq _ _ _ _ rfl x 0 rfl rfl b Hb.out) ?_
  go_frame
  refine ls_ex (some 2) (.bool b) rfl rfl (exec_assign _ rfl (.bool b) rfl) ?_
  go_frame
  refine wpList_nil ?_
  go_wp2_with fail
  go_ret
  exact ⟨rfl, rfl⟩
set_option maxHeartbeats 800000 in
theorem indexSf_c (A : Option Addr) (N c : Nat) (xs : List Int) (w : World) (hr : RdI w A xs) (hN : xs.length = N) (hn : N ≤ 1048576) (r : Int) (hR : (r = -1 ∧ nzN xs) ∨ ∃ t : Nat, r = t ∧ nzP xs t) :
    Calls Try.prog 34 #[.slice A N c, .func (.func 35) #[] #[]] w fun e w' => e = .returned (.int .i64 r) ∧ w = w' := by
  have HR := Lib.hid hR
  have HN := Lib.hid hN
  clear hR hN
  go_enter Try.func34, Try.ntmps34
  go_wp2_with fail
  go_loop [8] (fun v => ∃ a : Nat, a ≤ N ∧ v = .int .i64 a ∧ ∀ y : Nat, y < a → xs[y]?.getD 0 = 0) (fun v => N - (intOf v).toNat)
  case atStart => exact ⟨0, by omega, rfl, by omega⟩
  case round =>
    obtain ⟨a, ha, rfl, hall⟩ := hrel
    have Hall := Lib.hid hall
    clear hall
    by_cases hlt : a < N
    · have hlx : a < xs.length := by rw [HN.out]; exact hlt
      obtain ⟨b, off, rfl, hx0⟩ := hr.at_ hlx
      have e0 : IntKind.i64.wrap ((a : Int) + 1) = (a : Int) + 1 := IntWalk.i64_in _ (by omega)
      have hlt' : (a : Int) < (N : Int) := by omega
      have Hx1 : Hid (∃ x, xs[a] = x) := Lib.hid ⟨_, rfl⟩
      obtain ⟨x, hx⟩ := Hx1.out
      rw [hx] at hx0
      have Hx1 : Hid (xs[a]?.getD 0 = x) := Lib.hid (by rw [List.getElem?_eq_getElem hlx, hx]; rfl)
      clear hx
      by_cases hz : x = 0
      · have HC := Lib.hid (sf1_c x false (by simp [hz]) w)
        have Hstep : Hid (∀ y : Nat, y < a + 1 → xs[y]?.getD 0 = 0) := Lib.hid (fun y hy => by
          by_cases e : y = a
          · subst e; rw [Hx1.out]; exact hz
          · exact Hall.out y (by omega))
        clear hz
        go_wp2_with fail
        refine HC.out.mono ?_
        rintro e w' ⟨rfl, rfl⟩
        go_wp2_with fail
        exact ⟨⟨a + 1, by omega, by go_num, Hstep.out⟩, by simp [intOf]; omega⟩
      · have HC := Lib.hid (sf1_c x true (by simp [hz]) w)
        have Hr : Hid (r = (a : Int)) := Lib.hid (by
          rcases HR.out with ⟨_, h⟩ | ⟨t, h1, h2⟩
          · exact absurd (Hx1.out.symm.trans (h a hlx)) hz
          · have : t = a := by
              rcases Nat.lt_trichotomy t a with h3 | h3 | h3
              · exact absurd (Hall.out t h3) h2.2.1
              · exact h3
              · exact absurd (Hx1.out.symm.trans (h2.2.2 a h3)) hz
            rw [h1, this])
        clear hz
        go_wp2_with fail
        refine HC.out.mono ?_
        rintro e w' ⟨rfl, rfl⟩
        go_wp2_with fail
        go_ret
        exact ⟨by rw [Hr.out]; rfl, rfl⟩
    · have Hr : Hid (r = -1) := Lib.hid (by
        rcases HR.out with ⟨h, _⟩ | ⟨t, h1, h2⟩
        · exact h
        · exact absurd (Hall.out t (by have := h2.1; rw [HN.out] at this; omega)) h2.2.1)
      go_wp2_with fail
      go_ret
      exact ⟨by rw [Hr.out]; rfl, rfl⟩
end Go.Proofs.Ytcfgpjkdonidgaa
