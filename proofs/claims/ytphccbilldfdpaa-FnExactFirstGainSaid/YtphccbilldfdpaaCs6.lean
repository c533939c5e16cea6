/-
  Numbers that are too great: limitedProduct, limitedSum; repetition.counts.
-/
import Derived.Test.YtphccbilldfdpaaCs5
import Derived.ScopeJumps
import Derived.WalkMore
import Derived.Recover
namespace Go.Proofs.Ytphccbilldfdpaa
open Go.RowKit
set_option maxRecDepth 100000
/-- What limitedProduct and limitedSum panic with. -/
def failV : Value := .iface 72 (.int .i64 3)
def Fails (e : Ending) : Prop := e = .panicked [{ v := .iface 72 (.int .i64 3), recovered := false }]
def MC : Int := 1000000000000000
theorem quo_lt {a b : Int} (hb : 0 < b) : 1000000000000000 / b < a ↔ 1000000000000000 < a * b := Int.ediv_lt_iff_lt_mul hb
set_option maxHeartbeats 800000 in
theorem limP_ok (a b : Int) (ha : 0 ≤ a) (hb : 0 ≤ b) (h : a * b ≤ 1000000000000000) (w : World) :
    Calls Try.prog 66 #[.int .i64 a, .int .i64 b] w fun e w' => e = .returned (.int .i64 (a * b)) ∧ w = w' := by
  have h0 : 0 ≤ a * b := Int.mul_nonneg ha hb
  have e1 : IntKind.i64.wrap (a * b) = a * b := IntWalk.i64_in _ (by omega)
  by_cases hz : b = 0
  · have d0 : (b != 0) = false := by simp [hz]
    have d1 : (b == 0) = true := by simp [hz]
    clear hz h h0
    go_enter Try.func66, Try.ntmps66
    go_wp2_with fail
    go_ret
    exact ⟨rfl, rfl⟩
  · have hp : 0 < b := by omega
    have d0 : (b != 0) = true := by simp [hz]
    have d1 : (b == 0) = false := by simp [hz]
    have d2 : decide (1000000000000000 / b < a) = false := decide_eq_false (fun hc => by have := (quo_lt hp).1 hc; omega)
    have d3 : ¬ 1000000000000000 / b < a := by simpa using d2
    clear h h0 hp
    go_enter Try.func66, Try.ntmps66
    go_wp2_with fail
    go_ret
    exact ⟨rfl, rfl⟩
set_option maxHeartbeats 800000 in
theorem limP_no (a b : Int) (hb : 0 ≤ b) (h : 1000000000000000 < a * b) (w : World) :
    Calls Try.prog 66 #[.int .i64 a, .int .i64 b] w fun e w' => Fails e ∧ w = w' := by
  have hz : b ≠ 0 := fun hz => by rw [hz] at h; simp at h
  have hp : 0 < b := by omega
  have d0 : (b != 0) = true := by simp [hz]
  have d1 : (b == 0) = false := by simp [hz]
  have d2 : decide (1000000000000000 / b < a) = true := decide_eq_true ((quo_lt hp).2 h)
  clear h hp
  go_enter Try.func66, Try.ntmps66
  go_wp2_with fail
  exact ⟨rfl, rfl, rfl⟩
set_option maxHeartbeats 800000 in
theorem limS_ok (a b : Int) (ha : 0 ≤ a) (hb : 0 ≤ b) (h : a + b ≤ 1000000000000000) (w : World) :
    Calls Try.prog 55 #[.int .i64 a, .int .i64 b] w fun e w' => e = .returned (.int .i64 (a + b)) ∧ w = w' := by
  have e1 : IntKind.i64.wrap (a + b) = a + b := IntWalk.i64_in _ (by omega)
  have e2 : IntKind.i64.wrap (1000000000000000 - b) = 1000000000000000 - b := IntWalk.i64_in _ (by omega)
  have d2 : decide (1000000000000000 - b < a) = false := decide_eq_false (by omega)
  clear h ha
  go_enter Try.func55, Try.ntmps55
  go_wp2_with fail
  go_ret
  exact ⟨rfl, rfl⟩
set_option maxHeartbeats 800000 in
theorem limS_no (a b : Int) (hb : 0 ≤ b) (hb2 : b ≤ 1000000000000000) (h : 1000000000000000 < a + b) (w : World) :
    Calls Try.prog 55 #[.int .i64 a, .int .i64 b] w fun e w' => Fails e ∧ w = w' := by
  have e2 : IntKind.i64.wrap (1000000000000000 - b) = 1000000000000000 - b := IntWalk.i64_in _ (by omega)
  have d2 : decide (1000000000000000 - b < a) = true := decide_eq_true (by omega)
  clear h
  go_enter Try.func55, Try.ntmps55
  go_wp2_with fail
  exact ⟨rfl, rfl, rfl⟩
set_option maxHeartbeats 800000 in
theorem additions_c (c l1 l2 l3 : Int) (h1 : 0 ≤ l1 ∧ l1 ≤ 1000) (h2 : 0 ≤ l2 ∧ l2 ≤ 1000) (h3 : 0 ≤ l3 ∧ l3 ≤ 1000) (w : World) :
    Calls Try.prog 67 #[.agg #[.int .i64 c, .int .i64 l1, .int .i64 l2, .int .i64 l3]] w fun e w' => e = .returned (.int .i64 (l1 + l2 + l3)) ∧ Below w.heap.size w w' := by
  have e1 : IntKind.i64.wrap (l1 + l2) = l1 + l2 := IntWalk.i64_in _ (by omega)
  have e2 : IntKind.i64.wrap (l1 + l2 + l3) = l1 + l2 + l3 := IntWalk.i64_in _ (by omega)
  clear h1 h2 h3
  go_enter Try.func67, Try.ntmps67
  go_wp2_with fail
  go_ret
  exact ⟨rfl, below1 _ _⟩
/-- A scope left behind or jumped back in by one label: as wp_scope_jumps, but the first way need only come to the label. -/
theorem wp_scope_jumps2 {P : Program} {a : Act} {w : World} {Q : Exit → Act → World → Prop} {c rest : Code} (l : Nat) (J : Act → World → Prop) (μ : Act → World → Nat) (hf : findLabel c l = some (Code.skip.seq rest))
    (pass : ∀ a w, J a w → rest.wp P (Exit.jump l (fun a' w' => J a' w' ∧ μ a' w' < μ a w) Q) a w)
    (first : (∀ a w, J a w → rest.wp P (Exit.jump l J Q) a w) → c.wp P (Exit.jump l J Q) a w) : (Code.scope c).wp P Q a w :=
  wp_scope_jumps l J μ hf (first fun a w h b k cs => by
    obtain ⟨e, a', w', q, r⟩ := pass a w h b k cs
    refine ⟨e, a', w', ?_, r⟩
    cases e <;> first | exact q | exact ⟨q.1, q.2.1⟩) fun a w h => wp_seq (wp_skip (pass a w h))
/-- The numbers of multiplications and of additions, level by level, if none is too great. -/
def cnO (r add n : Int) : Nat → Int → Int → Int → Option (Int × Int)
  | 0, t, s, _ => some (t, s)
  | k + 1, t, s, d => if d * d ≤ 1000000000000000 ∧ add * (d * d) ≤ 1000000000000000 ∧ s * r ≤ 1000000000000000 ∧ s * r + add * (d * d) ≤ 1000000000000000 ∧ t * r ≤ 1000000000000000 then cnO r add n k (t * r) (s * r + add * (d * d)) (d * n) else none
def countsO (r add n : Int) (L : Nat) (b : Int) : Option (Int × Int) :=
  if b * b ≤ 1000000000000000 ∧ b * (b * b) ≤ 1000000000000000 then cnO r add n L (b * (b * b)) (b * (b * b) - b * b) b else none
def CEnd (o : Option (Int × Int)) (e : Ending) : Prop :=
  match o with
  | some (t, s) => e = .returned (.tuple #[.int .i64 t, .int .i64 s])
  | none => Fails e
theorem cnO_no {r add n t s d : Int} {L a : Nat} (ha : a < L) (h : ¬ (d * d ≤ 1000000000000000 ∧ add * (d * d) ≤ 1000000000000000 ∧ s * r ≤ 1000000000000000 ∧ s * r + add * (d * d) ≤ 1000000000000000 ∧ t * r ≤ 1000000000000000)) : cnO r add n (L - a) t s d = none := by
  rw [show L - a = (L - (a + 1)) + 1 by omega, cnO, if_neg h]
theorem cnO_yes {r add n t s d : Int} {L a : Nat} (ha : a < L) (h : d * d ≤ 1000000000000000 ∧ add * (d * d) ≤ 1000000000000000 ∧ s * r ≤ 1000000000000000 ∧ s * r + add * (d * d) ≤ 1000000000000000 ∧ t * r ≤ 1000000000000000) : cnO r add n (L - a) t s d = cnO r add n (L - (a + 1)) (t * r) (s * r + add * (d * d)) (d * n) := by
  rw [show L - a = (L - (a + 1)) + 1 by omega, cnO, if_pos h]
theorem sq_bound {d : Int} (h0 : 0 ≤ d) (h : d * d ≤ 1000000000000000) : d ≤ 31622777 := by
  by_cases hc : d ≤ 31622777
  · exact hc
  · have : 31622778 * 31622778 ≤ d * d := Int.mul_le_mul (by omega) (by omega) (by omega) (by omega)
    omega
/-- What holds at the label. -/
def cntJ (w : World) (n r l1 l2 l3 : Int) (L : Nat) (b : Int) (a' : Act) (w' : World) : Prop :=
  ∃ (a : Nat) (t s d : Int) (u4 u5 u12 u13 u14 u15 u16 u17 u18 u19 u20 u21 u22 u23 u24 u25 u26 u27 u28 u29 u30 u31 u32 u33 u34 u35 u36 u37 u38 u39 u40 u41 u42 u43 u44 u45 u46 u47 u48 u49 u50 u51 u52 u53 : Value), a' = { tmps := #[.agg #[.int .i64 n, .int .i64 r, .int .i64 l1, .int .i64 l2, .int .i64 l3], .int .i64 (L : Int), .int .i64 b, .pointer (some ⟨w.heap.size, 0, none⟩), u4, u5, .int .i64 0, .int .i64 0, .int .i64 (a : Int), .int .i64 d, .int .i64 t, .int .i64 s, u12, u13, u14, u15, u16, u17, u18, u19, u20, u21, u22, u23, u24, u25, u26, u27, u28, u29, u30, u31, u32, u33, u34, u35, u36, u37, u38, u39, u40, u41, u42, u43, u44, u45, u46, u47, u48, u49, u50, u51, u52, u53], defers := [] } ∧ a ≤ L ∧ Hid (cnO r (l1 + l2 + l3) n (L - a) t s d = countsO r (l1 + l2 + l3) n L b) ∧ (0 ≤ t ∧ 0 ≤ s ∧ 0 ≤ d) ∧
    Below w.heap.size w w' ∧ At w' w.heap.size (.cells #[.int .i64 n, .int .i64 r, .int .i64 l1, .int .i64 l2, .int .i64 l3] 50 (0, 0))
def lvlOf (a' : Act) : Nat := (intOf (a'.tmps.getD 8 undef)).toNat
set_option maxHeartbeats 8000000 in
theorem counts_c (n r l1 l2 l3 : Int) (L : Nat) (b : Int) (hn : 2 ≤ n ∧ n ≤ 3) (hr : 0 ≤ r ∧ r ≤ 30) (h1 : 0 ≤ l1 ∧ l1 ≤ 1000) (h2 : 0 ≤ l2 ∧ l2 ≤ 1000) (h3 : 0 ≤ l3 ∧ l3 ≤ 1000) (hL : L ≤ 8) (hb : 1 ≤ b) (w : World) :
    Calls Try.prog 54 #[.agg #[.int .i64 n, .int .i64 r, .int .i64 l1, .int .i64 l2, .int .i64 l3], .int .i64 (L : Int), .int .i64 b] w fun e w' => CEnd (countsO r (l1 + l2 + l3) n L b) e ∧ Below w.heap.size w w' := by
  go_enter Try.func54, Try.ntmps54
  go_wp2_with fail
  refine wp_scope_jumps2 0 (cntJ w n r l1 l2 l3 L b) (fun a' _ => L - lvlOf a') rfl ?_ ?_
  · rintro a' w1 ⟨a, t, s, d, _, _, _, _, _, _, _, _, _, _, _, _, _, _, _, _, _, _, _, _, _, _, _, _, _, _, _, _, _, _, _, _, _, _, _, _, _, _, _, _, _, _, _, _, rfl, haL, HG, ⟨ht0, hs0, hd0⟩, hB, h0⟩
    by_cases hlt : a < L
    · have e0 : ((a : Int) == (L : Int)) = false := by simp; omega
      have k0 := h0.at_ 0
      have k1 := h0.at_ 1
      have k2 := h0.at_ 2
      have k3 := h0.at_ 3
      have k4 := h0.at_ 4
      go_wp2_with fail
      refine (additions_c r l1 l2 l3 h1 h2 h3 _).mono ?_
      rintro e w2 ⟨rfl, b2⟩
      replace hB := below_after hB b2
      replace h0 := h0.after b2
      clear k0 k1 k2 k3 k4 b2
      have k0 := h0.at_ 0
      have k1 := h0.at_ 1
      have had : 0 ≤ l1 + l2 + l3 := by omega
      have hdd : 0 ≤ d * d := Int.mul_nonneg hd0 hd0
      generalize hAD : l1 + l2 + l3 = ad at *
      have HAD := Lib.hid hAD
      clear hAD
      go_wp2_with fail
      by_cases c1 : d * d ≤ 1000000000000000
      · refine (limP_ok d d hd0 hd0 c1 _).mono ?_
        rintro e w3 ⟨rfl, rfl⟩
        have hd3 := sq_bound hd0 c1
        have hadd : 0 ≤ ad * (d * d) := Int.mul_nonneg had hdd
        have hdn : 0 ≤ d * n := Int.mul_nonneg hd0 (by omega)
        have hdn2 : d * n ≤ 31622777 * 3 := Int.mul_le_mul hd3 hn.2 (by omega) (by omega)
        have e5 : IntKind.i64.wrap (d * n) = d * n := IntWalk.i64_in _ (by omega)
        generalize hDD : d * d = D at *
        have HDD := Lib.hid hDD
        clear hDD
        go_wp2_with fail
        by_cases c2 : ad * D ≤ 1000000000000000
        · refine (limP_ok ad D had hdd c2 _).mono ?_
          rintro e w3 ⟨rfl, rfl⟩
          go_wp2_with fail
          by_cases c3 : s * r ≤ 1000000000000000
          · refine (limP_ok s r hs0 hr.1 c3 _).mono ?_
            rintro e w3 ⟨rfl, rfl⟩
            have hsr : 0 ≤ s * r := Int.mul_nonneg hs0 hr.1
            go_wp2_with fail
            by_cases c4 : s * r + ad * D ≤ 1000000000000000
            · refine (limS_ok (s * r) (ad * D) hsr hadd c4 _).mono ?_
              rintro e w3 ⟨rfl, rfl⟩
              go_wp2_with fail
              by_cases c5 : t * r ≤ 1000000000000000
              · refine (limP_ok t r ht0 hr.1 c5 _).mono ?_
                rintro e w3 ⟨rfl, rfl⟩
                have htr : 0 ≤ t * r := Int.mul_nonneg ht0 hr.1
                have HY : Hid (cnO r ad n (L - (a + 1)) (t * r) (s * r + ad * D) (d * n) = countsO r ad n L b) := Lib.hid (by rw [← HDD.out]; rw [← HDD.out] at c1 c2 c4; rw [← cnO_yes hlt ⟨c1, c2, c3, c4, c5⟩]; exact HG.out)
                have e6 : IntKind.i64.wrap ((a : Int) + 1) = (a : Int) + 1 := IntWalk.i64_in _ (by omega)
                go_wp2_with fail
                go_step3
                refine ⟨rfl, ⟨a + 1, t * r, s * r + ad * D, d * n, _, _, _, _, _, _, _, _, _, _, _, _, _, _, _, _, _, _, _, _, _, _, _, _, _, _, _, _, _, _, _, _, _, _, _, _, _, _, _, _, _, _, _, _, rfl, by omega, by rw [HAD.out]; exact HY, ⟨htr, by omega, hdn⟩, hB, h0⟩, ?_⟩
                simp [lvlOf, intOf]
                omega
              · refine (limP_no t r hr.1 (by omega) _).mono ?_
                rintro e w3 ⟨he, rfl⟩
                unfold Fails at he
                subst he
                have HN := cnO_no (r := r) (add := ad) (n := n) (t := t) (s := s) (d := d) hlt (fun h => c5 h.2.2.2.2)
                go_wp2_with fail
                exact ⟨rfl, by rw [HAD.out, ← HG.out, HN]; rfl, hB⟩
            · refine (limS_no (s * r) (ad * D) hadd c2 (by omega) _).mono ?_
              rintro e w3 ⟨he, rfl⟩
              unfold Fails at he
              subst he
              have HN := cnO_no (r := r) (add := ad) (n := n) (t := t) (s := s) (d := d) hlt (fun h => c4 (by rw [← HDD.out]; exact h.2.2.2.1))
              go_wp2_with fail
              exact ⟨rfl, by rw [HAD.out, ← HG.out, HN]; rfl, hB⟩
          · refine (limP_no s r hr.1 (by omega) _).mono ?_
            rintro e w3 ⟨he, rfl⟩
            unfold Fails at he
            subst he
            have HN := cnO_no (r := r) (add := ad) (n := n) (t := t) (s := s) (d := d) hlt (fun h => c3 h.2.2.1)
            go_wp2_with fail
            exact ⟨rfl, by rw [HAD.out, ← HG.out, HN]; rfl, hB⟩
        · refine (limP_no ad D hdd (by omega) _).mono ?_
          rintro e w3 ⟨he, rfl⟩
          unfold Fails at he
          subst he
          have HN := cnO_no (r := r) (add := ad) (n := n) (t := t) (s := s) (d := d) hlt (fun h => c2 (by rw [← HDD.out]; exact h.2.1))
          go_wp2_with fail
          exact ⟨rfl, by rw [HAD.out, ← HG.out, HN]; rfl, hB⟩
      · refine (limP_no d d hd0 (by omega) _).mono ?_
        rintro e w3 ⟨he, rfl⟩
        unfold Fails at he
        subst he
        have HN := cnO_no (r := r) (add := ad) (n := n) (t := t) (s := s) (d := d) hlt (fun h => c1 h.1)
        go_wp2_with fail
        exact ⟨rfl, by rw [HAD.out, ← HG.out, HN]; rfl, hB⟩
    · have e0 : ((a : Int) == (L : Int)) = true := by simp; omega
      have HZ : Hid (countsO r (l1 + l2 + l3) n L b = some (t, s)) := Lib.hid (by rw [← HG.out, show L - a = 0 by omega]; rfl)
      go_wp2_with fail
      simp only [Exit.jump]
      go_ret2
      exact ⟨by rw [HZ.out]; rfl, hB⟩
  · intro hrest
    have hbb : 0 ≤ b * b := Int.mul_nonneg (by omega) (by omega)
    go_wp2_with fail
    by_cases c1 : b * b ≤ 1000000000000000
    · refine (limP_ok b b (by omega) (by omega) c1 _).mono ?_
      rintro e w3 ⟨rfl, rfl⟩
      have e1 : IntKind.i64.wrap (b * b) = b * b := IntWalk.i64_in _ (by omega)
      go_wp2_with fail
      by_cases c2 : b * (b * b) ≤ 1000000000000000
      · refine (limP_ok b (b * b) (by omega) hbb c2 _).mono ?_
        rintro e w3 ⟨rfl, rfl⟩
        have hb3 : b * b ≤ b * (b * b) := by have := Int.mul_le_mul_of_nonneg_right hb hbb; omega
        have e2 : IntKind.i64.wrap (b * (b * b) - b * b) = b * (b * b) - b * b := IntWalk.i64_in _ (by omega)
        have HG : Hid (cnO r (l1 + l2 + l3) n (L - 0) (b * (b * b)) (b * (b * b) - b * b) b = countsO r (l1 + l2 + l3) n L b) := Lib.hid (by unfold countsO; rw [if_pos ⟨c1, c2⟩]; rfl)
        go_wp2_with fail
        go_step3
        rename_i hK
        exact hK _ _ (hrest _ _ ⟨0, _, _, _, _, _, _, _, _, _, _, _, _, _, _, _, _, _, _, _, _, _, _, _, _, _, _, _, _, _, _, _, _, _, _, _, _, _, _, _, _, _, _, _, _, _, _, _, rfl, by omega, HG, ⟨by omega, by omega, by omega⟩, below1 _ _, al1_0 _ _⟩)
      · refine (limP_no b (b * b) hbb (by omega) _).mono ?_
        rintro e w3 ⟨he, rfl⟩
        unfold Fails at he
        subst he
        have HN : countsO r (l1 + l2 + l3) n L b = none := by unfold countsO; rw [if_neg (fun h => c2 h.2)]
        go_wp2_with fail
        exact ⟨rfl, by rw [HN]; rfl, below1 _ _⟩
    · refine (limP_no b b (by omega) (by omega) _).mono ?_
      rintro e w3 ⟨he, rfl⟩
      unfold Fails at he
      subst he
      have HN : countsO r (l1 + l2 + l3) n L b = none := by unfold countsO; rw [if_neg (fun h => c1 h.1)]
      go_wp2_with fail
      exact ⟨rfl, by rw [HN]; rfl, below1 _ _⟩
end Go.Proofs.Ytphccbilldfdpaa
