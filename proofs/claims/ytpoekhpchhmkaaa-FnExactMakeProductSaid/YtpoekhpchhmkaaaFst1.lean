/-
  impl.firstWrong: what it needs of plain functions; its region of two calls.
-/
import Derived.Test.YtpoekhpchhmkaaaWrong5
import Derived.Test.YtpoekhpchhmkaaaHeld
import Derived.Deep.CutRange
namespace Go.Proofs.Ytpoekhpchhmkaaa
open Go.RowKit
set_option maxRecDepth 100000
theorem stp_keep {b : Bool} {s : Wst} {t : Nat × Nat × Nat} (h : s.1 ≠ 0) : (stp b s t).1 ≠ 0 ∧ (stp b s t).2 = s.2 := by
  unfold stp
  split
  · simp [h]
  · exact ⟨h, rfl⟩
theorem runC_keep {W : Nat → Nat → Nat → Bool} {s : Wst} {a b c : Nat} (h : (runC W s a b c).1 ≠ 0) : ∀ d, (runC W s a b (c + d)).1 ≠ 0 ∧ (runC W s a b (c + d)).2 = (runC W s a b c).2 := by
  intro d
  induction d with
  | zero => exact ⟨h, rfl⟩
  | succ d ih =>
    have := stp_keep (b := W a b (c + d)) (t := (a, b, c + d)) ih.1
    exact ⟨this.1, this.2.trans ih.2⟩
theorem runC_keep0 {W : Nat → Nat → Nat → Bool} {s : Wst} (a b : Nat) (h : s.1 ≠ 0) (c : Nat) : (runC W s a b c).1 ≠ 0 ∧ (runC W s a b c).2 = s.2 := by
  have := runC_keep (W := W) (s := s) (a := a) (b := b) (c := 0) h c
  rwa [Nat.zero_add] at this
theorem runB_keep {W : Nat → Nat → Nat → Bool} {N3 : Nat} {s : Wst} {a b : Nat} (h : (runB W N3 s a b).1 ≠ 0) : ∀ d, (runB W N3 s a (b + d)).1 ≠ 0 ∧ (runB W N3 s a (b + d)).2 = (runB W N3 s a b).2 := by
  intro d
  induction d with
  | zero => exact ⟨h, rfl⟩
  | succ d ih =>
    have := runC_keep0 (W := W) a (b + d) ih.1 N3
    exact ⟨this.1, this.2.trans ih.2⟩
theorem runB_keep0 {W : Nat → Nat → Nat → Bool} {N3 : Nat} {s : Wst} (a : Nat) (h : s.1 ≠ 0) (b : Nat) : (runB W N3 s a b).1 ≠ 0 ∧ (runB W N3 s a b).2 = s.2 := by
  have := runB_keep (W := W) (N3 := N3) (s := s) (a := a) (b := 0) h b
  rwa [Nat.zero_add] at this
theorem runA_keep {W : Nat → Nat → Nat → Bool} {N2 N3 a : Nat} (h : (runA W N2 N3 a).1 ≠ 0) : ∀ d, (runA W N2 N3 (a + d)).1 ≠ 0 ∧ (runA W N2 N3 (a + d)).2 = (runA W N2 N3 a).2 := by
  intro d
  induction d with
  | zero => exact ⟨h, rfl⟩
  | succ d ih =>
    have := runB_keep0 (W := W) (N3 := N3) (a + d) ih.1 N2
    exact ⟨this.1, this.2.trans ih.2⟩
/-- The first wrong one, met at its place, is the first of all. -/
theorem found_at {W : Nat → Nat → Nat → Bool} {N1 N2 N3 a b c : Nat} (ha : a < N1) (hb : b < N2) (hc : c < N3) (h0 : (runC W (runB W N3 (runA W N2 N3 a) a b) a b c).1 = 0) (hw : W a b c = true) : (runA W N2 N3 N1).2 = some (a, b, c) := by
  have h1 : runC W (runB W N3 (runA W N2 N3 a) a b) a b (c + 1) = (1, some (a, b, c)) := by
    simp only [runC, stp, hw, if_true, h0]
  have h2 := runC_keep (W := W) (s := runB W N3 (runA W N2 N3 a) a b) (a := a) (b := b) (c := c + 1) (by rw [h1]; simp) (N3 - (c + 1))
  rw [show c + 1 + (N3 - (c + 1)) = N3 by omega, h1] at h2
  have h3 := runB_keep (W := W) (N3 := N3) (s := runA W N2 N3 a) (a := a) (b := b + 1) h2.1 (N2 - (b + 1))
  rw [show b + 1 + (N2 - (b + 1)) = N2 by omega] at h3
  have h4 := runA_keep (W := W) (N2 := N2) (N3 := N3) (a := a + 1) h3.1 (N1 - (a + 1))
  rw [show a + 1 + (N1 - (a + 1)) = N1 by omega] at h4
  exact (h4.2.trans h3.2).trans h2.2
theorem runC_zero {W : Nat → Nat → Nat → Bool} {s : Wst} {a b c : Nat} (h0 : (runC W s a b c).1 = 0) (hw : W a b c = false) : (runC W s a b (c + 1)).1 = 0 := by
  simp only [runC, stp, hw]
  exact h0
theorem wrong_at {p n m k : Int} {qs : List (List Nat)} (h : schemeB p n m k qs = true) {a b c : Nat} (ha : (a : Int) < n * m) (hb : (b : Int) < m * k) (hc : (c : Int) < n * k) :
    wrongB p m k qs a b c = !decide ((sidesL p.toNat qs a b)[c]?.getD 0 = (rightL m k a b)[c]?.getD 0) := by
  have hbd := sizes_bounds (schemeB_sizes h)
  obtain ⟨_, _, z1, z2⟩ := sizesB_mul (schemeB_sizes h)
  have hpb := primeB_bounds (sizesB_parts (schemeB_sizes h)).1
  have hpn : (p.toNat : Int) = p := by omega
  have hR := right_at (a := a) (b := b) (c := c) hbd.1 hbd.2.1 hbd.2.2 ⟨by omega, ha⟩ ⟨by omega, hb⟩ (by omega)
  unfold wrongB
  congr 1
  rw [← hR, sidesL_get _ _ _ _ (by omega), ← hpn, ← Int.natCast_emod]
  rw [Bool.eq_iff_iff]
  simp only [beq_iff_eq, decide_eq_true_eq, Int.toNat_natCast]
  omega
theorem exec_alloc_form {o : Oper} {a : Act} {w : World} (ho : o.op = .alloc 35) : (execOp a.eval o).run Try.prog w = .ok (.value (.pointer (some ⟨w.heap.size, 0, none⟩))) (w.alloc (.cells (u8s (List.replicate 9 0)) 35 (0, 0))) := by
  unfold execOp
  rw [ho]
  kernel_rfl
theorem KC.put {w wr w2 : World} {p n m k : Int} {A : Option Addr} {len cap g g' : Nat} {o : Obj} (h : KC w p n m k A len cap g wr) (hp : Put wr w2 g' o) (hy : w.heap.size < g' ∧ g < g') : KC w p n m k A len cap g w2 :=
  ⟨hp.below h.below (by omega), hp.other h.box (by omega), hp.other h.shp (by omega)⟩
theorem KC.drewN {w wr : World} {p n m k : Int} {A : Option Addr} {len cap g : Nat} (h : KC w p n m k A len cap g wr) (j : Nat) : KC w p n m k A len cap g (wr.drewN j) := ⟨below_drawn h.below j, h.box, h.shp⟩
theorem exec_eql_nil {P : Program} {o : Oper} {a : Act} {w : World} (t rt e : TypeId) (x y : Operand) (ho : o.op = .binOp .eql t x y rt) (hu : P.underlying t = some (.slice e)) (A : Option Addr) (n c : Nat) (hx : a.eval x = .slice A n c) (hy : a.eval y = .slice none 0 0) :
    (execOp a.eval o).run P w = .ok (.value (.bool A.isNone)) w := by
  have h := Lib.run_eql_slice_nil (P := P) w t e A n c 0 0 hu
  unfold execOp
  simp only [ho, hx, hy]
  simp [eqGuard, h]
end Go.Proofs.Ytpoekhpchhmkaaa
