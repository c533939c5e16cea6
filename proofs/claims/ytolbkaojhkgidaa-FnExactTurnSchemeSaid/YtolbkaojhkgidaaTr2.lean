/-
  impl.transposedForm: the transposed form.
-/
import Derived.Test.YtolbkaojhkgidaaTr0
import Derived.Test.YtolbkaojhkgidaaSizes
import Derived.Laws.Cover3
import Derived.BigRegion
import Derived.BigQuiet
import Derived.Deep.QuietTactic
namespace Go.Proofs.Ytolbkaojhkgidaa
open Go.RowKit
set_option maxRecDepth 100000
section
variable {P : Program} {ops : Array Oper} {rest : List Oper} {o : Oper} {a : Act} {w : World} {Q : Exit → Act → World → Prop}
theorem made_ones (z : Value) (n : Nat) : madeCells #[z] (n * 1) = Array.replicate n z := by
  apply Array.ext
  · simp [size_madeCells]
  · intro i h1 h2
    simp [madeCells, Nat.mod_one]
theorem wpList_make_cells (hg : o.guard = none) (l c : Operand) (t : TypeId) (hop : o.op = Op.makeSlice t l c) (e : TypeId) (z : Value) (b : Nat)
    (ht : P.underlying t = some (.slice e)) (hi : (P.info? e).map (fun i => (i.zero, i.size, i.bytes)) = some (some z, 1, b)) (hzc : z.cells = #[z])
    (n : Nat) (hl : a.eval l = .int .i64 n) (hc : a.eval c = .int .i64 n) (hb : b * n ≤ 281474976710656) (h63 : n ≤ 9223372036854775807)
    (h : ∀ w', New w w' (.cells (Array.replicate n z) e (0, 0)) → wpList P ops Q rest (a.put o.dst (.slice (some ⟨w.heap.size, 0, none⟩) n n)) w') : wpList P ops Q (o :: rest) a w := by
  obtain ⟨i, hi0, hz, h1, h2⟩ := info_parts hi
  refine wpList_plain hg fun K hK => ?_
  have hr := run_make (P := P) w t e i _ ht hi0 hz .i64 .i64 n n (by omega) (Int.le_refl _) (by rw [h2]; omega) (by omega)
  simp only [Int.toNat_natCast, h1, hzc, made_ones] at hr
  unfold Oper.wp
  simp [execOp, hop, hl, hc, hr, Result.andThen]
  exact hK _ _ (h _ (New.alloc _ _))
theorem wpList_toArr (hg : o.guard = none) (arr : TypeId) (x : Operand) (hop : o.op = Op.sliceToArrayPointer arr x) (A : Option Addr) (len cap : Nat) (hx : a.eval x = .slice A len cap) (e : TypeId) (n : Nat)
    (hu : P.underlying arr = some (.array n e)) (hn : n ≤ len)
    (h : wpList P ops Q rest (a.put o.dst (.pointer A)) w) : wpList P ops Q (o :: rest) a w := by
  refine wpList_plain hg fun K hK => ?_
  unfold Oper.wp
  simp [execOp, hop, hx, run_arrayAt w arr e n A len cap hu hn, Result.andThen]
  exact hK _ _ h
end
def ImRel (w : World) (f : List Nat) (rows cols s : Nat) (wr : World) : Prop :=
  Below w.heap.size w wr ∧ At wr w.heap.size (.cells (u8s f) 38 (0, 0)) ∧ At wr (w.heap.size + 1) (.cells #[.int .i64 rows, .int .i64 cols] 57 (0, 0)) ∧ At wr (w.heap.size + 1 + 1) (.cells (u8s (List.replicate 9 0)) 38 (0, 0)) ∧ At wr (w.heap.size + 1 + 1 + 1) (.cells (u8s (trP rows cols f s)) 5 (0, 0))
set_option maxHeartbeats 3200000 in
theorem transposedForm_c (f : List Nat) (R C : Nat) (hf : Bytes 9 f) (w : World) (hR1 : 1 ≤ R) (hR3 : R ≤ 3) (hC1 : 1 ≤ C) (hC3 : C ≤ 3) :
    Calls Try.prog 31 #[.agg (u8s f), .agg #[.int .i64 R, .int .i64 C]] w fun e w' => e = .returned (.agg (u8s (trF R C f))) ∧ Below w.heap.size w w' := by
  have hlen : (trF R C f).length = 9 := trP_len _ _ _ _
  have hRC : R * C ≤ 9 := Nat.mul_le_mul hR3 hC3
  have HP := Lib.hid (fun w => places_c R C w (by simp [sizeB]; omega) (by simp [sizeB]; omega))
  go_enter Try.func31, Try.ntmps31
  go_wp2_with (first | (refine wpList_abs3 ?_; intro W hsz hB h0 h1 h2; have e3 : W.heap.size = w.heap.size + 1 + 1 + 1 := hsz) | (refine wpList_make_cells rfl _ _ 73 rfl 5 (.int .u8 0) 1 Try.underlying73 (by kernel_rfl) rfl 9 rfl rfl (by omega) (by omega) ?_; intro w1 n1; rw [e3]; have h3 := n1.at_; rw [e3] at h3; replace h0 := n1.old h0; replace h1 := n1.old h1; replace h2 := n1.old h2; replace hB := n1.below hB (by omega); clear n1) | (refine wpList_load_all rfl 57 _ rfl (w.heap.size + 1) rfl _ _ _ h1 Try.underlying57 rfl 2 (by kernel_rfl) rfl ?_))
  refine (HP.out _).mono ?_
  rintro e w2 ⟨rfl, b2⟩
  replace h0 := h0.after b2
  replace h1 := h1.after b2
  replace h2 := h2.after b2
  replace h3 := h3.after b2
  replace hB := below_after hB b2
  replace h3 : At w2 (w.heap.size + 1 + 1 + 1) (.cells (u8s (trP R C f 0)) 5 (0, 0)) := by rw [trP_zero]; exact h3
  clear b2 hsz e3
  rw [← Int.natCast_mul]
  have hRCn : R * C ≤ 9 := hRC
  obtain ⟨n, hn⟩ : ∃ n : Nat, R * C = n := ⟨_, rfl⟩
  have HL : Hid (trF R C f = trP R C f n) := Lib.hid (by rw [← hn]; rfl)
  rw [hn] at hRC ⊢
  go_wp2_with fail
  go_loopw [12] (fun i wr => ∃ s : Nat, s ≤ n ∧ i = .int .i64 s ∧ ImRel w f R C s wr) (fun i _ => n - (intOf i).toNat)
  case atStart => exact ⟨0, by omega, rfl, hB, h0, h1, h2, h3⟩
  case round =>
    clear hB h0 h1 h2 h3
    obtain ⟨s, hs, rfl, hB, h0, h1, h2, h3⟩ := hrel
    by_cases hlt : s < n
    · have e0 : IntKind.i64.wrap ((s : Int) + 1) = (s : Int) + 1 := IntWalk.i64_in _ (by omega)
      have zC : ((C : Int) == 0) = false := by simp; omega
      have hCp : (1 : Int) ≤ C := by omega
      have k0 : wr.cell? ⟨w.heap.size + 1, 0, none⟩ = some (.int .i64 R) := h1.at_ 0
      have k1 : wr.cell? ⟨w.heap.size + 1, 1, none⟩ = some (.int .i64 C) := h1.at_ 1
      have hs' : s < R * C := by omega
      have hu9 := trTo_lt hR1 hR3 hC1 hC3 hs'
      have HS := Lib.hid (trP_set f hR1 hR3 hC1 hC3 hs')
      have hs9 : s < 9 := by omega
      have c0 := h0.cell (i := s) (by rw [hf.len]; exact hs9)
      have c3 := h3.cell (i := trTo R C s) (by rw [trP_len]; exact hu9)
      have z3 := h3.free (trTo R C s)
      obtain ⟨sd, hsd⟩ : ∃ x, x = s / C := ⟨_, rfl⟩
      obtain ⟨sc, hsc⟩ : ∃ x, x = s % C := ⟨_, rfl⟩
      obtain ⟨cr, hcr⟩ : ∃ x, x = sc * R := ⟨_, rfl⟩
      have q1 : Hid ((s : Int) / (C : Int) = (sd : Int)) := Lib.hid (by rw [hsd]; rfl)
      have q2 : Hid ((s : Int) % (C : Int) = (sc : Int)) := Lib.hid (by rw [hsc]; rfl)
      have b1 : sd ≤ s := by rw [hsd]; exact Nat.div_le_self _ _
      have b2 : sc < C := by rw [hsc]; exact Nat.mod_lt _ (by omega)
      have b3 : cr ≤ 9 := by rw [hcr]; exact Nat.mul_le_mul (show sc ≤ 3 by omega) hR3
      have m1 : (cr : Int) = (sc : Int) * (R : Int) := by rw [hcr]; simp
      have hud : trTo R C s = cr + sd := by rw [hcr, hsc, hsd]; rfl
      have e1 : IntKind.i64.wrap ((sc : Int) * (R : Int)) = (cr : Int) := by rw [m1]; exact IntWalk.i64_in _ (by omega)
      generalize trTo R C s = u at *
      have e2 : IntKind.i64.wrap ((cr : Int) + (sd : Int)) = (u : Int) := by rw [hud, IntWalk.i64_in _ (by omega)]; omega
      have b4 : (s : Int) / (C : Int) ≤ 9 := by rw [q1.out]; omega
      have b5 : 0 ≤ (s : Int) / (C : Int) := by rw [q1.out]; omega
      have b6 : (s : Int) % (C : Int) ≤ 9 := by rw [q2.out]; omega
      have b7 : 0 ≤ (s : Int) % (C : Int) := by rw [q2.out]; omega
      clear m1 hud hcr hsc hsd
      generalize trP R C f s = F at *
      generalize F[u]?.getD 0 = fu at *
      generalize f[s]?.getD 0 = x at *
      go_wp2_with fail
      go_quiet (fail)
      rw [q1.out, q2.out]
      clear q1 q2 b4 b5 b6 b7
      have i1 : (s : Int) < 9 := by omega
      have i2 : (u : Int) < 9 := by omega
      go_wp2_with fail
      go_region
      all_goals
        go_wp2_with fail
        go_roundw
        case rel =>
          have P := Put.set (i := u) (h3.drewN (nq + 1)) x
          rw [HS.out] at P
          exact ⟨s + 1, by omega, by go_num, P.below (below_drawn hB _) (by omega), P.other (h0.drewN _) (by omega), P.other (h1.drewN _) (by omega), P.other (h2.drewN _) (by omega), P.at_⟩
        case measure => simp [intOf]; omega
    · obtain rfl : s = n := by omega
      rw [← HL.out] at h3
      go_wp2_with (first | (refine wpList_toArr rfl _ _ rfl _ _ _ rfl _ 9 Try.underlying38 (by omega) ?_) | (refine wpList_load_all rfl 38 _ rfl (w.heap.size + 1 + 1 + 1) rfl _ _ _ h3 Try.underlying38 rfl 9 (by kernel_rfl) ((u8s_size _).trans hlen) ?_) | (refine wpList_store_all rfl 38 _ _ rfl rfl (w.heap.size + 1 + 1) rfl _ rfl _ _ h2 9 (by kernel_rfl) ((u8s_size _).trans hlen) (by simp [u8s]) (u8s_one _) ?_; intro w3 p3))
      refine bodyPost_ret (results_at rfl _ _ (w.heap.size + 1 + 1) _ _ _ rfl p3.at_ Try.underlying38 rfl 9 (by kernel_rfl) ((u8s_size _).trans hlen)) rfl ?_
      exact ⟨rfl, p3.below hB (by omega)⟩
end Go.Proofs.Ytolbkaojhkgidaa
