/-
  impl.movedForm: a form moved into a matrix of another shape.
-/
import Derived.Test.YtelicajipilhjaaMo0
import Derived.Test.YtelicajipilhjaaTr2
namespace Go.Proofs.Ytelicajipilhjaa
open Go.RowKit
set_option maxRecDepth 100000
section
variable {P : Program} {ops : Array Oper} {rest : List Oper} {a : Act} {w : World} {Q : Exit → Act → World → Prop}
theorem wpList_abs5 {A B C D E : Obj} (h : ∀ W : World, Sz W (w.heap.size + 1 + 1 + 1 + 1 + 1) → Below w.heap.size w W → At W w.heap.size A → At W (w.heap.size + 1) B → At W (w.heap.size + 1 + 1) C → At W (w.heap.size + 1 + 1 + 1) D → At W (w.heap.size + 1 + 1 + 1 + 1) E → wpList P ops Q rest a W) :
    wpList P ops Q rest a (((((w.alloc A).alloc B).alloc C).alloc D).alloc E) := by
  have hb := below1 ((((w.alloc A).alloc B).alloc C).alloc D) E
  have hs : ((((w.alloc A).alloc B).alloc C).alloc D).heap.size = w.heap.size + 1 + 1 + 1 + 1 := by rw [size_al1, size_al3]
  have hE := al1_0 ((((w.alloc A).alloc B).alloc C).alloc D) E
  rw [hs] at hE
  exact h _ (by unfold Sz; rw [size_al1, hs]) (below_after (below4 _ _ _ _ _) hb) (At.after (al4_0 _ _ _ _ _) hb) (At.after (al4_1 _ _ _ _ _) hb) (At.after (al4_2 _ _ _ _ _) hb) (At.after (al4_3 _ _ _ _ _) hb) hE
end
def MfRel (w : World) (f : List Nat) (R C tr tc dr dc : Nat) (s : Nat) (wr : World) : Prop :=
  Below w.heap.size w wr ∧ At wr w.heap.size (.cells (u8s f) 47 (0, 0)) ∧ At wr (w.heap.size + 1) (.cells #[.int .i64 R, .int .i64 C] 73 (0, 0)) ∧ At wr (w.heap.size + 1 + 1) (.cells #[.int .i64 tr, .int .i64 tc] 73 (0, 0)) ∧ At wr (w.heap.size + 1 + 1 + 1) (.cells #[.int .i64 dr, .int .i64 dc] 73 (0, 0)) ∧ At wr (w.heap.size + 1 + 1 + 1 + 1) (.cells (u8s (List.replicate 9 0)) 47 (0, 0)) ∧ At wr (w.heap.size + 1 + 1 + 1 + 1 + 1) (.cells (u8s (mvP R C tr tc dr dc f s)) 5 (0, 0))
set_option maxHeartbeats 6400000 in
theorem movedForm_c (f : List Nat) (R C tr tc dr dc : Nat) (hf : Bytes 9 f) (w : World) (hR : 1 ≤ R ∧ R ≤ 3) (hC : 1 ≤ C ∧ C ≤ 3) (htr : tr ≤ 3) (htc : tc ≤ 3) (hdr : dr ≤ 3) (hdc : dc ≤ 3) :
    Calls Try.prog 53 #[.agg (u8s f), .agg #[.int .i64 R, .int .i64 C], .agg #[.int .i64 tr, .int .i64 tc], .agg #[.int .i64 dr, .int .i64 dc]] w fun e w' => e = .returned (.agg (u8s (mvF R C tr tc dr dc f))) ∧ Below w.heap.size w w' := by
  obtain ⟨hR1, hR3⟩ := hR
  obtain ⟨hC1, hC3⟩ := hC
  have hlen : (mvF R C tr tc dr dc f).length = 9 := mvP_len _ _ _ _ _ _ _ _
  have hRC : R * C ≤ 9 := Nat.mul_le_mul hR3 hC3
  have HP := Lib.hid (fun w => places_c R C w (by simp [sizeB]; omega) (by simp [sizeB]; omega))
  go_enter Try.func53, Try.ntmps53
  go_wp2_with (first | (refine wpList_abs5 ?_; intro W hsz hB h0 h1 h2 h3 h4; have e3 : W.heap.size = w.heap.size + 1 + 1 + 1 + 1 + 1 := hsz) | (refine wpList_make_cells rfl _ _ 96 rfl 5 (.int .u8 0) 1 Try.underlying96 (by kernel_rfl) rfl 9 rfl rfl (by omega) (by omega) ?_; intro w1 n1; rw [e3]; have h5 := n1.at_; rw [e3] at h5; replace h0 := n1.old h0; replace h1 := n1.old h1; replace h2 := n1.old h2; replace h3 := n1.old h3; replace h4 := n1.old h4; replace hB := n1.below hB (by omega); clear n1) | (refine wpList_load_all rfl 73 _ rfl (w.heap.size + 1) rfl _ _ _ h1 Try.underlying73 rfl 2 (by kernel_rfl) rfl ?_))
  refine (HP.out _).mono ?_
  rintro e w2 ⟨rfl, b2⟩
  replace h0 := h0.after b2
  replace h1 := h1.after b2
  replace h2 := h2.after b2
  replace h3 := h3.after b2
  replace h4 := h4.after b2
  replace h5 := h5.after b2
  replace hB := below_after hB b2
  replace h5 : At w2 (w.heap.size + 1 + 1 + 1 + 1 + 1) (.cells (u8s (mvP R C tr tc dr dc f 0)) 5 (0, 0)) := by rw [mvP_zero]; exact h5
  clear b2 hsz e3
  rw [← Int.natCast_mul]
  obtain ⟨n, hn⟩ : ∃ n : Nat, R * C = n := ⟨_, rfl⟩
  have HL : Hid (mvF R C tr tc dr dc f = mvP R C tr tc dr dc f n) := Lib.hid (by rw [← hn]; rfl)
  rw [hn] at hRC ⊢
  go_wp2_with fail
  go_loopw [16] (fun i wr => ∃ s : Nat, s ≤ n ∧ i = .int .i64 s ∧ MfRel w f R C tr tc dr dc s wr) (fun i _ => n - (intOf i).toNat)
  case atStart => exact ⟨0, by omega, rfl, hB, h0, h1, h2, h3, h4, h5⟩
  case round =>
    clear hB h0 h1 h2 h3 h4 h5
    obtain ⟨s, hs, rfl, hB, h0, h1, h2, h3, h4, h5⟩ := hrel
    by_cases hlt : s < n
    · have e0 : IntKind.i64.wrap ((s : Int) + 1) = (s : Int) + 1 := IntWalk.i64_in _ (by omega)
      have zC : ((C : Int) == 0) = false := by simp; omega
      have hCp : (1 : Int) ≤ C := by omega
      have k1 : wr.cell? ⟨w.heap.size + 1, 1, none⟩ = some (.int .i64 C) := h1.at_ 1
      have t0 : wr.cell? ⟨w.heap.size + 1 + 1, 0, none⟩ = some (.int .i64 tr) := h2.at_ 0
      have t1 : wr.cell? ⟨w.heap.size + 1 + 1, 1, none⟩ = some (.int .i64 tc) := h2.at_ 1
      have d0 : wr.cell? ⟨w.heap.size + 1 + 1 + 1, 0, none⟩ = some (.int .i64 dr) := h3.at_ 0
      have d1 : wr.cell? ⟨w.heap.size + 1 + 1 + 1, 1, none⟩ = some (.int .i64 dc) := h3.at_ 1
      have hs' : s < R * C := by omega
      have hs9 : s < 9 := by omega
      have hsd : s / C < R := Nat.div_lt_of_lt_mul (by rw [Nat.mul_comm]; exact hs')
      have hsc : s % C < C := Nat.mod_lt _ (by omega)
      have hse : s / C * C + s % C = s := by have := Nat.div_add_mod s C; rw [Nat.mul_comm] at this; exact this
      have HSK := Lib.hid (fun h => mvP_skip (fr := R) (fc := C) (tr := tr) (tc := tc) (dr := dr) (dc := dc) (a := s / C) (b := s % C) f hsc h)
      have HST := Lib.hid (fun h => mvP_set (fr := R) (fc := C) (tr := tr) (tc := tc) (dr := dr) (dc := dc) (a := s / C) (b := s % C) f hsd hsc h)
      rw [hse] at HSK HST
      have q1 : Hid ((s : Int) / (C : Int) = ((s / C : Nat) : Int)) := Lib.hid rfl
      have q2 : Hid ((s : Int) % (C : Int) = ((s % C : Nat) : Int)) := Lib.hid rfl
      generalize s / C = sd at *
      generalize s % C = sc at *
      obtain ⟨r1, hr1⟩ : ∃ x, x = sd + dr := ⟨_, rfl⟩
      obtain ⟨r2, hr2⟩ : ∃ x, x = sc + dc := ⟨_, rfl⟩
      rw [← hr1, ← hr2] at HSK HST
      have e1 : IntKind.i64.wrap ((s : Int) / (C : Int) + (dr : Int)) = (r1 : Int) := by rw [q1.out, IntWalk.i64_in _ (by omega)]; omega
      have e2 : IntKind.i64.wrap ((s : Int) % (C : Int) + (dc : Int)) = (r2 : Int) := by rw [q2.out, IntWalk.i64_in _ (by omega)]; omega
      have b4 : (s : Int) / (C : Int) ≤ 9 := by rw [q1.out]; omega
      have b5 : 0 ≤ (s : Int) / (C : Int) := by rw [q1.out]; omega
      have b6 : (s : Int) % (C : Int) ≤ 9 := by rw [q2.out]; omega
      have b7 : 0 ≤ (s : Int) % (C : Int) := by rw [q2.out]; omega
      have z1 : IntKind.i64.wrap (r1 : Int) = (r1 : Int) := IntWalk.i64_in _ (by omega)
      clear hse
      by_cases hin : r1 < tr ∧ r2 < tc
      · obtain ⟨in1, in2⟩ := hin
        have hu9 := mv_to_lt htr htc ⟨in1, in2⟩
        have HS := Lib.hid (HST.out ⟨in1, in2⟩)
        obtain ⟨u, hu⟩ : ∃ x, x = r1 * tc + r2 := ⟨_, rfl⟩
        obtain ⟨cr, hcr⟩ : ∃ x, x = r1 * tc := ⟨_, rfl⟩
        rw [← hu] at HS hu9
        have m1 : (cr : Int) = (r1 : Int) * (tc : Int) := by rw [hcr]; simp
        rw [← hcr] at hu
        have g1 : IntKind.i64.wrap ((r1 : Int) * (tc : Int)) = (cr : Int) := by rw [← m1]; exact IntWalk.i64_in _ (by omega)
        have g2 : IntKind.i64.wrap ((cr : Int) + (r2 : Int)) = (u : Int) := by rw [IntWalk.i64_in _ (by omega)]; omega
        have c0 := h0.cell (i := s) (by rw [hf.len]; exact hs9)
        have c3 := h5.cell (i := u) (by rw [mvP_len]; exact hu9)
        have z3 := h5.free u
        have i1 : (s : Int) < 9 := by omega
        have i2 : (u : Int) < 9 := by omega
        have dd1 : decide ((r1 : Int) < (tr : Int)) = true := by simp; omega
        have dd2 : decide ((r2 : Int) < (tc : Int)) = true := by simp; omega
        clear m1 hu hcr HSK HST hr1 hr2
        generalize mvP R C tr tc dr dc f s = F at *
        generalize F[u]?.getD 0 = fu at *
        generalize f[s]?.getD 0 = x at *
        go_wp2_with fail
        go_quiet (fail)
        clear q1 q2 b4 b5 b6 b7 e1 e2
        go_wp2_with fail
        go_region
        all_goals
          go_wp2_with fail
          go_roundw
          case rel =>
            have P := Put.set (i := u) (h5.drewN (nq + 1)) x
            rw [HS.out] at P
            exact ⟨s + 1, by omega, by go_num, P.below (below_drawn hB _) (by omega), P.other (h0.drewN _) (by omega), P.other (h1.drewN _) (by omega), P.other (h2.drewN _) (by omega), P.other (h3.drewN _) (by omega), P.other (h4.drewN _) (by omega), P.at_⟩
          case measure => simp [intOf]; omega
      · have HS := Lib.hid (HSK.out hin)
        clear HSK HST
        generalize hF : mvP R C tr tc dr dc f s = F at *
        by_cases in1 : r1 < tr
        · have in2 : ¬ r2 < tc := fun h => hin ⟨in1, h⟩
          have dd1 : decide ((r1 : Int) < (tr : Int)) = true := by simp; omega
          have dd2 : decide ((r2 : Int) < (tc : Int)) = false := by simp; omega
          clear hin hF hr1 hr2
          go_wp2_with fail
          go_quiet (fail)
          clear q1 q2 b4 b5 b6 b7 e1 e2
          go_wp2_with fail
          go_roundw
          case rel => exact ⟨s + 1, by omega, by go_num, below_drawn hB _, h0.drewN _, h1.drewN _, h2.drewN _, h3.drewN _, h4.drewN _, by rw [← HS.out]; exact h5.drewN _⟩
          case measure => simp [intOf]; omega
        · have dd1 : decide ((r1 : Int) < (tr : Int)) = false := by simp; omega
          clear hin hF hr1 hr2
          go_wp2_with fail
          go_quiet (fail)
          clear q1 q2 b4 b5 b6 b7 e1 e2
          go_wp2_with fail
          go_roundw
          case rel => exact ⟨s + 1, by omega, by go_num, below_drawn hB _, h0.drewN _, h1.drewN _, h2.drewN _, h3.drewN _, h4.drewN _, by rw [← HS.out]; exact h5.drewN _⟩
          case measure => simp [intOf]; omega
    · obtain rfl : s = n := by omega
      rw [← HL.out] at h5
      go_wp2_with (first | (refine wpList_toArr rfl _ _ rfl _ _ _ rfl _ 9 Try.underlying47 (by omega) ?_) | (refine wpList_load_all rfl 47 _ rfl (w.heap.size + 1 + 1 + 1 + 1 + 1) rfl _ _ _ h5 Try.underlying47 rfl 9 (by kernel_rfl) ((u8s_size _).trans hlen) ?_) | (refine wpList_store_all rfl 47 _ _ rfl rfl (w.heap.size + 1 + 1 + 1 + 1) rfl _ rfl _ _ h4 9 (by kernel_rfl) ((u8s_size _).trans hlen) (by simp [u8s]) (u8s_one _) ?_; intro w3 p3))
      refine bodyPost_ret (results_at rfl _ _ (w.heap.size + 1 + 1 + 1 + 1) _ _ _ rfl p3.at_ Try.underlying47 rfl 9 (by kernel_rfl) ((u8s_size _).trans hlen)) rfl ?_
      exact ⟨rfl, p3.below hB (by omega)⟩
end Go.Proofs.Ytelicajipilhjaa
