/-
  impl.TensorOfScheme, of a scheme. (Made by mktos2.py.)
-/
import Derived.Test.YtcndfakbenombaaTos1
namespace Go.Proofs.Ytcndfakbenombaa
open Go.RowKit
set_option maxRecDepth 100000
theorem tensorOfS_c (p a b c : Int) (A : Option Addr) (n cap : Nat) (w : World) : Calls Try.prog 33 #[.int .i64 p, .agg #[.int .i64 a, .int .i64 b, .int .i64 c], .slice A n cap] w fun e w' => e = .returned (.agg #[.int .i64 p, .int .i64 a, .int .i64 b, .int .i64 c, .slice A n cap]) ∧ Below w.heap.size w w' := by
  go_enter Try.func33, Try.ntmps33
  go_wp2_with fail
  refine bodyPost_ret (results_at rfl _ _ (w.heap.size + 1) _ _ _ rfl (al2_1 _ _ _) Try.underlying28 rfl 5 (by kernel_rfl) rfl) rfl ?_
  exact ⟨rfl, below2 _ _ _⟩
theorem arrForm : Try.prog.underlying 61 = some (.array (Try.prog.arrayLen 61) (Try.prog.elem 61)) := by kernel_rfl
theorem lenForm : Try.prog.arrayLen 61 = 9 := by kernel_rfl
theorem sizeFormE (w : World) : (sizeOf (Try.prog.elem 61)).run Try.prog w = .ok 1 w := by kernel_rfl
theorem exec_form_hi {o : Oper} {a : Act} {w : World} (x y : Operand) (ho : o.op = .slice 61 x none (some y) none) (g i : Nat) (hi : i ≤ 9) (hx : a.eval x = .pointer (some ⟨g, 0, none⟩)) (hy : a.eval y = .int .i64 (i : Int)) :
    (execOp a.eval o).run Try.prog w = .ok (.value (.slice (some ⟨g, 0, none⟩) i 9)) w := by
  have h := run_sliceAt_array_h (P := Try.prog) w 61 ⟨g, 0, none⟩ arrForm .i64 (i : Int) (by omega) (by rw [lenForm]; omega)
  rw [sizeFormE, lenForm] at h
  unfold execOp
  simp only [ho, Option.map_some, Option.map_none, hx, hy, Sem.run_bind, Result.andThen_ok, h]
  simp [slicedAt, add_none]
theorem OwnI.new_ne {w : World} {lo : Nat} {v : Value} {xs : List Int} (h : OwnI w lo v xs) : some w.heap.size ≠ v.ownBlock := fun e => by
  have := (h.lt e.symm).2
  omega
set_option maxHeartbeats 3200000 in
theorem implTos_y (P n m k : Nat) (A : Option Addr) (cap : Nat) (qs : List (List Nat)) (w : World) (hr : Rd w A qs) (hlen : qs.length ≤ 1048576) (hs : schemeB P n m k qs = true) :
    Calls Try.prog 9 #[.agg #[.int .i64 P, .int .i64 n, .int .i64 m, .int .i64 k, .slice A qs.length cap]] w (ResT w P (n * m : Nat) (m * k : Nat) (n * k : Nat) (tosL P (n * m) (m * k) (n * k) qs) 0) := by
  have h30 := schemeB_len hs
  obtain ⟨s0, s1, s2, s3⟩ := sizesB_parts (schemeB_sizes hs)
  have hP : 2 ≤ P ∧ P ≤ 5 := by have := prime_le5 s0; omega
  have hn : 1 ≤ n ∧ n ≤ 3 := by simp only [sizeB, Bool.and_eq_true, decide_eq_true_eq] at s1; omega
  have hm : 1 ≤ m ∧ m ≤ 3 := by simp only [sizeB, Bool.and_eq_true, decide_eq_true_eq] at s2; omega
  have hk : 1 ≤ k ∧ k ≤ 3 := by simp only [sizeB, Bool.and_eq_true, decide_eq_true_eq] at s3; omega
  have HP0 := Lib.hid (fun w => places_c n m w s1 s2)
  have HP1 := Lib.hid (fun w => places_c m k w s2 s3)
  have HP2 := Lib.hid (fun w => places_c n k w s1 s3)
  obtain ⟨N0, hN0⟩ : ∃ N, N = n * m := ⟨_, rfl⟩
  obtain ⟨N1, hN1⟩ : ∃ N, N = m * k := ⟨_, rfl⟩
  obtain ⟨N2, hN2⟩ : ∃ N, N = n * k := ⟨_, rfl⟩
  have l0 : 1 ≤ N0 ∧ N0 ≤ 9 := by rw [hN0]; exact ⟨Nat.mul_le_mul hn.1 hm.1, Nat.mul_le_mul hn.2 hm.2⟩
  have l1 : 1 ≤ N1 ∧ N1 ≤ 9 := by rw [hN1]; exact ⟨Nat.mul_le_mul hm.1 hk.1, Nat.mul_le_mul hm.2 hk.2⟩
  have l2 : 1 ≤ N2 ∧ N2 ≤ 9 := by rw [hN2]; exact ⟨Nat.mul_le_mul hn.1 hk.1, Nat.mul_le_mul hn.2 hk.2⟩
  have HI0 : Hid ((n : Int) * (m : Int) = (N0 : Int)) := Lib.hid (by rw [hN0]; simp)
  have HI1 : Hid ((m : Int) * (k : Int) = (N1 : Int)) := Lib.hid (by rw [hN1]; simp)
  have HI2 : Hid ((n : Int) * (k : Int) = (N2 : Int)) := Lib.hid (by rw [hN2]; simp)
  rw [← hN0, ← hN1, ← hN2]
  have HIs := Lib.hid (fun w' (hb : Below w.heap.size w w') => implIsScheme_c P n m k A cap qs w' (hr.keep hb) hlen)
  rw [hs] at HIs
  have HShp := Lib.hid (fun w => shapesOf_c P n m k (.slice A qs.length cap) w)
  have HPl := Lib.hid (fun w => boxPlaces_c N0 N1 N2 w (side_of l0) (side_of l1) (side_of l2))
  have hN : N0 * N1 * N2 ≤ 729 := places_729 l0.2 l1.2 l2.2
  obtain ⟨FS, hFS⟩ : ∃ F : Nat → Nat → Nat → Int, F = fun i j k => ((sumN qs i j k : Nat) : Int) := ⟨_, rfl⟩
  have HT : Hid (tosL P N0 N1 N2 qs = genL N1 N2 P FS (N0 * N1 * N2)) := Lib.hid (by rw [hFS]; rfl)
  have HLeft := Lib.hid (fun a b w' (ha : a < 9) (hb : b < 9) (h : Below w.heap.size w w') => leftSides_c P n m k A cap qs a b w' (by omega) hP.2 (hr.keep h) h30 ha hb)
  have HSB := Lib.hid (fun a b => sidesL_bytes (p := P) qs a b (by omega) (by omega))
  have HSG : Hid (∀ a b c, c < 9 → (((sidesL P qs a b)[c]?.getD 0 : Nat) : Int) = FS a b c % (P : Int)) := Lib.hid (fun a b c hc => by rw [sidesL_get _ _ _ _ hc, hFS]; simp)
  have HG : Hid (∀ (i j k : Nat), j < N1 → k < N2 → genL N1 N2 P FS ((i * N1 + j) * N2 + k) ++ [FS i j k % P] = genL N1 N2 P FS ((i * N1 + j) * N2 + (k + 1))) := Lib.hid (fun _ _ _ hj hk => genL_step hj hk)
  have HLt : Hid (∀ (i j k : Nat), i < N0 → j < N1 → k < N2 → (i * N1 + j) * N2 + k < N0 * N1 * N2) := Lib.hid (fun _ _ _ hi hj hk => place_lt hi hj hk)
  clear hr hs hN0 hN1 hN2 hFS s0 s1 s2 s3
  go_enter Try.func9, Try.ntmps9
  go_wp2_with (first | (refine wpList_abs2 ?_; intro W hsz hB h0 h1; have z0 : W.heap.size = w.heap.size + 1 + 1 := hsz; clear hsz) | (refine wpList_load_all rfl 33 _ rfl w.heap.size rfl _ _ _ h0 Try.underlying33 rfl 5 (by kernel_rfl) rfl ?_))
  refine (HIs.out _ hB).mono ?_
  rintro e w1 ⟨rfl, b1⟩
  replace hB := below_after hB b1
  replace h0 := h0.after b1
  replace h1 := h1.after b1
  have z1 : w.heap.size + 1 + 1 ≤ w1.heap.size := by have := b1.size; omega
  clear b1 z0
  go_wp2_with (first | (refine wpList_abs1 ?_; intro W2 hsz2 hB2 h4; have z2 : W2.heap.size = w1.heap.size + 1 := hsz2; replace h0 := h0.after hB2; replace h1 := h1.after hB2; replace hB := below_after hB hB2; clear hsz2 hB2) | (refine wpList_load_all rfl 33 _ rfl w.heap.size rfl _ _ _ h0 Try.underlying33 rfl 5 (by kernel_rfl) rfl ?_))
  obtain ⟨b4, hb4⟩ : ∃ b4, b4 = w1.heap.size := ⟨_, rfl⟩
  rw [← hb4] at h4 z1 ⊢
  clear hb4 z2
  refine (HShp.out _).mono ?_
  rintro e w2 ⟨rfl, b2⟩
  replace hB := below_after hB b2
  replace h0 := h0.after b2
  replace h1 := h1.after b2
  replace h4 := h4.after b2
  clear b2
  go_wp2_with fail
  go_loopw [19] (fun i wr => ∃ a : Nat, a ≤ 3 ∧ i = .int .i64 a ∧ w.heap.size + 1 + 1 ≤ b4 ∧ b4 < wr.heap.size ∧ Below w.heap.size w wr ∧ At wr w.heap.size (.cells #[.int .i64 P, .int .i64 n, .int .i64 m, .int .i64 k, .slice A qs.length cap] 33 (0, 0)) ∧ At wr (w.heap.size + 1) (.cells #[.int .i64 0, .int .i64 0, .int .i64 0, .int .i64 0, .slice none 0 0] 28 (0, 0)) ∧ ((a = 0 ∧ At wr b4 (.cells #[.int .i64 0, .int .i64 0, .int .i64 0] 54 (0, 0))) ∨ (a = 1 ∧ At wr b4 (.cells #[.int .i64 N0, .int .i64 0, .int .i64 0] 54 (0, 0))) ∨ (a = 2 ∧ At wr b4 (.cells #[.int .i64 N0, .int .i64 N1, .int .i64 0] 54 (0, 0))) ∨ (a = 3 ∧ At wr b4 (.cells #[.int .i64 N0, .int .i64 N1, .int .i64 N2] 54 (0, 0))))) (fun i _ => 3 - (intOf i).toNat)
  case atStart => exact ⟨0, by omega, rfl, z1, At.lt h4, hB, h0, h1, .inl ⟨rfl, h4⟩⟩
  case round =>
    clear hB h0 h1 h4 z1
    obtain ⟨a, ha, rfl, z3, z4, hB, h0, h1, ⟨rfl, h4⟩ | ⟨rfl, h4⟩ | ⟨rfl, h4⟩ | ⟨rfl, h4⟩⟩ := hrel
    · have z8 := h4.lt
      go_wp2_with (first | (refine wpList_of_exec rfl (exec_index_part 57 56 _ _ rfl 3 0 2 _ #[.int .i64 n, .int .i64 m] _ rfl rfl Try.underlying57 Try.underlying56 rfl (by kernel_rfl) (by omega) rfl) ?_) | (refine wpList_abs1 ?_; intro W2 hsz2 hB2 h6; have z7 : W2.heap.size = wr.heap.size + 1 := hsz2; replace h0 := h0.after hB2; replace h1 := h1.after hB2; replace h4 := h4.after hB2; replace hB := below_after hB hB2; clear hsz2 hB2) | (refine wpList_store_all rfl 56 _ _ rfl rfl wr.heap.size rfl _ rfl _ _ h6 2 (by kernel_rfl) rfl rfl (by simp [Value.oneCell']) ?_; intro W3 p3; replace h0 := p3.other h0 (by omega); replace h1 := p3.other h1 (by omega); replace h4 := p3.other h4 (by omega); replace hB := p3.below hB (by omega); replace h6 := p3.at_; clear p3) | (refine wpList_load_all rfl 56 _ rfl wr.heap.size rfl _ _ _ h6 Try.underlying56 rfl 2 (by kernel_rfl) rfl ?_))
      refine (HP0.out _).mono ?_
      rintro e w5 ⟨rfl, b5⟩
      rw [HI0.out]
      replace h0 := h0.after b5
      replace h1 := h1.after b5
      replace h4 := h4.after b5
      replace hB := below_after hB b5
      clear b5 h6
      have x0 : w5.cell? ⟨b4, 0, none⟩ = some (.int .i64 0) := h4.at_ 0
      have z9 := h4.free 0
      have z10 := h4.lt
      have p9 := Put.cell (i := 0) h4 (.int .i64 N0)
      go_wp2_with fail
      go_roundw
      case rel => exact ⟨1, by omega, rfl, z3, (p9.at_ : At _ _ _).lt, p9.below hB (by omega), p9.other h0 (by omega), p9.other h1 (by omega), .inr (.inl ⟨rfl, p9.at_⟩)⟩
      case measure => simp [intOf]
    · have z8 := h4.lt
      go_wp2_with (first | (refine wpList_of_exec rfl (exec_index_part 57 56 _ _ rfl 3 1 2 _ #[.int .i64 m, .int .i64 k] _ rfl rfl Try.underlying57 Try.underlying56 rfl (by kernel_rfl) (by omega) rfl) ?_) | (refine wpList_abs1 ?_; intro W2 hsz2 hB2 h6; have z7 : W2.heap.size = wr.heap.size + 1 := hsz2; replace h0 := h0.after hB2; replace h1 := h1.after hB2; replace h4 := h4.after hB2; replace hB := below_after hB hB2; clear hsz2 hB2) | (refine wpList_store_all rfl 56 _ _ rfl rfl wr.heap.size rfl _ rfl _ _ h6 2 (by kernel_rfl) rfl rfl (by simp [Value.oneCell']) ?_; intro W3 p3; replace h0 := p3.other h0 (by omega); replace h1 := p3.other h1 (by omega); replace h4 := p3.other h4 (by omega); replace hB := p3.below hB (by omega); replace h6 := p3.at_; clear p3) | (refine wpList_load_all rfl 56 _ rfl wr.heap.size rfl _ _ _ h6 Try.underlying56 rfl 2 (by kernel_rfl) rfl ?_))
      refine (HP1.out _).mono ?_
      rintro e w5 ⟨rfl, b5⟩
      rw [HI1.out]
      replace h0 := h0.after b5
      replace h1 := h1.after b5
      replace h4 := h4.after b5
      replace hB := below_after hB b5
      clear b5 h6
      have x0 : w5.cell? ⟨b4, 1, none⟩ = some (.int .i64 0) := h4.at_ 1
      have z9 := h4.free 1
      have z10 := h4.lt
      have p9 := Put.cell (i := 1) h4 (.int .i64 N1)
      go_wp2_with fail
      go_roundw
      case rel => exact ⟨2, by omega, rfl, z3, (p9.at_ : At _ _ _).lt, p9.below hB (by omega), p9.other h0 (by omega), p9.other h1 (by omega), .inr (.inr (.inl ⟨rfl, p9.at_⟩))⟩
      case measure => simp [intOf]
    · have z8 := h4.lt
      go_wp2_with (first | (refine wpList_of_exec rfl (exec_index_part 57 56 _ _ rfl 3 2 2 _ #[.int .i64 n, .int .i64 k] _ rfl rfl Try.underlying57 Try.underlying56 rfl (by kernel_rfl) (by omega) rfl) ?_) | (refine wpList_abs1 ?_; intro W2 hsz2 hB2 h6; have z7 : W2.heap.size = wr.heap.size + 1 := hsz2; replace h0 := h0.after hB2; replace h1 := h1.after hB2; replace h4 := h4.after hB2; replace hB := below_after hB hB2; clear hsz2 hB2) | (refine wpList_store_all rfl 56 _ _ rfl rfl wr.heap.size rfl _ rfl _ _ h6 2 (by kernel_rfl) rfl rfl (by simp [Value.oneCell']) ?_; intro W3 p3; replace h0 := p3.other h0 (by omega); replace h1 := p3.other h1 (by omega); replace h4 := p3.other h4 (by omega); replace hB := p3.below hB (by omega); replace h6 := p3.at_; clear p3) | (refine wpList_load_all rfl 56 _ rfl wr.heap.size rfl _ _ _ h6 Try.underlying56 rfl 2 (by kernel_rfl) rfl ?_))
      refine (HP2.out _).mono ?_
      rintro e w5 ⟨rfl, b5⟩
      rw [HI2.out]
      replace h0 := h0.after b5
      replace h1 := h1.after b5
      replace h4 := h4.after b5
      replace hB := below_after hB b5
      clear b5 h6
      have x0 : w5.cell? ⟨b4, 2, none⟩ = some (.int .i64 0) := h4.at_ 2
      have z9 := h4.free 2
      have z10 := h4.lt
      have p9 := Put.cell (i := 2) h4 (.int .i64 N2)
      go_wp2_with fail
      go_roundw
      case rel => exact ⟨3, by omega, rfl, z3, (p9.at_ : At _ _ _).lt, p9.below hB (by omega), p9.other h0 (by omega), p9.other h1 (by omega), .inr (.inr (.inr ⟨rfl, p9.at_⟩))⟩
      case measure => simp [intOf]
    · obtain ⟨w5, rfl⟩ : ∃ x : World, x = wr := ⟨_, rfl⟩
      go_wp2_with (refine wpList_load_all rfl 54 _ rfl b4 rfl _ _ _ h4 Try.underlying54 rfl 3 (by kernel_rfl) rfl ?_)
      refine (HPl.out _).mono ?_
      rintro e w6 ⟨rfl, b6⟩
      replace hB := below_after hB b6
      replace h0 := h0.after b6
      replace h1 := h1.after b6
      replace h4 := h4.after b6
      clear b6
      rw [← Int.natCast_mul, ← Int.natCast_mul]
      have z5 := h4.lt
      go_wp2_with (refine wpList_make0I rfl _ rfl _ _ rfl (N0 * N1 * N2) rfl rfl (by omega) ?_; intro w7 nn ho; have z6 := (nn.below (Below.refl _ _) (Nat.le_refl _)).size; replace hB := nn.below hB (by omega); replace h0 := nn.old h0; replace h1 := nn.old h1; replace h4 := nn.old h4; have c0 : w7.cell? ⟨b4, 0, none⟩ = some (.int .i64 N0) := h4.at_ 0; clear nn)
      generalize w6.heap.size = G at *
      clear c0 z4
      go_loopw [7, 33] (fun v i wr => ∃ a : Nat, a ≤ N0 ∧ i = .int .i64 a ∧ OwnI wr G v (genL N1 N2 P FS (a * N1 * N2)) ∧ b4 < G ∧ G ≤ wr.heap.size ∧ Below w.heap.size w wr ∧ At wr w.heap.size (.cells #[.int .i64 P, .int .i64 n, .int .i64 m, .int .i64 k, .slice A qs.length cap] 33 (0, 0)) ∧ At wr (w.heap.size + 1) (.cells #[.int .i64 0, .int .i64 0, .int .i64 0, .int .i64 0, .slice none 0 0] 28 (0, 0)) ∧ At wr b4 (.cells #[.int .i64 N0, .int .i64 N1, .int .i64 N2] 54 (0, 0))) (fun _ i _ => N0 - (intOf i).toNat)
      case atStart => exact ⟨0, by omega, rfl, by rw [Nat.zero_mul, Nat.zero_mul]; exact ho, z5, z6, hB, h0, h1, h4⟩
      case round =>
        clear ho z5 z6 hB h0 h1 h4
        obtain ⟨a, ha, rfl, ho, z5, z6, hB, h0, h1, h4⟩ := hrel
        obtain ⟨wa, rfl⟩ : ∃ x : World, x = wr := ⟨_, rfl⟩
        by_cases hlt : a < N0
        · have e0 : IntKind.i64.wrap ((a : Int) + 1) = (a : Int) + 1 := IntWalk.i64_in _ (by omega)
          have hlt' : (a : Int) < (N0 : Int) := by omega
          have c1 : wa.cell? ⟨b4, 1, none⟩ = some (.int .i64 N1) := h4.at_ 1
          go_wp2_with fail
          clear c1
          go_loopw [7, 38] (fun v i wr => ∃ b : Nat, b ≤ N1 ∧ i = .int .i64 b ∧ OwnI wr G v (genL N1 N2 P FS ((a * N1 + b) * N2)) ∧ b4 < G ∧ G ≤ wr.heap.size ∧ Below w.heap.size w wr ∧ At wr w.heap.size (.cells #[.int .i64 P, .int .i64 n, .int .i64 m, .int .i64 k, .slice A qs.length cap] 33 (0, 0)) ∧ At wr (w.heap.size + 1) (.cells #[.int .i64 0, .int .i64 0, .int .i64 0, .int .i64 0, .slice none 0 0] 28 (0, 0)) ∧ At wr b4 (.cells #[.int .i64 N0, .int .i64 N1, .int .i64 N2] 54 (0, 0))) (fun _ i _ => N1 - (intOf i).toNat)
          case atStart => exact ⟨0, by omega, rfl, by rw [Nat.add_zero]; exact ho, z5, z6, hB, h0, h1, h4⟩
          case round =>
            clear ho z5 z6 hB h0 h1 h4
            obtain ⟨b, hb, rfl, ho, z5, z6, hB, h0, h1, h4⟩ := hrel
            obtain ⟨wb, rfl⟩ : ∃ x : World, x = wr := ⟨_, rfl⟩
            by_cases hlt2 : b < N1
            · have e1 : IntKind.i64.wrap ((b : Int) + 1) = (b : Int) + 1 := IntWalk.i64_in _ (by omega)
              have hlt2' : (b : Int) < (N1 : Int) := by omega
              have HC := Lib.hid (fun w' => HLeft.out a b w' (by omega) (by omega))
              have hS := HSB.out a b
              have HS := Lib.hid (HSG.out a b)
              generalize sidesL P qs a b = S at *
              go_upto_region 16 with (fail)
              go_wp2_with (refine wpList_load_all rfl 33 _ rfl w.heap.size rfl _ _ _ h0 Try.underlying33 rfl 5 (by kernel_rfl) rfl ?_)
              refine (HC.out _ hB).mono ?_
              rintro e w8 ⟨rfl, b8⟩
              have z7 : G ≤ w8.heap.size := Nat.le_trans z6 b8.size
              replace hB := below_after hB b8
              replace h0 := h0.after b8
              replace h1 := h1.after b8
              replace h4 := h4.after b8
              replace ho := ho.below b8
              clear b8 z6
              go_wp2_with (first | (refine wpList_abs1 ?_; intro W2 hsz2 hB2 h6; have z8 : W2.heap.size = w8.heap.size + 1 := hsz2; replace h0 := h0.after hB2; replace h1 := h1.after hB2; replace h4 := h4.after hB2; have na := ho.new_ne; replace ho := ho.below hB2; replace hB := below_after hB hB2; clear hsz2 hB2; replace h6 : At W2 w8.heap.size (.cells (u8s (List.replicate 9 0)) 61 (0, 0)) := h6) | (refine wpList_store_u8s rfl 61 _ _ rfl rfl w8.heap.size 0 rfl S rfl _ _ h6 9 (by kernel_rfl) hS.len (by simp) ?_; intro W3 p3; replace h0 := p3.other h0 (by omega); replace h1 := p3.other h1 (by omega); replace h4 := p3.other h4 (by omega); replace ho := ho.put p3 na; replace hB := p3.below hB (by omega); replace h6 := p3.at_; rw [over_all (by rw [hS.len]; simp)] at h6; have z9 : w8.heap.size < W3.heap.size := h6.lt; have c2 : W3.cell? ⟨b4, 2, none⟩ = some (.int .i64 N2) := h4.at_ 2; clear p3) | (refine wpList_of_exec rfl (exec_form_hi _ _ rfl w8.heap.size N2 l2.2 rfl rfl) ?_))
              clear z8
              obtain ⟨bl, hbl⟩ : ∃ bl, bl = w8.heap.size := ⟨_, rfl⟩
              rw [← hbl] at h6 z9 na z7 ⊢
              clear hbl c2
              go_loopw [7, 49] (fun v i wr => ∃ c : Nat, c ≤ N2 ∧ i = .int .i64 c ∧ OwnI wr G v (genL N1 N2 P FS ((a * N1 + b) * N2 + c)) ∧ b4 < G ∧ G ≤ bl ∧ bl < wr.heap.size ∧ Below w.heap.size w wr ∧ At wr w.heap.size (.cells #[.int .i64 P, .int .i64 n, .int .i64 m, .int .i64 k, .slice A qs.length cap] 33 (0, 0)) ∧ At wr (w.heap.size + 1) (.cells #[.int .i64 0, .int .i64 0, .int .i64 0, .int .i64 0, .slice none 0 0] 28 (0, 0)) ∧ At wr b4 (.cells #[.int .i64 N0, .int .i64 N1, .int .i64 N2] 54 (0, 0)) ∧ At wr bl (.cells (u8s S) 61 (0, 0)) ∧ some bl ≠ v.ownBlock) (fun _ i _ => N2 - (intOf i).toNat)
              case atStart => exact ⟨0, by omega, rfl, by rw [Nat.add_zero]; exact ho, z5, z7, z9, hB, h0, h1, h4, h6, na⟩
              case round =>
                clear ho z7 z9 hB h0 h1 h4 h6 na
                obtain ⟨c, hc, rfl, ho, z5, z7, z9, hB, h0, h1, h4, h6, na⟩ := hrel
                obtain ⟨wc, rfl⟩ : ∃ x : World, x = wr := ⟨_, rfl⟩
                by_cases hlt3 : c < N2
                · have e2 : IntKind.i64.wrap ((c : Int) + 1) = (c : Int) + 1 := IntWalk.i64_in _ (by omega)
                  have hlt3' : (c : Int) < (N2 : Int) := by omega
                  have c3 := h6.cell (i := c) (by rw [hS.len]; omega)
                  have hx := hS.lt c
                  have hv := HS.out c (by omega)
                  have HGs := Lib.hid (HG.out a b c hlt2 hlt3)
                  have HLs := HLt.out a b c hlt hlt2 hlt3
                  have hlen : (genL N1 N2 P FS ((a * N1 + b) * N2 + c)).length ≤ 1000000 := by rw [genL_len]; omega
                  generalize S[c]?.getD 0 = x at *
                  rw [← hv] at HGs
                  have e3 : IntKind.i64.wrap (x : Int) = (x : Int) := IntWalk.i64_in _ (by omega)
                  generalize genL N1 N2 P FS ((a * N1 + b) * N2 + c) = ys at *
                  clear hv HLs
                  go_wp2_with (first | (refine wpList_bsi1 rfl _ rfl _ rfl (x : Int) rfl ?_; intro w4 nn; have b4' := nn.below (Below.refl _ _) (Nat.le_refl _); have z4 : wc.heap.size ≤ w4.heap.size := b4'.size; have hB4 := below_after hB b4'; have h04 := h0.after b4'; have h14 := h1.after b4'; have h44 := h4.after b4'; have h64 := h6.after b4'; have ho4 := ho.below b4'; have hn4 := nn.at_; clear nn b4') | (at_builtin; refine wpList_appI rfl _ rfl _ _ rfl _ ys (x : Int) rfl ho4 _ rfl hn4 hlen (by omega) ?_; intro v5 w5' ho5 gr5; have hB5 := hB4.grown gr5 (Below.size hB4) (fun k hk => by have := (ho4.lt hk).1; omega); have z5' : w4.heap.size ≤ w5'.heap.size := gr5.size; have h05 := At.grown h04 gr5 (fun e => by have := (ho4.lt e.symm).1; omega); have h15 := At.grown h14 gr5 (fun e => by have := (ho4.lt e.symm).1; omega); have h45 := At.grown h44 gr5 (fun e => by have := (ho4.lt e.symm).1; omega); have h65 := At.grown h64 gr5 na; have nb := ho5.off h65 (by decide)))
                  go_roundw
                  case rel => exact ⟨c + 1, by omega, by go_num, by rw [← HGs.out]; exact ho5, z5, z7, by omega, hB5, h05, h15, h45, h65, nb⟩
                  case measure => simp [intOf]; omega
                · obtain rfl : c = N2 := by omega
                  go_wp2_with fail
                  go_roundw
                  case rel => exact ⟨b + 1, by omega, by go_num, by rw [← Nat.add_assoc, Nat.add_mul (a * N1 + b), Nat.one_mul]; exact ho, z5, by omega, hB, h0, h1, h4⟩
                  case measure => simp [intOf]; omega
            · obtain rfl : b = N1 := by omega
              go_wp2_with fail
              go_roundw
              case rel => exact ⟨a + 1, by omega, by go_num, by rw [Nat.add_mul a 1, Nat.one_mul]; exact ho, z5, z6, hB, h0, h1, h4⟩
              case measure => simp [intOf]; omega
        · obtain rfl : a = N0 := by omega
          obtain ⟨A5, c5, rfl, _⟩ := ho.rd
          have x0 : wa.cell? ⟨w.heap.size, 0, none⟩ = some (.int .i64 P) := h0.at_ 0
          go_wp2_with (refine wpList_load_all rfl 54 _ rfl b4 rfl _ _ _ h4 Try.underlying54 rfl 3 (by kernel_rfl) rfl ?_)
          refine (tensorOfS_c P a N1 N2 A5 _ c5 _).mono ?_
          rintro e w9 ⟨rfl, b9⟩
          replace hB := below_after hB b9
          replace h1 := h1.after b9
          replace ho := ho.below b9
          go_wp2_with (refine wpList_store_all rfl 28 _ _ rfl rfl (w.heap.size + 1) rfl _ rfl _ _ h1 5 (by kernel_rfl) rfl rfl (by simp [Value.oneCell']) ?_; intro wx px)
          refine bodyPost_ret (results_at2 rfl _ _ (w.heap.size + 1) _ _ _ rfl _ rfl px.at_ Try.underlying28 rfl 5 (by kernel_rfl) rfl) rfl ?_
          exact ⟨_, rfl, by rw [HT.out]; exact (ho.put px (fun e => by have := (ho.lt e.symm).1; omega)).mono (by omega), px.below hB (by omega)⟩
end Go.Proofs.Ytcndfakbenombaa
