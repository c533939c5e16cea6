/-
  impl.tensorOfProducts. (Made by mktop.py.)
-/
import Derived.Test.YtbahcbmmkbokgaaLeft2
import Derived.Test.YtbahcbmmkbokgaaTen6
namespace Go.Proofs.Ytbahcbmmkbokgaa
open Go.RowKit
set_option maxRecDepth 100000
/-- The numbers of the tensor of products. -/
def topL (p : Int) (n0 n1 n2 : Nat) (qs : List (List Nat)) : List Int := genL n1 n2 p (fun i j k => ((sumN qs i j k : Nat) : Int)) (n0 * n1 * n2)
theorem topL_len (p : Int) (n0 n1 n2 : Nat) (qs : List (List Nat)) : (topL p n0 n1 n2 qs).length = n0 * n1 * n2 := genL_len _ _ _ _ _
theorem sideP_of {n : Nat} (h : 1 ≤ n ∧ n ≤ 9) : sideB (n : Int) = true := by simp [sideB]; omega
theorem tensorOfP_c (p a b c : Int) (A : Option Addr) (n cap : Nat) (w : World) : Calls Try.prog 61 #[.int .i64 p, .agg #[.int .i64 a, .int .i64 b, .int .i64 c], .slice A n cap] w fun e w' => e = .returned (.agg #[.int .i64 p, .int .i64 a, .int .i64 b, .int .i64 c, .slice A n cap]) ∧ Below w.heap.size w w' := by
  go_enter Try.func61, Try.ntmps61
  go_wp2_with fail
  refine bodyPost_ret (results_at rfl _ _ (w.heap.size + 1) _ _ _ rfl (al2_1 _ _ _) Try.underlying28 rfl 5 (by kernel_rfl) rfl) rfl ?_
  exact ⟨rfl, below2 _ _ _⟩
theorem arrFormP : Try.prog.underlying 59 = some (.array (Try.prog.arrayLen 59) (Try.prog.elem 59)) := by kernel_rfl
theorem lenFormP : Try.prog.arrayLen 59 = 9 := by kernel_rfl
theorem sizeFormEP (w : World) : (sizeOf (Try.prog.elem 59)).run Try.prog w = .ok 1 w := by kernel_rfl
theorem exec_form_hiP {o : Oper} {a : Act} {w : World} (x y : Operand) (ho : o.op = .slice 59 x none (some y) none) (g i : Nat) (hi : i ≤ 9) (hx : a.eval x = .pointer (some ⟨g, 0, none⟩)) (hy : a.eval y = .int .i64 (i : Int)) :
    (execOp a.eval o).run Try.prog w = .ok (.value (.slice (some ⟨g, 0, none⟩) i 9)) w := by
  have h := run_sliceAt_array_h (P := Try.prog) w 59 ⟨g, 0, none⟩ arrFormP .i64 (i : Int) (by omega) (by rw [lenFormP]; omega)
  rw [sizeFormEP, lenFormP] at h
  unfold execOp
  simp only [ho, Option.map_some, Option.map_none, hx, hy, Sem.run_bind, Result.andThen_ok, h]
  simp [slicedAt, add_none]

theorem OwnI.newP_ne {w : World} {lo : Nat} {v : Value} {xs : List Int} (h : OwnI w lo v xs) : some w.heap.size ≠ v.ownBlock := fun e => by
  have := (h.lt e.symm).2
  omega
theorem OwnI.putP {w w' : World} {lo g : Nat} {v : Value} {xs : List Int} {o : Obj} (h : OwnI w lo v xs) (hp : Put w w' g o) (hne : some g ≠ v.ownBlock) : OwnI w' lo v xs := by
  refine ⟨h.1, ?_⟩
  rcases h.2 with hn | ⟨g2, cap, cur, rfl, hb, hgg, rest⟩
  · exact .inl hn
  · exact .inr ⟨g2, cap, cur, rfl, hb, hp.other (k := g2) hgg (fun e => hne (by simp [Value.ownBlock, e])), rest⟩
set_option maxHeartbeats 3200000 in
theorem tensorOfProducts_c (P N0 N1 N2 : Nat) (A : Option Addr) (cap : Nat) (qs : List (List Nat)) (w : World) (hr : Rd w A qs) (h30 : qs.length ≤ 1000000) (hP : 2 ≤ P ∧ P ≤ 5) (l0 : 1 ≤ N0 ∧ N0 ≤ 9) (l1 : 1 ≤ N1 ∧ N1 ≤ 9) (l2 : 1 ≤ N2 ∧ N2 ≤ 9) :
    Calls Try.prog 50 #[.int .i64 P, .agg #[.int .i64 N0, .int .i64 N1, .int .i64 N2], .slice A qs.length cap] w fun e w' => ∃ v, e = .returned (.agg #[.int .i64 P, .int .i64 N0, .int .i64 N1, .int .i64 N2, v]) ∧ OwnI w' w.heap.size v (topL P N0 N1 N2 qs) ∧ Below w.heap.size w w' := by
  have HPl := Lib.hid (fun w => boxPlaces_c N0 N1 N2 w (sideP_of l0) (sideP_of l1) (sideP_of l2))
  have hN : N0 * N1 * N2 ≤ 729 := places_729 l0.2 l1.2 l2.2
  obtain ⟨FS, hFS⟩ : ∃ F : Nat → Nat → Nat → Int, F = fun i j k => ((sumN qs i j k : Nat) : Int) := ⟨_, rfl⟩
  have HT : Hid (topL P N0 N1 N2 qs = genL N1 N2 P FS (N0 * N1 * N2)) := Lib.hid (by rw [hFS]; rfl)
  have HLeft := Lib.hid (fun a b w' (ha : a < 9) (hb : b < 9) (h : Below w.heap.size w w') => sumsAt_c P A cap qs a b w' (by omega) hP.2 (hr.keep h) h30 ha hb)
  have HSB := Lib.hid (fun a b => sidesL_bytes (p := P) qs a b (by omega) (by omega))
  have HSG : Hid (∀ a b c, c < 9 → (((sidesL P qs a b)[c]?.getD 0 : Nat) : Int) = FS a b c % (P : Int)) := Lib.hid (fun a b c hc => by rw [sidesL_get _ _ _ _ hc, hFS]; simp)
  have HG : Hid (∀ (i j k : Nat), j < N1 → k < N2 → genL N1 N2 P FS ((i * N1 + j) * N2 + k) ++ [FS i j k % P] = genL N1 N2 P FS ((i * N1 + j) * N2 + (k + 1))) := Lib.hid (fun _ _ _ hj hk => genL_step hj hk)
  have HLt : Hid (∀ (i j k : Nat), i < N0 → j < N1 → k < N2 → (i * N1 + j) * N2 + k < N0 * N1 * N2) := Lib.hid (fun _ _ _ hi hj hk => place_lt hi hj hk)
  clear hr hFS
  go_enter Try.func50, Try.ntmps50
  go_wp2_with (first | (refine wpList_abs2 ?_; intro W hsz hB h4 h1) | (refine wpList_load_all rfl 75 _ rfl w.heap.size rfl _ _ _ h4 Try.underlying75 rfl 3 (by kernel_rfl) rfl ?_))
  refine (HPl.out _).mono ?_
  rintro e w6 ⟨rfl, b6⟩
  have z5 : w.heap.size + 1 + 1 ≤ w6.heap.size := by have := b6.size; rw [hsz] at this; exact this
  replace hB := below_after hB b6
  replace h1 := h1.after b6
  replace h4 := h4.after b6
  clear b6 hsz
  rw [← Int.natCast_mul, ← Int.natCast_mul]
  go_wp2_with (refine wpList_make0I rfl _ rfl _ _ rfl (N0 * N1 * N2) rfl rfl (by omega) ?_; intro w7 nn ho; have z6 := (nn.below (Below.refl _ _) (Nat.le_refl _)).size; replace hB := nn.below hB (by omega); replace h1 := nn.old h1; replace h4 := nn.old h4; have c0 : w7.cell? ⟨w.heap.size, 0, none⟩ = some (.int .i64 N0) := h4.at_ 0; clear nn)
  generalize w6.heap.size = G at *
  clear c0
  replace z5 : w.heap.size + 1 < G := z5
  go_loopw [7, 18] (fun v i wr => ∃ a : Nat, a ≤ N0 ∧ i = .int .i64 a ∧ OwnI wr G v (genL N1 N2 P FS (a * N1 * N2)) ∧ w.heap.size + 1 < G ∧ G ≤ wr.heap.size ∧ Below w.heap.size w wr ∧ At wr (w.heap.size + 1) (.cells #[.int .i64 0, .int .i64 0, .int .i64 0, .int .i64 0, .slice none 0 0] 28 (0, 0)) ∧ At wr w.heap.size (.cells #[.int .i64 N0, .int .i64 N1, .int .i64 N2] 75 (0, 0))) (fun _ i _ => N0 - (intOf i).toNat)
  case atStart => exact ⟨0, by omega, rfl, by rw [Nat.zero_mul, Nat.zero_mul]; exact ho, z5, z6, hB, h1, h4⟩
  case round =>
    clear ho z5 z6 hB h1 h4
    obtain ⟨a, ha, rfl, ho, z5, z6, hB, h1, h4⟩ := hrel
    obtain ⟨wa, rfl⟩ : ∃ x : World, x = wr := ⟨_, rfl⟩
    by_cases hlt : a < N0
    · have e0 : IntKind.i64.wrap ((a : Int) + 1) = (a : Int) + 1 := IntWalk.i64_in _ (by omega)
      have hlt' : (a : Int) < (N0 : Int) := by omega
      have c1 : wa.cell? ⟨w.heap.size, 1, none⟩ = some (.int .i64 N1) := h4.at_ 1
      go_wp2_with fail
      clear c1
      go_loopw [7, 23] (fun v i wr => ∃ b : Nat, b ≤ N1 ∧ i = .int .i64 b ∧ OwnI wr G v (genL N1 N2 P FS ((a * N1 + b) * N2)) ∧ w.heap.size + 1 < G ∧ G ≤ wr.heap.size ∧ Below w.heap.size w wr ∧ At wr (w.heap.size + 1) (.cells #[.int .i64 0, .int .i64 0, .int .i64 0, .int .i64 0, .slice none 0 0] 28 (0, 0)) ∧ At wr w.heap.size (.cells #[.int .i64 N0, .int .i64 N1, .int .i64 N2] 75 (0, 0))) (fun _ i _ => N1 - (intOf i).toNat)
      case atStart => exact ⟨0, by omega, rfl, by rw [Nat.add_zero]; exact ho, z5, z6, hB, h1, h4⟩
      case round =>
        clear ho z5 z6 hB h1 h4
        obtain ⟨b, hb, rfl, ho, z5, z6, hB, h1, h4⟩ := hrel
        obtain ⟨wb, rfl⟩ : ∃ x : World, x = wr := ⟨_, rfl⟩
        by_cases hlt2 : b < N1
        · have e1 : IntKind.i64.wrap ((b : Int) + 1) = (b : Int) + 1 := IntWalk.i64_in _ (by omega)
          have hlt2' : (b : Int) < (N1 : Int) := by omega
          have HC := Lib.hid (fun w' => HLeft.out a b w' (by omega) (by omega))
          have hS := HSB.out a b
          have HS := Lib.hid (HSG.out a b)
          generalize sidesL P qs a b = S at *
          go_wp2_with fail
          refine (HC.out _ hB).mono ?_
          rintro e w8 ⟨rfl, b8⟩
          have z7 : G ≤ w8.heap.size := Nat.le_trans z6 b8.size
          replace hB := below_after hB b8
          replace h1 := h1.after b8
          replace h4 := h4.after b8
          replace ho := ho.below b8
          clear b8 z6
          go_wp2_with (first | (refine wpList_abs1 ?_; intro W2 hsz2 hB2 h6; have z8 : W2.heap.size = w8.heap.size + 1 := hsz2; replace h1 := h1.after hB2; replace h4 := h4.after hB2; have na := ho.newP_ne; replace ho := ho.below hB2; replace hB := below_after hB hB2; clear hsz2 hB2; replace h6 : At W2 w8.heap.size (.cells (u8s (List.replicate 9 0)) 59 (0, 0)) := h6) | (refine wpList_store_u8s rfl 59 _ _ rfl rfl w8.heap.size 0 rfl S rfl _ _ h6 9 (by kernel_rfl) hS.len (by simp) ?_; intro W3 p3; replace h1 := p3.other h1 (by omega); replace h4 := p3.other h4 (by omega); replace ho := ho.putP p3 na; replace hB := p3.below hB (by omega); replace h6 := p3.at_; rw [over_all (by rw [hS.len]; simp)] at h6; have z9 : w8.heap.size < W3.heap.size := h6.lt; have c2 : W3.cell? ⟨w.heap.size, 2, none⟩ = some (.int .i64 N2) := h4.at_ 2; clear p3) | (refine wpList_of_exec rfl (exec_form_hiP _ _ rfl w8.heap.size N2 l2.2 rfl rfl) ?_))
          clear z8
          obtain ⟨bl, hbl⟩ : ∃ bl, bl = w8.heap.size := ⟨_, rfl⟩
          rw [← hbl] at h6 z9 na z7 ⊢
          clear hbl c2
          go_loopw [7, 35] (fun v i wr => ∃ c : Nat, c ≤ N2 ∧ i = .int .i64 c ∧ OwnI wr G v (genL N1 N2 P FS ((a * N1 + b) * N2 + c)) ∧ w.heap.size + 1 < G ∧ G ≤ bl ∧ bl < wr.heap.size ∧ Below w.heap.size w wr ∧ At wr (w.heap.size + 1) (.cells #[.int .i64 0, .int .i64 0, .int .i64 0, .int .i64 0, .slice none 0 0] 28 (0, 0)) ∧ At wr w.heap.size (.cells #[.int .i64 N0, .int .i64 N1, .int .i64 N2] 75 (0, 0)) ∧ At wr bl (.cells (u8s S) 59 (0, 0)) ∧ some bl ≠ v.ownBlock) (fun _ i _ => N2 - (intOf i).toNat)
          case atStart => exact ⟨0, by omega, rfl, by rw [Nat.add_zero]; exact ho, z5, z7, z9, hB, h1, h4, h6, na⟩
          case round =>
            clear ho z7 z9 hB h1 h4 h6 na
            obtain ⟨c, hc, rfl, ho, z5, z7, z9, hB, h1, h4, h6, na⟩ := hrel
            obtain ⟨wc, rfl⟩ : ∃ x : World, x = wr := ⟨_, rfl⟩
            by_cases hlt3 : c < N2
            · have e2 : IntKind.i64.wrap ((c : Int) + 1) = (c : Int) + 1 := IntWalk.i64_in _ (by omega)
              have hlt3' : (c : Int) < (N2 : Int) := by omega
              have c3 := h6.cell (i := c) (by rw [hS.len]; omega)
              have hx := hS.lt c
              have hv := HS.out c (by omega)
              have HGs := Lib.hid (HG.out a b c hlt2 hlt3)
              have HLs := HLt.out a b c hlt hlt2 hlt3
              have hlen : (genL N1 N2 P FS ((a * N1 + b) * N2 + c)).length ≤ 1000000 := by rw [genL_len]; omega
              generalize S[c]?.getD 0 = x at *
              rw [← hv] at HGs
              have e3 : IntKind.i64.wrap (x : Int) = (x : Int) := IntWalk.i64_in _ (by omega)
              generalize genL N1 N2 P FS ((a * N1 + b) * N2 + c) = ys at *
              clear hv HLs
              go_wp2_with (first | (refine wpList_bsi1 rfl _ rfl _ rfl (x : Int) rfl ?_; intro w4 nn; have b4' := nn.below (Below.refl _ _) (Nat.le_refl _); have z4 : wc.heap.size ≤ w4.heap.size := b4'.size; have hB4 := below_after hB b4'; have h14 := h1.after b4'; have h44 := h4.after b4'; have h64 := h6.after b4'; have ho4 := ho.below b4'; have hn4 := nn.at_; clear nn b4') | (at_builtin; refine wpList_appI rfl _ rfl _ _ rfl _ ys (x : Int) rfl ho4 _ rfl hn4 hlen (by omega) ?_; intro v5 w5' ho5 gr5; have hB5 := hB4.grown gr5 (Below.size hB4) (fun k hk => by have := (ho4.lt hk).1; omega); have z5' : w4.heap.size ≤ w5'.heap.size := gr5.size; have h15 := At.grown h14 gr5 (fun e => by have := (ho4.lt e.symm).1; omega); have h45 := At.grown h44 gr5 (fun e => by have := (ho4.lt e.symm).1; omega); have h65 := At.grown h64 gr5 na; have nb := ho5.off h65 (by decide)))
              go_roundw
              case rel => exact ⟨c + 1, by omega, by go_num, by rw [← HGs.out]; exact ho5, z5, z7, by omega, hB5, h15, h45, h65, nb⟩
              case measure => simp [intOf]; omega
            · obtain rfl : c = N2 := by omega
              go_wp2_with fail
              go_roundw
              case rel => exact ⟨b + 1, by omega, by go_num, by rw [← Nat.add_assoc, Nat.add_mul (a * N1 + b), Nat.one_mul]; exact ho, z5, by omega, hB, h1, h4⟩
              case measure => simp [intOf]; omega
        · obtain rfl : b = N1 := by omega
          go_wp2_with fail
          go_roundw
          case rel => exact ⟨a + 1, by omega, by go_num, by rw [Nat.add_mul a 1, Nat.one_mul]; exact ho, z5, z6, hB, h1, h4⟩
          case measure => simp [intOf]; omega
    · obtain rfl : a = N0 := by omega
      obtain ⟨A5, c5, rfl, _⟩ := ho.rd
      go_wp2_with (refine wpList_load_all rfl 75 _ rfl w.heap.size rfl _ _ _ h4 Try.underlying75 rfl 3 (by kernel_rfl) rfl ?_)
      refine (tensorOfP_c P a N1 N2 A5 _ c5 _).mono ?_
      rintro e w9 ⟨rfl, b9⟩
      replace hB := below_after hB b9
      replace h1 := h1.after b9
      replace ho := ho.below b9
      go_wp2_with (refine wpList_store_all rfl 28 _ _ rfl rfl (w.heap.size + 1) rfl _ rfl _ _ h1 5 (by kernel_rfl) rfl rfl (by simp [Value.oneCell']) ?_; intro wx px)
      refine bodyPost_ret (results_at rfl _ _ (w.heap.size + 1) _ _ _ rfl px.at_ Try.underlying28 rfl 5 (by kernel_rfl) rfl) rfl ?_
      exact ⟨_, rfl, by rw [HT.out]; exact (ho.putP px (fun e => by have := (ho.lt e.symm).1; omega)).mono (by omega), px.below hB (by omega)⟩
end Go.Proofs.Ytbahcbmmkbokgaa
