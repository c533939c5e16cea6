/-
  Rows that are parts of one list; impl.clearColumn at numbers. (Made by mkrk1.py.)
-/
import Derived.Test.YtebmkmkhfhmfbaaSl5
import Derived.Test.YtebmkmkhfhmfbaaHeldT
import Derived.Test.YtebmkmkhfhmfbaaRk0
namespace Go.Proofs.Ytebmkmkhfhmfbaa
open Go.RowKit
set_option maxRecDepth 100000
attribute [local irreducible] wpList
/-- Rows that are parts of one list, none of which meets another. -/
structure TabP (cs D : Array Value) (G : Nat) (of : Nat → Nat) (n C : Nat) (R : Nat → List Int) : Prop where
  cell : ∀ i, i < n → cs[i]? = some (.slice (some ⟨G, of i, none⟩) C C)
  num : ∀ i, i < n → ∀ (t : Nat) (X : Int), (R i)[t]? = some X → D[of i + t]? = some (.int .i64 X)
  len : ∀ i, i < n → (R i).length = C
  dis : ∀ i j, i < n → j < n → i ≠ j → of i + C ≤ of j ∨ of j + C ≤ of i
section
variable {cs D : Array Value} {G n C : Nat} {of : Nat → Nat} {R : Nat → List Int}
theorem TabP.swap {a b : Nat} (h : TabP cs D G of n C R) (ha : a < n) (hb : b < n) :
    TabP ((cs.setIfInBounds a (.slice (some ⟨G, of b, none⟩) C C)).setIfInBounds b (.slice (some ⟨G, of a, none⟩) C C)) D G (fun i => if i = b then of a else if i = a then of b else of i) n C (swp R a b) := by
  have la := (Array.getElem?_eq_some_iff.1 (h.cell a ha)).1
  have lb := (Array.getElem?_eq_some_iff.1 (h.cell b hb)).1
  refine ⟨fun i hi => ?_, fun i hi t X hX => ?_, fun i hi => ?_, fun i j hi hj hij => ?_⟩
  · by_cases e : i = b
    · subst e
      simp only [if_true]
      rw [Array.getElem?_setIfInBounds_self_of_lt (by simpa using lb)]
    · simp only [if_neg e]
      rw [Array.getElem?_setIfInBounds_ne (fun h9 => e h9.symm)]
      by_cases e2 : i = a
      · subst e2
        simp only [if_true]
        rw [Array.getElem?_setIfInBounds_self_of_lt la]
      · simp only [if_neg e2]
        rw [Array.getElem?_setIfInBounds_ne (fun h9 => e2 h9.symm)]
        exact h.cell i hi
  · unfold swp at hX
    by_cases e : i = b
    · simp only [if_pos e] at hX ⊢
      exact h.num a ha t X hX
    · by_cases e2 : i = a
      · simp only [if_neg e, if_pos e2] at hX ⊢
        exact h.num b hb t X hX
      · simp only [if_neg e, if_neg e2] at hX ⊢
        exact h.num i hi t X hX
  · unfold swp
    split
    · exact h.len a ha
    · split
      · exact h.len b hb
      · exact h.len i hi
  · have key : ∀ x y, x < n → y < n → x ≠ y → of x + C ≤ of y ∨ of y + C ≤ of x := h.dis
    by_cases e : i = b <;> by_cases e2 : j = b <;> by_cases e3 : i = a <;> by_cases e4 : j = a <;> simp only [e, e2, e3, e4, if_false, if_pos] <;> first | (apply key <;> omega) | omega | skip
    all_goals (repeat (split; try omega))
    all_goals first | (apply key <;> omega) | omega
theorem TabP.set {k t : Nat} (h : TabP cs D G of n C R) (hk : k < n) (ht : t < C) (X : Int) : TabP cs (D.setIfInBounds (of k + t) (.int .i64 X)) G of n C (updR R k ((R k).set t X)) := by
  have hl := h.len k hk
  have hs := (Array.getElem?_eq_some_iff.1 (h.num k hk t _ (List.getElem?_eq_getElem (by omega)))).1
  refine ⟨h.cell, fun i hi t' X' hX => ?_, fun i hi => ?_, h.dis⟩
  · unfold updR at hX
    by_cases e : i = k
    · subst e
      rw [if_pos rfl] at hX
      by_cases e2 : t = t'
      · subst e2
        rw [List.getElem?_set_self (by omega)] at hX
        simp only [Option.some.injEq] at hX
        subst hX
        rw [Array.getElem?_setIfInBounds_self_of_lt hs]
      · rw [List.getElem?_set_ne e2] at hX
        rw [Array.getElem?_setIfInBounds_ne (by omega)]
        exact h.num i hi t' X' hX
    · rw [if_neg e] at hX
      have h1 := h.dis i k hi hk e
      have h2 : t' < C := by
        have h3 := (List.getElem?_eq_some_iff.1 hX).1
        have h4 := h.len i hi
        omega
      rw [Array.getElem?_setIfInBounds_ne (by omega)]
      exact h.num i hi t' X' hX
  · unfold updR
    split
    · next e => rw [List.length_set]; exact hl
    · exact h.len i hi
end
theorem Put.trans {w w' w'' : World} {g : Nat} {o o' : Obj} (h : Put w w' g o) (h' : Put w' w'' g o') : Put w w'' g o' :=
  ⟨h'.at_, fun hx hk => h'.other (h.other hx hk) hk, fun hs => h'.size (h.size hs), fun hb hB => h'.below (h.below hb hB) hB⟩
theorem Put.drewP {w w' : World} {g : Nat} {o : Obj} (h : Put w w' g o) : Put w w'.drew g o :=
  ⟨h.at_, fun hx hk => h.other hx hk, fun hs => h.size hs, fun hb hB => (h.below hb hB).drew⟩
theorem Put.self {w : World} {g : Nat} {o : Obj} (h : At w g o) : Put w w g o := ⟨h, fun hx _ => hx, fun hs => hs, fun hb _ => hb⟩
theorem cellA {w : World} {g i : Nat} {cs : Array Value} {t : TypeId} {v : Value} (h : At w g (.cells cs t (0, 0))) (hv : cs[i]? = some v) : w.cell? ⟨g, i, none⟩ = some v := by
  rw [cell_of_row w g i _ _ _ h, hv]
theorem Rg.at_ {p : Int} {n C i t : Nat} {R : Nat → List Int} (h : Rg p n C R) (hi : i < n) (ht : t < C) : ∃ z, (R i)[t]? = some z ∧ 0 ≤ z ∧ z < p := by
  have h1 := h i hi
  have h2 : t < (R i).length := by omega
  have h3 := h1.2 t ht
  unfold ent at h3
  rw [List.getElem?_eq_getElem h2] at h3
  exact ⟨_, List.getElem?_eq_getElem h2, h3⟩
def mixL (new old : List Int) (c : Nat) : List Int := new.take c ++ old.drop c
theorem mixL_zero (new old : List Int) : mixL new old 0 = old := by simp [mixL]
theorem mixL_all {new old : List Int} {N : Nat} (hn : new.length = N) (ho : old.length = N) : mixL new old N = new := by
  rw [mixL, List.take_of_length_le (by omega), List.drop_eq_nil_of_le (by omega), List.append_nil]
theorem mixL_at {new old : List Int} {N t : Nat} {X : Int} (hn : new.length = N) (ho : old.length = N) (ht : t < N) (hX : old[t]? = some X) : (mixL new old t)[t]? = some X := by
  have hl : (new.take t).length = t := by simp [hn]; omega
  rw [mixL, List.getElem?_append_right (by omega), hl, Nat.sub_self, List.getElem?_drop, Nat.add_zero]
  exact hX
theorem mixL_set {new old : List Int} {c N : Nat} {X : Int} (hn : new.length = N) (ho : old.length = N) (hc : c < N) (hX : new[c]? = some X) : (mixL new old c).set c X = mixL new old (c + 1) := by
  have hl : (new.take c).length = c := by simp [hn]; omega
  unfold mixL
  rw [List.set_append_right _ _ (by omega), hl, Nat.sub_self, List.drop_eq_getElem_cons (by omega), List.set_cons_zero, List.take_add_one, hX, List.append_assoc]
  rfl
theorem updR_self {R : Nat → List Int} {k : Nat} {l : List Int} (h : R k = l) : updR R k l = R := by
  funext i
  unfold updR
  split
  · next e => rw [e, h]
  · rfl
theorem updR_upd (R : Nat → List Int) (k : Nat) (l l' : List Int) : updR (updR R k l) k l' = updR R k l' := by
  funext i
  unfold updR
  split <;> rfl
theorem updR_at (R : Nat → List Int) (k : Nat) (l : List Int) : updR R k l k = l := by rw [updR, if_pos rfl]
theorem combI_get {p : Int} {C : Nat} {x y : List Int} {c t : Nat} (ht : t < C) : (combI p C x y c)[t]? = some ((x[t]?.getD 0 * y[c]?.getD 0 + (p - x[c]?.getD 0) * y[t]?.getD 0) % p) := by simp [combI, ht]
theorem clI_step {p : Int} {C : Nat} {R : Nat → List Int} {r c k : Nat} (h : r < k) : updR (clI p C R r c k) k (combI p C (R k) (R r) c) = clI p C R r c (k + 1) := by
  funext i
  unfold updR clI
  by_cases e : i = k
  · subst e
    rw [if_pos rfl, if_pos ⟨h, by omega⟩]
  · rw [if_neg e]
    by_cases e2 : r < i ∧ i < k
    · rw [if_pos e2, if_pos ⟨e2.1, by omega⟩]
    · rw [if_neg e2, if_neg (fun h9 => e2 ⟨h9.1, by omega⟩)]
theorem m4c {a b : Int} (ha : 0 ≤ a ∧ a ≤ 4) (hb : 0 ≤ b ∧ b ≤ 4) : 0 ≤ a * b ∧ a * b ≤ 16 := by
  have h : b = 0 ∨ b = 1 ∨ b = 2 ∨ b = 3 ∨ b = 4 := by omega
  rcases h with rfl | rfl | rfl | rfl | rfl <;> omega
theorem m5c {a b : Int} (ha : 0 ≤ a ∧ a ≤ 5) (hb : 0 ≤ b ∧ b ≤ 4) : 0 ≤ a * b ∧ a * b ≤ 20 := by
  have h : b = 0 ∨ b = 1 ∨ b = 2 ∨ b = 3 ∨ b = 4 := by omega
  rcases h with rfl | rfl | rfl | rfl | rfl <;> omega
set_option maxHeartbeats 4000000 in
theorem clear_c (p : Int) (g G n C r c orr : Nat) (of : Nat → Nat) (A2 : Option Addr) (M c2 : Nat) (cs D : Array Value) (R : Nat → List Int) (w : World) (hp : 2 ≤ p ∧ p ≤ 5) (h5 : At w g (.cells cs 49 (0, 0))) (hG : At w G (.cells D 2 (0, 0))) (hgG : g ≠ G) (hT : TabP cs D G of n C R) (hR : Rg p n C R) (hr : r < n) (ho : of r = orr) (hc : c < C) (hM : r + 1 + M = n) (hA2 : 0 < M → A2 = some ⟨g, r + 1, none⟩) (hn : n ≤ 1000) (hC : C ≤ 1000) :
    Calls Try.prog 62 #[.int .i64 p, .slice (some ⟨G, orr, none⟩) C C, .slice A2 M c2, .int .i64 c] w (fun e w' => e = .returned (.tuple #[]) ∧ ∃ D', Put w w' G (.cells D' 2 (0, 0)) ∧ TabP cs D' G of n C (clI p C R r c n)) := by
  have hB := Below.refl w.heap.size w
  clear hB
  have HRg := Lib.hid hR
  have Hor := Lib.hid ho
  obtain ⟨Y, hY, hYb⟩ := hR.at_ hr hc
  have HY := Lib.hid hY
  have HT00 : Hid (TabP cs D G of n C (clI p C R r c (r + 1 + 0))) := Lib.hid (by rw [show clI p C R r c (r + 1 + 0) = R from funext fun i => by rw [clI, if_neg (by omega)]]; exact hT)
  have hP := Put.self hG
  clear hT hR hY ho
  go_enter Try.func62, Try.ntmps62
  go_upto_region 0 with (fail)
  refine wp_region_lit ?_
  refine ls_ex (some 13) (.slice A2 M c2) rfl rfl (exec_move _ rfl (.slice A2 M c2) rfl) ?_
  go_frame
  refine ls_ex (some 14) (.int .i64 M) rfl rfl (exec_len _ 26 49 rfl A2 M c2 rfl Try.underlying26) ?_
  go_frame
  refine ls_ex (some 15) (.int .i64 0) rfl rfl (exec_move _ rfl (.int .i64 0) rfl) ?_
  go_frame
  refine wpList_nil ?_
  go_wp2_with fail
  go_loopw [15] (fun s15 wr => ∃ (i : Nat) (D1 : Array Value), i ≤ M ∧ s15 = .int .i64 i ∧ Hid (TabP cs D1 G of n C (clI p C R r c (r + 1 + i))) ∧ Put w wr G (.cells D1 2 (0, 0)) ∧ At wr g (.cells cs 49 (0, 0)) ∧ At wr G (.cells D1 2 (0, 0))) (fun s15 _ => M - (intOf s15).toNat)
  case atStart => exact ⟨0, _, by omega, rfl, HT00, hP, h5, hG⟩
  case round =>
    clear hP h5 hG
    obtain ⟨i, D1, hle, rfl, HT1, hP, h5, hG⟩ := hrel
    by_cases hlt : i < M
    · obtain ⟨we, rfl⟩ : ∃ z : World, z = wr := ⟨_, rfl⟩
      have hA := hA2 (by omega)
      obtain ⟨k, hk⟩ : ∃ z9, r + 1 + i = z9 := ⟨_, rfl⟩
      have hkn : k < n := by omega
      obtain ⟨ok, hok⟩ : ∃ z9, of k = z9 := ⟨_, rfl⟩
      have Hok := Lib.hid hok
      have HF0 : Hid (∃ z9, (R k)[c]? = some z9 ∧ 0 ≤ z9 ∧ z9 < p) := Lib.hid (HRg.out.at_ hkn hc)
      obtain ⟨F, hF, hFb⟩ := HF0.out
      have HF := Lib.hid hF
      have HCell : Hid (cs[(r + 1) + i * 1]? = some (.slice (some ⟨G, ok, none⟩) C C)) := Lib.hid (by rw [Nat.mul_one, hk, ← hok]; exact HT1.out.cell k hkn)
      have HDF : Hid (D1[ok + c * 1]? = some (.int .i64 F)) := Lib.hid (by rw [Nat.mul_one, ← hok]; exact HT1.out.num k hkn c F (by rw [hk, clI, if_neg (by omega)]; exact hF))
      have HT0 : Hid (TabP cs D1 G of n C (updR (clI p C R r c k) k (mixL (combI p C (R k) (R r) c) (R k) 0))) := Lib.hid (by rw [mixL_zero, updR_self (by rw [clI, if_neg (by omega)])]; have h9 := HT1.out; rw [hk] at h9; exact h9)
      have HCl : Hid ((combI p C (R k) (R r) c).length = C) := Lib.hid (combI_len _ _ _ _ _)
      clear hF HF0 hok
      subst hA
      go_upto_region 1 with (fail)
      refine wp_region_lit ?_
      refine ls_ex (some 16) (.bool true) rfl rfl (exec_lss _ _ _ _ rfl i M rfl rfl true (decide_eq_true (by omega))) ?_
      go_frame
      refine wpList_nil ?_
      go_upto_region 2 with (fail)
      refine wp_region_lit ?_
      refine ls_ex (some 17) (.pointer (some ⟨g, (r + 1) + i * 1, none⟩)) rfl rfl (exec_index_slice _ 49 _ _ rfl g (r + 1) M c2 i 1 rfl rfl Try.underlying26 (by kernel_rfl) hlt) ?_
      go_frame
      refine ls_ex (some 18) (.slice (some ⟨G, ok, none⟩) C C) rfl rfl (exec_load_one 49 _ rfl g ((r + 1) + i * 1) rfl (.slice (some ⟨G, ok, none⟩) C C) _ Try.underlying49 rfl (cellA h5 HCell.out)) ?_
      go_frame
      refine ls_ex (some 9) (.slice (some ⟨G, ok, none⟩) C C) rfl rfl (exec_assign _ rfl (.slice (some ⟨G, ok, none⟩) C C) rfl) ?_
      go_frame
      refine wpList_nil ?_
      go_upto_region 3 with (fail)
      refine wp_region_lit ?_
      refine ls_ex (some 19) (.slice (some ⟨G, ok, none⟩) C C) rfl rfl (exec_move _ rfl (.slice (some ⟨G, ok, none⟩) C C) rfl) ?_
      go_frame
      refine ls_ex (some 20) (.int .i64 c) rfl rfl (exec_move _ rfl (.int .i64 c) rfl) ?_
      go_frame
      refine ls_ex (some 21) (.pointer (some ⟨G, ok + c * 1, none⟩)) rfl rfl (exec_index_slice _ 2 _ _ rfl G ok C C c 1 rfl rfl Try.underlying49 (by kernel_rfl) hc) ?_
      go_frame
      refine ls_ex (some 22) (.int .i64 F) rfl rfl (exec_load_one 2 _ rfl G (ok + c * 1) rfl (.int .i64 F) _ Try.underlying2 rfl (cellA hG HDF.out)) ?_
      go_frame
      refine ls_ex (some 10) (.int .i64 F) rfl rfl (exec_assign _ rfl (.int .i64 F) rfl) ?_
      go_frame
      refine wpList_nil ?_
      go_upto_region 4 with (fail)
      refine wp_region_lit ?_
      refine ls_ex (some 23) (.slice (some ⟨G, orr, none⟩) C C) rfl rfl (exec_move _ rfl (.slice (some ⟨G, orr, none⟩) C C) rfl) ?_
      go_frame
      refine ls_ex (some 24) (.int .i64 C) rfl rfl (exec_len _ 49 2 rfl ((some ⟨G, orr, none⟩)) C C rfl Try.underlying49) ?_
      go_frame
      refine ls_ex (some 25) (.int .i64 0) rfl rfl (exec_move _ rfl (.int .i64 0) rfl) ?_
      go_frame
      refine wpList_nil ?_
      go_wp2_with fail
      go_loopw [25] (fun s25 wr => ∃ (t : Nat) (D2 : Array Value), t ≤ C ∧ s25 = .int .i64 t ∧ Hid (TabP cs D2 G of n C (updR (clI p C R r c k) k (mixL (combI p C (R k) (R r) c) (R k) t))) ∧ Put w wr G (.cells D2 2 (0, 0)) ∧ At wr g (.cells cs 49 (0, 0)) ∧ At wr G (.cells D2 2 (0, 0))) (fun s25 _ => C - (intOf s25).toNat)
      case atStart => exact ⟨0, _, by omega, rfl, HT0, hP, h5, hG⟩
      case round =>
        clear hP h5 hG
        obtain ⟨t, D2, hle2, rfl, HT2, hP, h5, hG⟩ := hrel
        by_cases hlt : t < C
        · have HO : Hid (∃ z9, (R k)[t]? = some z9 ∧ 0 ≤ z9 ∧ z9 < p) := Lib.hid (HRg.out.at_ hkn hlt)
          obtain ⟨O, hO, hOb⟩ := HO.out
          have HN : Hid (∃ z9, (R r)[t]? = some z9 ∧ 0 ≤ z9 ∧ z9 < p) := Lib.hid (HRg.out.at_ hr hlt)
          obtain ⟨N, hN, hNb⟩ := HN.out
          have HDO : Hid (D2[ok + t * 1]? = some (.int .i64 O)) := Lib.hid (by rw [Nat.mul_one, ← Hok.out]; exact HT2.out.num k hkn t O (by rw [updR, if_pos rfl]; exact mixL_at HCl.out (HRg.out k hkn).1 hlt hO))
          have HDN : Hid (D2[orr + t * 1]? = some (.int .i64 N)) := Lib.hid (by rw [Nat.mul_one, ← Hor.out]; exact HT2.out.num r hr t N (by rw [updR, if_neg (by omega), clI, if_neg (by omega)]; exact hN))
          have HDC : Hid (D2[orr + c * 1]? = some (.int .i64 Y)) := Lib.hid (by rw [Nat.mul_one, ← Hor.out]; exact HT2.out.num r hr c Y (by rw [updR, if_neg (by omega), clI, if_neg (by omega)]; exact HY.out))
          obtain ⟨M1, hM1⟩ : ∃ z9, O * Y = z9 := ⟨_, rfl⟩
          have hM1b := m4c (a := O) (b := Y) (by omega) (by omega)
          rw [hM1] at hM1b
          have HM1 : Hid (IntKind.i64.wrap (O * Y) = M1) := Lib.hid (by rw [hM1]; exact IntWalk.i64_in _ (by omega))
          obtain ⟨S1, hS1⟩ : ∃ z9, p - F = z9 := ⟨_, rfl⟩
          have HS1 : Hid (IntKind.i64.wrap (p - F) = S1) := Lib.hid (by rw [hS1]; exact IntWalk.i64_in _ (by omega))
          obtain ⟨M2, hM2⟩ : ∃ z9, S1 * N = z9 := ⟨_, rfl⟩
          have hM2b := m5c (a := S1) (b := N) (by omega) (by omega)
          rw [hM2] at hM2b
          have HM2 : Hid (IntKind.i64.wrap (S1 * N) = M2) := Lib.hid (by rw [hM2]; exact IntWalk.i64_in _ (by omega))
          obtain ⟨A1, hA1⟩ : ∃ z9, M1 + M2 = z9 := ⟨_, rfl⟩
          have HA1 : Hid (IntKind.i64.wrap (M1 + M2) = A1) := Lib.hid (by rw [hA1]; exact IntWalk.i64_in _ (by omega))
          obtain ⟨X, hX⟩ : ∃ z9, A1 % p = z9 := ⟨_, rfl⟩
          have HX : Hid (A1.tmod p = X) := Lib.hid (by rw [Int.tmod_eq_emod_of_nonneg (by omega)]; exact hX)
          have HT3 : Hid (TabP cs (D2.setIfInBounds (ok + t * 1) (.int .i64 X)) G of n C (updR (clI p C R r c k) k (mixL (combI p C (R k) (R r) c) (R k) (t + 1)))) := Lib.hid (by have h9 := HT2.out.set hkn hlt X; rw [Hok.out] at h9; rw [Nat.mul_one]; rw [updR_upd, updR_at, mixL_set HCl.out (HRg.out k hkn).1 hlt (by rw [combI_get hlt, hO, hN, HY.out, HF.out]; simp only [Option.getD_some]; rw [hM1, hS1, hM2, hA1, hX])] at h9; exact h9)
          have HSz : Hid (ok + t * 1 < D2.size) := Lib.hid (Array.getElem?_eq_some_iff.1 HDO.out).1
          clear hO hN hM1 hS1 hM2 hA1 hX
          go_upto_region 5 with (fail)
          refine wp_region_lit ?_
          refine ls_ex (some 26) (.bool true) rfl rfl (exec_lss _ _ _ _ rfl t C rfl rfl true (decide_eq_true (by omega))) ?_
          go_frame
          refine wpList_nil ?_
          go_upto_region 6 with (fail)
          refine wp_region_lit ?_
          refine ls_ex (some 27) (.int .i64 t) rfl rfl (exec_move _ rfl (.int .i64 t) rfl) ?_
          go_frame
          refine ls_ex (some 28) (.pointer (some ⟨G, orr + t * 1, none⟩)) rfl rfl (exec_index_slice _ 2 _ _ rfl G orr C C t 1 rfl rfl Try.underlying49 (by kernel_rfl) hlt) ?_
          go_frame
          refine ls_ex (some 29) (.int .i64 N) rfl rfl (exec_load_one 2 _ rfl G (orr + t * 1) rfl (.int .i64 N) _ Try.underlying2 rfl (cellA hG HDN.out)) ?_
          go_frame
          refine ls_ex (some 11) (.int .i64 t) rfl rfl (exec_assign _ rfl (.int .i64 t) rfl) ?_
          go_frame
          refine ls_ex (some 12) (.int .i64 N) rfl rfl (exec_assign _ rfl (.int .i64 N) rfl) ?_
          go_frame
          refine wpList_nil ?_
          go_upto_region 7 with (fail)
          refine wp_region_y (zs := [20]) (S := fun w' => True) (S2 := fun w' => At w' G (.cells D2 2 (0, 0))) (by kernel_rfl) ?_
          change wpAnyY _ _ _ _ _ _ _ _ _ _ (World.drew _)
          generalize hwdz1 : World.drew _ = wdz1
          replace hP : Put w wdz1 G (.cells D2 2 (0, 0)) := by rw [← hwdz1]; exact hP.drewP
          replace h5 : At wdz1 g (.cells cs 49 (0, 0)) := by rw [← hwdz1]; exact h5
          replace hG : At wdz1 G (.cells D2 2 (0, 0)) := by rw [← hwdz1]; exact hG
          clear hwdz1
          refine y_yield 0 (some 30) (.slice (some ⟨G, ok, none⟩) C C) rfl (by kernel_rfl) (by kernel_rfl) (by kernel_rfl) (fun _ _ _ h => h) rfl rfl trivial (fun w' h' => exec_move _ rfl (.slice (some ⟨G, ok, none⟩) C C) rfl) ?_
          go_frame
          refine y_yield 1 (some 31) (.int .i64 t) rfl (by kernel_rfl) (by kernel_rfl) (by kernel_rfl) (fun _ _ _ h => h) rfl rfl trivial (fun w' h' => exec_move _ rfl (.int .i64 t) rfl) ?_
          go_frame
          refine y_yield 2 (some 32) (.slice (some ⟨G, ok, none⟩) C C) rfl (by kernel_rfl) (by kernel_rfl) (by kernel_rfl) (fun _ _ _ h => h) rfl rfl trivial (fun w' h' => exec_move _ rfl (.slice (some ⟨G, ok, none⟩) C C) rfl) ?_
          go_frame
          refine y_yield 3 (some 33) (.int .i64 t) rfl (by kernel_rfl) (by kernel_rfl) (by kernel_rfl) (fun _ _ _ h => h) rfl rfl trivial (fun w' h' => exec_move _ rfl (.int .i64 t) rfl) ?_
          go_frame
          refine y_yield 4 (some 34) (.pointer (some ⟨G, ok + t * 1, none⟩)) rfl (by kernel_rfl) (by kernel_rfl) (by kernel_rfl) (fun _ _ _ h => h) rfl rfl trivial (fun w' h' => exec_index_slice _ 2 _ _ rfl G ok C C t 1 rfl rfl Try.underlying49 (by kernel_rfl) hlt) ?_
          go_frame
          refine y_yield3 5 (some 35) (.int .i64 O) rfl 21 (by kernel_rfl) (by kernel_rfl) (by kernel_rfl) (by kernel_rfl) (by kernel_rfl) (fun _ _ _ h => h) rfl rfl trivial hG (fun w' h' h2' => exec_load_one 2 _ rfl G (ok + t * 1) rfl (.int .i64 O) _ Try.underlying2 rfl (cellA h2' HDO.out)) ?_
          go_frame
          refine y_yield 6 (some 36) (.slice (some ⟨G, orr, none⟩) C C) rfl (by kernel_rfl) (by kernel_rfl) (by kernel_rfl) (fun _ _ _ h => h) rfl rfl trivial (fun w' h' => exec_move _ rfl (.slice (some ⟨G, orr, none⟩) C C) rfl) ?_
          go_frame
          refine y_yield 7 (some 37) (.int .i64 c) rfl (by kernel_rfl) (by kernel_rfl) (by kernel_rfl) (fun _ _ _ h => h) rfl rfl trivial (fun w' h' => exec_move _ rfl (.int .i64 c) rfl) ?_
          go_frame
          refine y_yield 8 (some 38) (.pointer (some ⟨G, orr + c * 1, none⟩)) rfl (by kernel_rfl) (by kernel_rfl) (by kernel_rfl) (fun _ _ _ h => h) rfl rfl trivial (fun w' h' => exec_index_slice _ 2 _ _ rfl G orr C C c 1 rfl rfl Try.underlying49 (by kernel_rfl) hc) ?_
          go_frame
          refine y_yield3 9 (some 39) (.int .i64 Y) rfl 21 (by kernel_rfl) (by kernel_rfl) (by kernel_rfl) (by kernel_rfl) (by kernel_rfl) (fun _ _ _ h => h) rfl rfl trivial hG (fun w' h' h2' => exec_load_one 2 _ rfl G (orr + c * 1) rfl (.int .i64 Y) _ Try.underlying2 rfl (cellA h2' HDC.out)) ?_
          go_frame
          refine y_yield 10 (some 40) (.int .i64 M1) rfl (by kernel_rfl) (by kernel_rfl) (by kernel_rfl) (fun _ _ _ h => h) rfl rfl trivial (fun w' h' => exec_mul _ _ _ _ rfl O Y M1 rfl rfl HM1.out) ?_
          go_frame
          refine y_yield 11 (some 41) (.int .i64 p) rfl (by kernel_rfl) (by kernel_rfl) (by kernel_rfl) (fun _ _ _ h => h) rfl rfl trivial (fun w' h' => exec_move _ rfl (.int .i64 p) rfl) ?_
          go_frame
          refine y_yield 12 (some 42) (.int .i64 F) rfl (by kernel_rfl) (by kernel_rfl) (by kernel_rfl) (fun _ _ _ h => h) rfl rfl trivial (fun w' h' => exec_move _ rfl (.int .i64 F) rfl) ?_
          go_frame
          refine y_yield 13 (some 43) (.int .i64 S1) rfl (by kernel_rfl) (by kernel_rfl) (by kernel_rfl) (fun _ _ _ h => h) rfl rfl trivial (fun w' h' => exec_sub _ _ _ _ rfl p F S1 rfl rfl HS1.out) ?_
          go_frame
          refine y_yield 14 (some 44) (.int .i64 N) rfl (by kernel_rfl) (by kernel_rfl) (by kernel_rfl) (fun _ _ _ h => h) rfl rfl trivial (fun w' h' => exec_move _ rfl (.int .i64 N) rfl) ?_
          go_frame
          refine y_yield 15 (some 45) (.int .i64 M2) rfl (by kernel_rfl) (by kernel_rfl) (by kernel_rfl) (fun _ _ _ h => h) rfl rfl trivial (fun w' h' => exec_mul _ _ _ _ rfl S1 N M2 rfl rfl HM2.out) ?_
          go_frame
          refine y_yield 16 (some 46) (.int .i64 A1) rfl (by kernel_rfl) (by kernel_rfl) (by kernel_rfl) (fun _ _ _ h => h) rfl rfl trivial (fun w' h' => exec_add _ _ _ _ rfl M1 M2 A1 rfl rfl HA1.out) ?_
          go_frame
          refine y_yield 17 (some 47) (.int .i64 p) rfl (by kernel_rfl) (by kernel_rfl) (by kernel_rfl) (fun _ _ _ h => h) rfl rfl trivial (fun w' h' => exec_move _ rfl (.int .i64 p) rfl) ?_
          go_frame
          refine y_yield 18 (some 48) (.int .i64 X) rfl (by kernel_rfl) (by kernel_rfl) (by kernel_rfl) (fun _ _ _ h => h) rfl rfl trivial (fun w' h' => exec_rem _ _ _ _ rfl A1 p X rfl rfl (by omega) HX.out) ?_
          go_frame
          refine y_yield 19 (some 49) (.pointer (some ⟨G, ok + t * 1, none⟩)) rfl (by kernel_rfl) (by kernel_rfl) (by kernel_rfl) (fun _ _ _ h => h) rfl rfl trivial (fun w' h' => exec_index_slice _ 2 _ _ rfl G ok C C t 1 rfl rfl Try.underlying49 (by kernel_rfl) hlt) ?_
          go_frame
          refine y_oper 20 (by kernel_rfl) rfl rfl (fun K' hK' => ?_)
          refine wp_store_one 2 _ _ rfl rfl G (ok + t * 1) rfl (.int .i64 X) rfl rfl rfl _ _ hG (by kernel_rfl) HSz.out (fun Wz2 pz3 => ?_)
          replace h5 := pz3.other h5 (by omega)
          replace hP := hP.trans pz3
          replace hG := pz3.at_
          refine hK' _ _ trivial (fun h => absurd (by decide) h) ?_
          clear hK' K' pz3
          refine y_done (by kernel_rfl) ?_ _
          go_upto_region 8 with (fail)
          refine wp_region_lit ?_
          refine ls_ex (some 50) (.int .i64 (t + 1)) rfl rfl (exec_add _ _ _ _ rfl t 1 (t + 1) rfl rfl (IntWalk.i64_in _ (by omega))) ?_
          go_frame
          refine ls_ex (some 25) (.int .i64 (t + 1)) rfl rfl (exec_move _ rfl (.int .i64 (t + 1)) rfl) ?_
          go_frame
          refine wpList_nil ?_
          go_wp2_with fail
          go_roundw
          case rel => exact ⟨t + 1, _, by omega, by go_num, HT3, hP, h5, hG⟩
          case measure => simp [intOf] <;> omega
        · obtain ⟨wk, rfl⟩ : ∃ z : World, z = wr := ⟨_, rfl⟩
          have HT4 : Hid (TabP cs D2 G of n C (clI p C R r c (k + 1))) := Lib.hid (by have h9 := HT2.out; rw [show t = C by omega, mixL_all HCl.out (HRg.out k hkn).1, clI_step (show r < k by omega)] at h9; exact h9)
          go_upto_region 5 with (fail)
          refine wp_region_lit ?_
          refine ls_ex (some 26) (.bool false) rfl rfl (exec_lss _ _ _ _ rfl t C rfl rfl false (decide_eq_false (by omega))) ?_
          go_frame
          refine wpList_nil ?_
          go_upto_region 9 with (fail)
          refine wp_region_lit ?_
          refine ls_ex (some 51) (.int .i64 (i + 1)) rfl rfl (exec_add _ _ _ _ rfl i 1 (i + 1) rfl rfl (IntWalk.i64_in _ (by omega))) ?_
          go_frame
          refine ls_ex (some 15) (.int .i64 (i + 1)) rfl rfl (exec_move _ rfl (.int .i64 (i + 1)) rfl) ?_
          go_frame
          refine wpList_nil ?_
          go_wp2_with fail
          go_roundw
          case rel => exact ⟨i + 1, _, by omega, by go_num, by rw [← Nat.add_assoc, hk]; exact HT4, hP, h5, hG⟩
          case measure => simp [intOf] <;> omega
    · have hiM : r + 1 + i = n := by omega
      go_upto_region 1 with (fail)
      refine wp_region_lit ?_
      refine ls_ex (some 16) (.bool false) rfl rfl (exec_lss _ _ _ _ rfl i M rfl rfl false (decide_eq_false (by omega))) ?_
      go_frame
      refine wpList_nil ?_
      go_wp2_with fail
      go_end0
      rw [hiM] at HT1
      exact ⟨rfl, D1, hP, HT1.out⟩
end Go.Proofs.Ytebmkmkhfhmfbaa
