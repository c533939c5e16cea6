/-
  impl.restTimesX. (Made by mkrt.py.)
-/
import Derived.Test.YtdbcgbbokodndaaCiM
import Derived.Test.YtdbcgbbokodndaaTenK
import Derived.Test.YtdbcgbbokodndaaHeldT
import Derived.Lib.SliceRun
namespace Go.Proofs.Ytdbcgbbokodndaa
open Go.RowKit
set_option maxRecDepth 100000
theorem mul_b9 {a b : Int} (ha : 0 ≤ a ∧ a ≤ 5) (hb : 0 ≤ b ∧ b ≤ 5) : 0 ≤ a * b ∧ a * b ≤ 25 := by
  refine ⟨Int.mul_nonneg ha.1 hb.1, ?_⟩
  have h1 : a * b ≤ 5 * 5 := Int.mul_le_mul ha.2 hb.2 hb.1 (by omega)
  omega
theorem RdI.c1r {w : World} {b off : Nat} {xs : List Int} {X : Int} {i : Nat} (h : RdI w (some ⟨b, off, none⟩) xs) (hi : xs[i]? = some X) : w.cell? ⟨b, off + i * 1, none⟩ = some (.int .i64 X) := by
  have hlt : i < xs.length := by
    rcases Nat.lt_or_ge i xs.length with h9 | h9
    · exact h9
    · rw [List.getElem?_eq_none h9] at hi; cases hi
  obtain ⟨b', off', hA0, hc⟩ := h.at_ hlt
  cases hA0
  rw [List.getElem?_eq_getElem hlt] at hi
  cases hi
  rw [Nat.mul_one]
  exact hc
def mixR (new old : List Int) (c : Nat) : List Int := new.take c ++ old.drop c
theorem mixR_len {new old : List Int} {c N : Nat} (hn : new.length = N) (ho : old.length = N) (hc : c ≤ N) : (mixR new old c).length = N := by simp [mixR, hn, ho]; omega
theorem mixR_get {new old : List Int} {c N : Nat} (hn : new.length = N) (hc : c < N) : (mixR new old c)[c]? = old[c]? := by
  have hl : (new.take c).length = c := by simp [hn]; omega
  unfold mixR
  rw [List.getElem?_append_right (by omega), hl, Nat.sub_self, List.getElem?_drop, Nat.add_zero]
theorem mixR_set {new old : List Int} {c N : Nat} {X : Int} (hn : new.length = N) (ho : old.length = N) (hc : c < N) (hX : new[c]? = some X) : (mixR new old c).set c X = mixR new old (c + 1) := by
  have hl : (new.take c).length = c := by simp [hn]; omega
  unfold mixR
  rw [List.set_append_right _ _ (by omega), hl, Nat.sub_self, List.drop_eq_getElem_cons (by omega), List.set_cons_zero, List.take_add_one, hX, List.append_assoc]
  rfl
theorem mixR_zero (new old : List Int) : mixR new old 0 = old := by simp [mixR]
theorem mixR_all {new old : List Int} {N : Nat} (hn : new.length = N) (ho : old.length = N) : mixR new old N = new := by
  rw [mixR, List.take_of_length_le (by omega), List.drop_eq_nil_of_le (by omega), List.append_nil]

theorem elemIs : Try.prog.underlying 22 = some (.slice (Try.prog.elem 22)) := by kernel_rfl
theorem sizeIs (w : World) : (sizeOf (Try.prog.elem 22)).run Try.prog w = .ok 1 w := by kernel_rfl
theorem exec_slI_hi {o : Oper} {a : Act} {w : World} (x y : Operand) (ho : o.op = .slice 22 x none (some y) none) (b off N C i : Nat) (hi : i ≤ C) (hx : a.eval x = .slice (some ⟨b, off, none⟩) N C) (hy : a.eval y = .int .i64 (i : Int)) :
    (execOp a.eval o).run Try.prog w = .ok (.value (.slice (some ⟨b, off, none⟩) i C)) w := by
  have h := run_slice_h (P := Try.prog) (w := w) 22 (some ⟨b, off, none⟩) N C elemIs .i64 (i : Int) (by omega) (by omega)
  rw [sizeIs] at h
  unfold execOp
  simp only [ho, Option.map_some, Option.map_none, hx, hy, Instr.sliceAt, Sem.run_bind, run_underlying elemIs, Result.andThen_ok, h]
  simp [sliced, add_none]
theorem exec_bsM2 {o : Oper} {a : Act} {w : World} (x y : Operand) (ho : o.op = .buildSlice 64 2 #[(0, x), (1, y)]) (A1 : Option Addr) (n1 c1 : Nat) (A2 : Option Addr) (n2 c2 : Nat) (hx : a.eval x = .slice A1 n1 c1) (hy : a.eval y = .slice A2 n2 c2) :
    (execOp a.eval o).run Try.prog w = .ok (.value (.slice (some ⟨w.heap.size, 0, none⟩) 2 2)) (w.alloc (.cells #[.slice A1 n1 c1, .slice A2 n2 c2] 22 (0, 0))) := by
  obtain ⟨i, hi0, hz, h1, h2⟩ := info_parts infoIS
  have h := run_buildSlice (P := Try.prog) w 64 22 2 #[(0, .slice A1 n1 c1), (1, .slice A2 n2 c2)] #[.slice A1 n1 c1, .slice A2 n2 c2] i (.slice none 0 0) Try.underlying64 hi0 hz (by rw [h1]; omega) (by rw [h1]; omega) (by rw [h1]; kernel_rfl)
  unfold execOp
  simp [ho, hx, hy, h]
def two (xs ys : List Int) (i : Nat) : List Int := if i = 0 then xs else ys
theorem concatI2_c (b : Nat) (A1 A2 : Option Addr) (n1 c1 n2 c2 : Nat) (xs ys : List Int) (w : World) (hb : At w b (.cells #[.slice A1 n1 c1, .slice A2 n2 c2] 22 (0, 0))) (h1 : RdI w A1 xs) (h2 : RdI w A2 ys) (hx : xs.length = n1) (hy : ys.length = n2) (l1 : 0 < n1) (l2 : 0 < n2) (ht : n1 + n2 ≤ 1000000) :
    Calls Try.prog 67 #[.slice (some ⟨b, 0, none⟩) 2 2] w fun e w' => ∃ v, e = .returned v ∧ OwnI w' w.heap.size v (xs ++ ys) ∧ Below w.heap.size w w' := by
  subst hx
  subst hy
  have h := concatI_c (some ⟨b, 0, none⟩) 2 2 (two xs ys) w (.inr ⟨b, 0, rfl, fun i hi => by
    have h3 : i = 0 ∨ i = 1 := by omega
    rcases h3 with rfl | rfl
    · exact ⟨A1, c1, hb.at_ 0, h1⟩
    · exact ⟨A2, c2, hb.at_ 1, h2⟩⟩) (fun i hi => by
    have h3 : i = 0 ∨ i = 1 := by omega
    rcases h3 with rfl | rfl
    · exact l1
    · exact l2) (by omega) (by simp [tot, two]; omega)
  simpa [catI, two] using h
theorem RdI.of_cells {w : World} {b : Nat} {xs : List Int} (h : At w b (.cells (iar xs) 2 (0, 0))) : RdI w (some ⟨b, 0, none⟩) xs :=
  .inr ⟨b, 0, rfl, fun j x hj => by rw [h.at_]; simp [iar, i64s, hj]⟩
theorem RdI.take {w : World} {A : Option Addr} {xs : List Int} (h : RdI w A xs) (n : Nat) : RdI w A (xs.take n) := by
  rcases h with rfl | ⟨b, off, rfl, hc⟩
  · exact .inl (by simp)
  · exact .inr ⟨b, off, rfl, fun j x hj => hc j x (by
      rw [List.getElem?_take] at hj
      split at hj
      · exact hj
      · cases hj)⟩
/-- The cells of a list with spare room behind it. -/
def iarZ (xs : List Int) (Z : List Value) : Array Value := (i64s xs ++ Z).toArray
theorem iarZ_size (xs : List Int) (Z : List Value) : (iarZ xs Z).size = xs.length + Z.length := by simp [iarZ, i64s]
theorem iarZ_set {xs : List Int} {Z : List Value} {i : Nat} (x : Int) (hi : i < xs.length) : (iarZ xs Z).setIfInBounds i (.int .i64 x) = iarZ (xs.set i x) Z := by
  apply Array.ext'
  simp only [iarZ, Array.toList_setIfInBounds]
  rw [List.set_append_left _ _ (by simpa [i64s] using hi)]
  simp [i64s, List.map_set]
theorem cell_iarZ {w : World} {g c : Nat} {xs : List Int} {Z : List Value} {V : Int} (h : At w g (.cells (iarZ xs Z) 2 (0, 0))) (hv : xs[c]? = some V) : w.cell? ⟨g, c * 1, none⟩ = some (.int .i64 V) := by
  have hl := (List.getElem?_eq_some_iff.1 hv).1
  rw [Nat.mul_one, h.at_]
  simp only [iarZ, List.getElem?_toArray]
  rw [List.getElem?_append_left (by simpa [i64s] using hl)]
  simp [i64s, hv]
theorem OwnI.openZ {w : World} {lo : Nat} {v : Value} {xs : List Int} (h : OwnI w lo v xs) (h0 : 0 < xs.length) : ∃ g c Z, v = .slice (some ⟨g, 0, none⟩) xs.length c ∧ At w g (.cells (iarZ xs Z) 2 (0, 0)) ∧ lo ≤ g ∧ xs.length + Z.length = c ∧ c ≤ maxLen := by
  rcases h.2 with ⟨hv, hn⟩ | ⟨g, cap, cur, hv, hl, hg, hle, hm, hsz, htk⟩
  · omega
  · have e : iarZ xs (cur.toList.drop xs.length) = cur := by
      apply Array.ext'
      simp only [iarZ]
      have h9 : cur.toList.take xs.length = i64s xs := by simpa using htk
      rw [← h9, List.take_append_drop]
    refine ⟨g, cap, cur.toList.drop xs.length, hv, by rw [e]; exact hg, hl, ?_, hm⟩
    have h9 : cur.toList.length = cur.size := Array.length_toList
    rw [List.length_drop, h9, hsz]
    omega
theorem OwnI.ofZ {w : World} {lo g c : Nat} {xs : List Int} {Z : List Value} {n : Nat} (h : At w g (.cells (iarZ xs Z) 2 (0, 0))) (hl : lo ≤ g) (hn : xs.length = n) (hc : n + Z.length = c) (hm : c ≤ maxLen) : OwnI w lo (.slice (some ⟨g, 0, none⟩) n c) xs := by
  subst hn
  refine ⟨by simp [i64s], .inr ⟨g, c, iarZ xs Z, rfl, hl, h, by omega, hm, by rw [iarZ_size]; omega, ?_⟩⟩
  simp [iarZ, i64s]
/-- The rest of x times a rest. -/
def stR (p : Int) (xs rs : List Int) (t : Nat) : Int := ((if t = 0 then 0 else rs[t - 1]?.getD 0) + (p - rs[rs.length - 1]?.getD 0) * xs[t]?.getD 0) % p
def stepR (p : Int) (xs rs : List Int) : List Int := (List.range rs.length).map (stR p xs rs)
theorem stepR_len (p : Int) (xs rs : List Int) : (stepR p xs rs).length = rs.length := by simp [stepR]
theorem stepR_get (p : Int) (xs rs : List Int) {t : Nat} (h : t < rs.length) : (stepR p xs rs)[t]? = some (stR p xs rs t) := by simp [stepR, h]
theorem sh_get {rs : List Int} {L t : Nat} (hL : rs.length = L + 1) (ht : t < L + 1) : ([0] ++ rs.take L)[t]? = some (if t = 0 then 0 else rs[t - 1]?.getD 0) := by
  cases t with
  | zero => rfl
  | succ t =>
    have h1 : t < rs.length := by omega
    rw [List.singleton_append, List.getElem?_cons_succ, List.getElem?_take, if_pos (by omega), List.getElem?_eq_getElem h1, if_neg (by omega), Nat.add_sub_cancel, List.getElem?_eq_getElem h1]
    rfl
def inP (p : Int) (xs : List Int) : Prop := ∀ x ∈ xs, 0 ≤ x ∧ x < p
theorem inP.get {p : Int} {xs : List Int} {t : Nat} {X : Int} (h : inP p xs) (ht : xs[t]? = some X) : 0 ≤ X ∧ X < p := h X (List.mem_of_getElem? ht)
theorem inP.prev {p : Int} {rs : List Int} {k : Nat} (h : inP p rs) (hp : 0 < p) (hk : k < rs.length) : 0 ≤ (if k = 0 then 0 else rs[k - 1]?.getD 0) ∧ (if k = 0 then 0 else rs[k - 1]?.getD 0) < p := by
  split
  · omega
  · have h9 : rs[k - 1]? = some rs[k - 1] := List.getElem?_eq_getElem (by omega)
    rw [h9]
    exact h.get h9
theorem stepR_in {p : Int} (hp : 2 ≤ p) (xs rs : List Int) : inP p (stepR p xs rs) := fun x hx => by
  obtain ⟨t, _, rfl⟩ := List.mem_map.1 hx
  exact ⟨Int.emod_nonneg _ (by omega), Int.emod_lt_of_pos _ (by omega)⟩
set_option maxHeartbeats 12800000 in
theorem restTimesX_c (p : Int) (d bA oA cA bB oB cB : Nat) (rs xs : List Int) (w : World) (hR : RdI w (some ⟨bA, oA, none⟩) rs) (hX : RdI w (some ⟨bB, oB, none⟩) xs) (hrd : rs.length = d) (hxd : xs.length = d) (hd : 2 ≤ d ∧ d ≤ 9) (hcA : d ≤ cA) (hp : 2 ≤ p ∧ p ≤ 5) (hrp : inP p rs) (hxp : inP p xs) :
    Calls Try.prog 46 #[.int .i64 p, .slice (some ⟨bA, oA, none⟩) d cA, .slice (some ⟨bB, oB, none⟩) d cB] w (fun e w' => ∃ v, e = .returned v ∧ OwnI w' w.heap.size v (stepR p xs rs) ∧ Below w.heap.size w w') := by
  have hB := Below.refl w.heap.size w
  obtain ⟨L, hLe⟩ : ∃ L, L + 1 = d := ⟨d - 1, by omega⟩
  have hLd : L < d := by omega
  have HLs : Hid (IntKind.i64.wrap ((d : Int) - 1) = (L : Int)) := Lib.hid (by rw [IntWalk.i64_in _ (by omega)]; omega)
  have HTk : Hid ((rs.take L).length = L) := Lib.hid (by simp; omega)
  have HCl : Hid (([0] ++ rs.take L).length = d) := Lib.hid (by simp; omega)
  obtain ⟨OLD, hOLD⟩ : ∃ l, [0] ++ rs.take L = l := ⟨_, rfl⟩
  obtain ⟨NEW, hNEW⟩ : ∃ l, stepR p xs rs = l := ⟨_, rfl⟩
  have HN1 : Hid (NEW.length = d) := Lib.hid (by rw [← hNEW, stepR_len, hrd])
  have HN2 : Hid (OLD.length = d) := Lib.hid (by rw [← hOLD, HCl.out])
  have HOLD := Lib.hid hOLD
  have HNEW := Lib.hid hNEW
  have HSl : Hid ((stepR p xs rs).length = d) := Lib.hid (by rw [stepR_len, hrd])
  clear hOLD hNEW
  go_enter Try.func46, Try.ntmps46
  go_upto_region 0 with (fail)
  refine wp_region_lit ?_
  refine ls_ex (some 6) (.slice none 0 0) rfl rfl (exec_assign _ rfl (.slice none 0 0) rfl) ?_
  go_frame
  refine wpList_nil ?_
  go_upto_region 1 with (fail)
  refine wp_region_lit ?_
  refine ls_ex (some 11) (.slice (some ⟨bA, oA, none⟩) d cA) rfl rfl (exec_move _ rfl (.slice (some ⟨bA, oA, none⟩) d cA) rfl) ?_
  go_frame
  refine ls_ex (some 12) (.int .i64 d) rfl rfl (exec_len _ 22 2 rfl ((some ⟨bA, oA, none⟩)) d cA rfl Try.underlying22) ?_
  go_frame
  refine ls_ex (some 13) (.int .i64 L) rfl rfl (exec_sub _ _ _ _ rfl d 1 L rfl rfl HLs.out) ?_
  go_frame
  refine ls_ex (some 7) (.int .i64 L) rfl rfl (exec_assign _ rfl (.int .i64 L) rfl) ?_
  go_frame
  refine wpList_nil ?_
  go_upto_region 2 with (fail)
  refine wp_region_lit ?_
  refine ls_op rfl (fun K' hK' => ?_)
  have lz1 := hB.size
  refine wp_new (some 14) rfl (exec_bsi1 _ rfl 0 rfl) (fun Wz2 nnz3 => ?_)
  have bz4 := nnz3.below (Below.refl _ _) (Nat.le_refl _)
  replace hB := below_after hB bz4
  have hqz5 : At Wz2 w.heap.size (.cells (iar [0]) 2 (0, 0)) := nnz3.at_
  refine hK' _ _ ?_
  clear hK' K' nnz3 bz4
  go_frame
  refine ls_ex (some 15) (.slice (some ⟨bA, oA, none⟩) d cA) rfl rfl (exec_move _ rfl (.slice (some ⟨bA, oA, none⟩) d cA) rfl) ?_
  go_frame
  refine ls_ex (some 16) (.int .i64 L) rfl rfl (exec_move _ rfl (.int .i64 L) rfl) ?_
  go_frame
  refine ls_ex (some 17) (.slice (some ⟨bA, oA, none⟩) L cA) rfl rfl (exec_slI_hi _ _ rfl bA oA d cA L (by omega) rfl rfl) ?_
  go_frame
  refine ls_op rfl (fun K' hK' => ?_)
  have lz6 := hB.size
  have lz7 := hqz5.lt
  refine wp_new (some 18) rfl (exec_bsM2 _ _ rfl (some ⟨w.heap.size, 0, none⟩) 1 1 (some ⟨bA, oA, none⟩) L cA rfl rfl) (fun Wz8 nnz9 => ?_)
  have bz10 := nnz9.below (Below.refl _ _) (Nat.le_refl _)
  replace hB := below_after hB bz10
  replace hqz5 := hqz5.after bz10
  have hqz11 : At Wz8 Wz2.heap.size (.cells #[.slice (some ⟨w.heap.size, 0, none⟩) 1 1, .slice (some ⟨bA, oA, none⟩) L cA] 22 (0, 0)) := nnz9.at_
  refine hK' _ _ ?_
  clear hK' K' nnz9 bz10
  go_frame
  have hz9 := hB.size
  refine ls_op rfl (fun K' hK' => ?_)
  have lz14 := hB.size
  have lz15 := hqz5.lt
  have lz16 := hqz11.lt
  refine wp_call1 (some 19) rfl 67 _ _ rfl (fun args w => by kernel_rfl) _ rfl _ (concatI2_c Wz2.heap.size (some ⟨w.heap.size, 0, none⟩) (some ⟨bA, oA, none⟩) 1 1 L cA [0] (rs.take L) _ hqz11 (RdI.of_cells hqz5) ((hR.keep hB).take L) rfl HTk.out (by omega) (by omega) (by omega)) (fun e Wz12 h => ?_)
  obtain ⟨v8, rfl, ho, bz13⟩ := h
  replace hB := below_after hB bz13
  replace hqz5 := hqz5.after bz13
  replace hqz11 := hqz11.after bz13
  obtain ⟨g, c8, Z, rfl, hL, hlg, hcZ, hcm⟩ := OwnI.openZ ho (by rw [HCl.out]; omega)
  clear ho
  rw [HCl.out] at hcZ ⊢
  have hgw : w.heap.size ≤ g := by omega
  clear hlg hz9
  clear bz13
  refine ⟨_, rfl, ?_⟩
  refine hK' _ _ ?_
  clear hK' K'
  go_frame
  refine ls_ex (some 8) (.slice (some ⟨g, 0, none⟩) d c8) rfl rfl (exec_assign _ rfl (.slice (some ⟨g, 0, none⟩) d c8) rfl) ?_
  go_frame
  refine wpList_nil ?_
  go_upto_region 3 with (fail)
  refine wp_region_lit ?_
  refine ls_ex (some 20) (.slice (some ⟨bB, oB, none⟩) d cB) rfl rfl (exec_move _ rfl (.slice (some ⟨bB, oB, none⟩) d cB) rfl) ?_
  go_frame
  refine ls_ex (some 21) (.int .i64 d) rfl rfl (exec_len _ 22 2 rfl ((some ⟨bB, oB, none⟩)) d cB rfl Try.underlying22) ?_
  go_frame
  refine ls_ex (some 22) (.int .i64 0) rfl rfl (exec_move _ rfl (.int .i64 0) rfl) ?_
  go_frame
  refine wpList_nil ?_
  go_wp2_with fail
  go_loopw [22] (fun s22 wr => ∃ k : Nat, k ≤ d ∧ s22 = .int .i64 k ∧ Below w.heap.size w wr ∧ At wr g (.cells (iarZ (mixR NEW OLD k) Z) 2 (0, 0))) (fun s22 _ => d - (intOf s22).toNat)
  case atStart => exact ⟨0, by omega, rfl, hB, by rw [mixR_zero, ← HOLD.out]; exact hL⟩
  case round =>
    clear hB hqz5 hqz11 hL
    obtain ⟨k, hkd, rfl, hB, hL⟩ := hrel
    by_cases hk : k < d
    · obtain ⟨X9, hX9⟩ : ∃ z9, xs[k]? = some z9 := ⟨_, List.getElem?_eq_getElem (by omega)⟩
      obtain ⟨R, hR9⟩ : ∃ z9, rs[L]? = some z9 := ⟨_, List.getElem?_eq_getElem (by omega)⟩
      have hX9b := inP.get hxp hX9
      have hRb := inP.get hrp hR9
      obtain ⟨V, hV⟩ : ∃ z9 : Int, (if k = 0 then 0 else rs[k - 1]?.getD 0) = z9 := ⟨_, rfl⟩
      have hVb : 0 ≤ V ∧ V < p := by rw [← hV]; exact inP.prev hrp (by omega) (by omega)
      obtain ⟨S1, hS1⟩ : ∃ z9 : Int, p - R = z9 := ⟨_, rfl⟩
      obtain ⟨M1, hM1⟩ : ∃ z9 : Int, S1 * X9 = z9 := ⟨_, rfl⟩
      have hMb := mul_b9 (a := S1) (b := X9) (by omega) (by omega)
      rw [hM1] at hMb
      obtain ⟨A1, hA1⟩ : ∃ z9 : Int, V + M1 = z9 := ⟨_, rfl⟩
      obtain ⟨X, hX0⟩ : ∃ z9 : Int, A1 % p = z9 := ⟨_, rfl⟩
      have HS1 : Hid (IntKind.i64.wrap (p - R) = S1) := Lib.hid (by rw [hS1]; exact IntWalk.i64_in _ (by omega))
      have HM1 : Hid (IntKind.i64.wrap (S1 * X9) = M1) := Lib.hid (by rw [hM1]; exact IntWalk.i64_in _ (by omega))
      have HA1 : Hid (IntKind.i64.wrap (V + M1) = A1) := Lib.hid (by rw [hA1]; exact IntWalk.i64_in _ (by omega))
      have HX0 : Hid (A1.tmod p = X) := Lib.hid (by rw [← hX0]; exact Int.tmod_eq_emod_of_nonneg (by omega))
      have HVo : Hid ((mixR NEW OLD k)[k]? = some V) := Lib.hid (by rw [mixR_get HN1.out hk, ← HOLD.out, sh_get (by omega) (by omega), hV])
      have HSet : Hid ((mixR NEW OLD k).set k X = mixR NEW OLD (k + 1)) := Lib.hid (mixR_set HN1.out HN2.out hk (by rw [← HNEW.out, stepR_get _ _ _ (by omega)]; unfold stR; rw [show rs.length - 1 = L by omega, hR9, hX9, Option.getD_some, Option.getD_some, hV, hS1, hM1, hA1, hX0]))
      have HLen : Hid ((mixR NEW OLD k).length = d) := Lib.hid (mixR_len HN1.out HN2.out (by omega))
      have HXg := Lib.hid hX9
      have HRg := Lib.hid hR9
      have hp0 : p ≠ 0 := by omega
      clear hX9 hR9 hV hS1 hM1 hA1 hX0 hMb
      go_upto_region 4 with (fail)
      refine wp_region_lit ?_
      refine ls_ex (some 23) (.bool true) rfl rfl (exec_lss _ _ _ _ rfl k d rfl rfl true (decide_eq_true (by omega))) ?_
      go_frame
      refine wpList_nil ?_
      go_upto_region 5 with (fail)
      refine wp_region_lit ?_
      refine ls_ex (some 24) (.int .i64 k) rfl rfl (exec_move _ rfl (.int .i64 k) rfl) ?_
      go_frame
      refine ls_ex (some 25) (.pointer (some ⟨bB, oB + k * 1, none⟩)) rfl rfl (exec_index_slice _ 2 _ _ rfl bB oB d cB k 1 rfl rfl Try.underlying22 (by kernel_rfl) hk) ?_
      go_frame
      refine ls_ex (some 26) (.int .i64 X9) rfl rfl (exec_load_one 2 _ rfl bB (oB + k * 1) rfl (.int .i64 X9) _ Try.underlying2 rfl (RdI.c1r (hX.keep hB) HXg.out)) ?_
      go_frame
      refine ls_ex (some 9) (.int .i64 k) rfl rfl (exec_assign _ rfl (.int .i64 k) rfl) ?_
      go_frame
      refine ls_ex (some 10) (.int .i64 X9) rfl rfl (exec_assign _ rfl (.int .i64 X9) rfl) ?_
      go_frame
      refine wpList_nil ?_
      go_upto_region 6 with (fail)
      refine wp_region_y (zs := [18]) (S := fun w' => Below w.heap.size w w') (S2 := fun w' => At w' g (.cells (iarZ (mixR NEW OLD k) Z) 2 (0, 0))) (by kernel_rfl) ?_
      change wpAnyY _ _ _ _ _ _ _ _ _ _ (World.drew _)
      generalize hwdz17 : World.drew _ = wdz17
      replace hB : Below w.heap.size w wdz17 := by rw [← hwdz17]; exact hB.drew
      replace hL : At wdz17 g (.cells (iarZ (mixR NEW OLD k) Z) 2 (0, 0)) := by rw [← hwdz17]; exact hL
      clear hwdz17
      refine y_yield 0 (some 27) (.slice (some ⟨g, 0, none⟩) d c8) rfl (by kernel_rfl) (by kernel_rfl) (by kernel_rfl) (fun _ _ _ h => h) rfl rfl hB (fun w' h' => exec_move _ rfl (.slice (some ⟨g, 0, none⟩) d c8) rfl) ?_
      go_frame
      refine y_yield 1 (some 28) (.int .i64 k) rfl (by kernel_rfl) (by kernel_rfl) (by kernel_rfl) (fun _ _ _ h => h) rfl rfl hB (fun w' h' => exec_move _ rfl (.int .i64 k) rfl) ?_
      go_frame
      refine y_yield 2 (some 29) (.slice (some ⟨g, 0, none⟩) d c8) rfl (by kernel_rfl) (by kernel_rfl) (by kernel_rfl) (fun _ _ _ h => h) rfl rfl hB (fun w' h' => exec_move _ rfl (.slice (some ⟨g, 0, none⟩) d c8) rfl) ?_
      go_frame
      refine y_yield 3 (some 30) (.int .i64 k) rfl (by kernel_rfl) (by kernel_rfl) (by kernel_rfl) (fun _ _ _ h => h) rfl rfl hB (fun w' h' => exec_move _ rfl (.int .i64 k) rfl) ?_
      go_frame
      refine y_yield 4 (some 31) (.pointer (some ⟨g, k * 1, none⟩)) rfl (by kernel_rfl) (by kernel_rfl) (by kernel_rfl) (fun _ _ _ h => h) rfl rfl hB (fun w' h' => exec_ix0 _ 2 _ _ rfl g d c8 k 1 rfl rfl Try.underlying22 (by kernel_rfl) hk) ?_
      go_frame
      refine y_yield2 5 (some 32) (.int .i64 V) rfl (by kernel_rfl) (by kernel_rfl) (by kernel_rfl) (by kernel_rfl) (fun _ _ _ h => h) rfl rfl hB hL (fun w' h' h2' => exec_load_one 2 _ rfl g (k * 1) rfl (.int .i64 V) _ Try.underlying2 rfl (cell_iarZ h2' HVo.out)) ?_
      go_frame
      refine y_yield 6 (some 33) (.int .i64 p) rfl (by kernel_rfl) (by kernel_rfl) (by kernel_rfl) (fun _ _ _ h => h) rfl rfl hB (fun w' h' => exec_move _ rfl (.int .i64 p) rfl) ?_
      go_frame
      refine y_yield 7 (some 34) (.slice (some ⟨bA, oA, none⟩) d cA) rfl (by kernel_rfl) (by kernel_rfl) (by kernel_rfl) (fun _ _ _ h => h) rfl rfl hB (fun w' h' => exec_move _ rfl (.slice (some ⟨bA, oA, none⟩) d cA) rfl) ?_
      go_frame
      refine y_yield 8 (some 35) (.int .i64 L) rfl (by kernel_rfl) (by kernel_rfl) (by kernel_rfl) (fun _ _ _ h => h) rfl rfl hB (fun w' h' => exec_move _ rfl (.int .i64 L) rfl) ?_
      go_frame
      refine y_yield 9 (some 36) (.pointer (some ⟨bA, oA + L * 1, none⟩)) rfl (by kernel_rfl) (by kernel_rfl) (by kernel_rfl) (fun _ _ _ h => h) rfl rfl hB (fun w' h' => exec_index_slice _ 2 _ _ rfl bA oA d cA L 1 rfl rfl Try.underlying22 (by kernel_rfl) hLd) ?_
      go_frame
      refine y_yield 10 (some 37) (.int .i64 R) rfl (by kernel_rfl) (by kernel_rfl) (by kernel_rfl) (fun _ _ _ h => h) rfl rfl hB (fun w' h' => exec_load_one 2 _ rfl bA (oA + L * 1) rfl (.int .i64 R) _ Try.underlying2 rfl (RdI.c1r (hR.keep h') HRg.out)) ?_
      go_frame
      refine y_yield 11 (some 38) (.int .i64 S1) rfl (by kernel_rfl) (by kernel_rfl) (by kernel_rfl) (fun _ _ _ h => h) rfl rfl hB (fun w' h' => exec_sub _ _ _ _ rfl p R S1 rfl rfl HS1.out) ?_
      go_frame
      refine y_yield 12 (some 39) (.int .i64 X9) rfl (by kernel_rfl) (by kernel_rfl) (by kernel_rfl) (fun _ _ _ h => h) rfl rfl hB (fun w' h' => exec_move _ rfl (.int .i64 X9) rfl) ?_
      go_frame
      refine y_yield 13 (some 40) (.int .i64 M1) rfl (by kernel_rfl) (by kernel_rfl) (by kernel_rfl) (fun _ _ _ h => h) rfl rfl hB (fun w' h' => exec_mul _ _ _ _ rfl S1 X9 M1 rfl rfl HM1.out) ?_
      go_frame
      refine y_yield 14 (some 41) (.int .i64 A1) rfl (by kernel_rfl) (by kernel_rfl) (by kernel_rfl) (fun _ _ _ h => h) rfl rfl hB (fun w' h' => exec_add _ _ _ _ rfl V M1 A1 rfl rfl HA1.out) ?_
      go_frame
      refine y_yield 15 (some 42) (.int .i64 p) rfl (by kernel_rfl) (by kernel_rfl) (by kernel_rfl) (fun _ _ _ h => h) rfl rfl hB (fun w' h' => exec_move _ rfl (.int .i64 p) rfl) ?_
      go_frame
      refine y_yield 16 (some 43) (.int .i64 X) rfl (by kernel_rfl) (by kernel_rfl) (by kernel_rfl) (fun _ _ _ h => h) rfl rfl hB (fun w' h' => exec_rem _ _ _ _ rfl A1 p X rfl rfl hp0 HX0.out) ?_
      go_frame
      refine y_yield 17 (some 44) (.pointer (some ⟨g, k * 1, none⟩)) rfl (by kernel_rfl) (by kernel_rfl) (by kernel_rfl) (fun _ _ _ h => h) rfl rfl hB (fun w' h' => exec_ix0 _ 2 _ _ rfl g d c8 k 1 rfl rfl Try.underlying22 (by kernel_rfl) hk) ?_
      go_frame
      refine y_oper 18 (by kernel_rfl) rfl rfl (fun K' hK' => ?_)
      refine wp_store_one 2 _ _ rfl rfl g (k * 1) rfl (.int .i64 X) rfl rfl rfl _ _ hL (by kernel_rfl) (by rw [iarZ_size, HLen.out]; omega) (fun Wz18 pz19 => ?_)
      replace hB := pz19.below hB (by omega)
      replace hL : At Wz18 g (.cells (iarZ (mixR NEW OLD (k + 1)) Z) 2 (0, 0)) := by have h9 := pz19.at_; rwa [Nat.mul_one, iarZ_set _ (by rw [HLen.out]; exact hk), HSet.out] at h9
      refine hK' _ _ hB (fun h => absurd (by decide) h) ?_
      clear hK' K' pz19
      refine y_done (by kernel_rfl) ?_ _
      go_upto_region 7 with (fail)
      refine wp_region_lit ?_
      refine ls_ex (some 45) (.int .i64 (k + 1)) rfl rfl (exec_add _ _ _ _ rfl k 1 (k + 1) rfl rfl (IntWalk.i64_in _ (by omega))) ?_
      go_frame
      refine ls_ex (some 22) (.int .i64 (k + 1)) rfl rfl (exec_move _ rfl (.int .i64 (k + 1)) rfl) ?_
      go_frame
      refine wpList_nil ?_
      go_wp2_with fail
      go_roundw
      case rel => exact ⟨k + 1, by omega, by go_num, hB, hL⟩
      case measure => simp [intOf]; omega
    · have HE : Hid (mixR NEW OLD k = stepR p xs rs) := Lib.hid (by rw [show k = d by omega, mixR_all HN1.out HN2.out, HNEW.out])
      rw [HE.out] at hL
      go_upto_region 4 with (fail)
      refine wp_region_lit ?_
      refine ls_ex (some 23) (.bool false) rfl rfl (exec_lss _ _ _ _ rfl k d rfl rfl false (decide_eq_false (by omega))) ?_
      go_frame
      refine wpList_nil ?_
      go_upto_region 8 with (fail)
      refine wp_region_lit ?_
      refine ls_ex (some 46) (.slice (some ⟨g, 0, none⟩) d c8) rfl rfl (exec_move _ rfl (.slice (some ⟨g, 0, none⟩) d c8) rfl) ?_
      go_frame
      refine ls_ex (some 6) (.slice (some ⟨g, 0, none⟩) d c8) rfl rfl (exec_assign _ rfl (.slice (some ⟨g, 0, none⟩) d c8) rfl) ?_
      go_frame
      refine wpList_nil ?_
      go_wp2_with fail
      go_ret
      exact ⟨_, rfl, OwnI.ofZ hL hgw HSl.out hcZ hcm, hB⟩
end Go.Proofs.Ytdbcgbbokodndaa
