/-
  impl.ContractTensor. (Made by mkct.py.)
-/
import Derived.Test.YtolgfpcadfjliaaTen7Ct
import Derived.Test.YtolgfpcadfjliaaSl5
namespace Go.Proofs.Ytolgfpcadfjliaa
open Go.RowKit
set_option maxRecDepth 100000
theorem inB_of {p : Int} {xs : List Int} {t : Nat} {X : Int} (h : numsB p xs = true) (hX : xs[t]? = some X) : 0 ≤ X ∧ X < p := by
  unfold numsB at h
  have h9 := List.all_eq_true.1 h X (List.mem_of_getElem? hX)
  simpa [inB] using h9
theorem nth_in {p : Int} {xs : List Int} (h : numsB p xs = true) (hp : 0 < p) (t : Int) : 0 ≤ nthI xs t ∧ nthI xs t < p := by
  unfold nthI
  rcases hx : xs[t.toNat]? with _ | X
  · exact ⟨Int.le_refl _, hp⟩
  · exact inB_of h hx
theorem RdI.c1S {w : World} {b off : Nat} {xs : List Int} {X : Int} {i : Nat} (h : RdI w (some ⟨b, off, none⟩) xs) (hi : xs[i]? = some X) : w.cell? ⟨b, off + i * 1, none⟩ = some (.int .i64 X) := by
  have hlt : i < xs.length := by
    rcases Nat.lt_or_ge i xs.length with h9 | h9
    · exact h9
    · rw [List.getElem?_eq_none h9] at hi; cases hi
  obtain ⟨b', off', hA0, hc⟩ := h.at_ hlt
  cases hA0
  rw [List.getElem?_eq_getElem hlt] at hi
  cases hi
  rw [Nat.mul_one]
  exact hc
theorem numberAtN_c (p : Int) (a b c : Nat) (A : Option Addr) (cap N : Nat) (xs : List Int) (i j k : Nat) (w : World) (hr : RdI w A xs) (hN : xs.length = N) (hl : a * b * c = N) (ha : a ≤ 9) (hb : b ≤ 9) (hc : c ≤ 9) (hi : i < a) (hj : j < b) (hk : k < c) :
    Calls Try.prog 41 #[.agg #[.int .i64 p, .int .i64 a, .int .i64 b, .int .i64 c, .slice A N cap], .int .i64 i, .int .i64 j, .int .i64 k] w fun e w' => e = .returned (.int .i64 (nthI xs ((((i : Nat) : Int) * b + (j : Nat)) * c + (k : Nat)))) ∧ Below w.heap.size w w' := by
  subst hN
  exact numberAt_c p a b c A cap xs i j k w hr (by rw [← hl]; simp) (by omega) (by omega) (by omega) (by omega) (by omega) (by omega) (by omega) (by omega) (by omega)
theorem isListD_c (A : Option Addr) (c : Nat) (p : Int) (d : Nat) (xs : List Int) (w : World) (hr : RdI w A xs) (hd : xs.length = d) (hn : d ≤ 1048576) :
    Calls Try.prog 38 #[.int .i64 p, .int .i64 d, .slice A d c] w fun e w' => e = .returned (.bool (listB p d xs)) ∧ Below w.heap.size w w' := by
  subst hd
  exact isList_c A c p xs.length xs w hr hn
theorem exec_build_boxT {o : Oper} {a : Act} {w : World} (x y z : Operand) (ho : o.op = .build 52 #[(0, x), (1, y), (2, z)]) (n m k : Int) (hx : a.eval x = .int .i64 n) (hy : a.eval y = .int .i64 m) (hz : a.eval z = .int .i64 k) :
    (execOp a.eval o).run Try.prog w = .ok (.value (.agg #[.int .i64 n, .int .i64 m, .int .i64 k])) w := by
  have hb : Try.prog.built 52 [(0, .int .i64 n), (1, .int .i64 m), (2, .int .i64 k)] = some #[.int .i64 n, .int .i64 m, .int .i64 k] := by kernel_rfl
  unfold execOp
  have := run_build (P := Try.prog) w 52 #[(0, .int .i64 n), (1, .int .i64 m), (2, .int .i64 k)] _ hb
  simp [ho, hx, hy, hz, this]

theorem exec_mkfn2 {P : Program} {o : Oper} {a : Act} {w : World} (f : FuncId) (x y : Operand) (ho : o.op = .makeFunc (.func f) #[] #[x, y]) (u v : Value) (hx : a.eval x = u) (hy : a.eval y = v) : (execOp a.eval o).run P w = .ok (.value (.func (.func f) #[] #[u, v])) w := by
  subst hx hy
  unfold execOp
  simp only [ho]
  simp [go_sem]
attribute [local irreducible] wpList
theorem m4c {a b : Int} (ha : 0 ≤ a ∧ a ≤ 4) (hb : 0 ≤ b ∧ b ≤ 4) : 0 ≤ a * b ∧ a * b ≤ 16 := by
  have h : b = 0 ∨ b = 1 ∨ b = 2 ∨ b = 3 ∨ b = 4 := by omega
  rcases h with rfl | rfl | rfl | rfl | rfl <;> omega
theorem tot_congr {row row' : Nat → List Int} {n : Nat} (he : ∀ i, i < n → row i = row' i) : ∀ i, i ≤ n → tot row i = tot row' i
  | 0, _ => rfl
  | i + 1, h => by rw [tot, tot, tot_congr he i (by omega), he i (by omega)]
theorem OwnR.congrR {w : World} {lo hi n : Nat} {v : Value} {row row' : Nat → List Int} (h : OwnR w lo hi v n row) (he : ∀ i, i < n → row i = row' i) : OwnR w lo hi v n row' := by
  rcases h with h0 | ⟨g, c, cs, G, D, hv, hm⟩
  · exact .inl h0
  · exact .inr ⟨g, c, cs, G, D, hv, hm.out, hm.og, fun i hi => by rw [← he i hi, ← tot_congr he i (by omega)]; exact hm.cell i hi, hm.blk, hm.oG, by rw [← tot_congr he n (by omega)]; exact hm.size, fun i hi => by rw [← he i hi, ← tot_congr he i (by omega)]; exact hm.nums i hi⟩
/-- The sum at a row and a column, over so many numbers. -/
def ctS (ns xs : List Int) (b d j k : Nat) : Nat → Int
  | 0 => 0
  | t + 1 => ctS ns xs b d j k t + (ns[t]?.getD 0) * nthI xs ((((t : Nat) : Int) * b + (j : Nat)) * d + (k : Nat))
theorem ctS_b {p : Int} {ns xs : List Int} {b d j k : Nat} (hx : numsB p xs = true) (hn : numsB p ns = true) (hp : p ≤ 5) (hp0 : 0 < p) (t : Nat) : 0 ≤ ctS ns xs b d j k t ∧ ctS ns xs b d j k t ≤ 16 * t := by
  induction t with
  | zero => simp [ctS]
  | succ t ih =>
    have h1 := nth_in hx hp0 ((((t : Nat) : Int) * b + (j : Nat)) * d + (k : Nat))
    have h2 : 0 ≤ ns[t]?.getD 0 ∧ ns[t]?.getD 0 ≤ 4 := by
      rcases h : ns[t]? with _ | U
      · simp
      · have := inB_of hn h
        simp only [Option.getD_some]
        omega
    have h3 := m4c h2 (show 0 ≤ nthI xs ((((t : Nat) : Int) * b + (j : Nat)) * d + (k : Nat)) ∧ nthI xs ((((t : Nat) : Int) * b + (j : Nat)) * d + (k : Nat)) ≤ 4 by omega)
    rw [ctS]
    omega
/-- The rows that the contraction makes. -/
def ctR (p : Int) (ns xs : List Int) (a b d : Nat) (j : Nat) : List Int := (List.range d).map fun k => ctS ns xs b d j k a % p
theorem ctR_len (p : Int) (ns xs : List Int) (a b d j : Nat) : (ctR p ns xs a b d j).length = d := by simp [ctR]
def ctL (p : Int) (ns xs : List Int) (a b d : Nat) : List Int := genL b d p (fun _ j k => ctS ns xs b d j k a) (1 * b * d)
theorem ctR_eq {p : Int} {ns xs : List Int} {a b d j : Nat} (hj : j < b) : slR d (((ctL p ns xs a b d).drop (0 * (b * d))).take (b * d)) j = ctR p ns xs a b d j := by
  have hl : (ctL p ns xs a b d).length = b * d := by rw [ctL, genL_len, Nat.one_mul]
  rw [Nat.zero_mul, List.drop_zero, List.take_of_length_le (by omega)]
  apply List.ext_getElem?
  intro k
  rcases Nat.lt_or_ge k d with hk | hk
  · have h3 : j * d + k < b * d := by
      have h5 : (j + 1) * d ≤ b * d := Nat.mul_le_mul_right _ hj
      rw [Nat.succ_mul] at h5
      omega
    have h4 := gen_at (n1 := b) (n2 := d) (p := p) (f := fun _ j k => ctS ns xs b d j k a) (i := 0) hj hk
    rw [Nat.zero_mul, Nat.zero_add] at h4
    simp only [slR, List.getElem?_take, List.getElem?_drop, if_pos hk, ctR, ctL, genL, List.getElem?_map, List.getElem?_range hk, Option.map_some]
    rw [Nat.one_mul, List.getElem?_range h3, Option.map_some, h4]
  · rw [List.getElem?_eq_none (by simp [slR, hl]; omega), List.getElem?_eq_none (by rw [ctR_len]; exact hk)]
theorem ctL_ten {p : Int} {ns xs : List Int} {a b d : Nat} (h : tenB p a b d xs = true) : tenB p (1 : Nat) b d (ctL p ns xs a b d) = true := by
  obtain ⟨h1, h2, h3, h4, h5, h6⟩ := ten_parts h
  have hp := prime_le5 h1
  unfold tenB sideB
  simp only [Bool.and_eq_true, decide_eq_true_eq]
  refine ⟨⟨⟨⟨⟨h1, by omega⟩, by omega⟩, by omega⟩, by rw [ctL, genL_len]; simp⟩, ?_⟩
  unfold numsB ctL genL
  rw [List.all_eq_true]
  intro x hx
  obtain ⟨t, _, rfl⟩ := List.mem_map.1 hx
  have e1 : ∀ z : Int, 0 ≤ z % p ∧ z % p < p := fun z => ⟨Int.emod_nonneg _ (by omega), Int.emod_lt_of_pos _ (by omega)⟩
  simp only [inB, gen, Bool.and_eq_true]
  exact ⟨decide_eq_true (e1 _).1, decide_eq_true (e1 _).2⟩
theorem OwnI.open0 {w : World} {lo n : Nat} {v : Value} {xs : List Int} (h : OwnI w lo v xs) (hn : xs.length = n) (hp : 0 < n) : ∃ g c, v = .slice (some ⟨g, 0, none⟩) n c ∧ n ≤ c ∧ lo ≤ g := by
  obtain ⟨g, c, _, h1, h2, h3, _⟩ := ownI_openC h hn hp
  exact ⟨g, c, h1, h3, h2⟩
def ctOK (p a b d S : Int) (ls xs : List Int) : Bool := tenB p a b d xs && (inB S 3 && listB p (if S = 0 then a else if S = 1 then b else d) ls)
def cnN (p a b d S : Int) (ls xs : List Int) : Nat := if ctOK p a b d S ls xs = true then (slQ p a b d S xs).2.1 else 0
def cnG (p : Int) (ls : List Int) (q : Nat × Nat × Nat × List Int) : Nat → List Int := ctR p ls q.2.2.2 q.1 q.2.1 q.2.2.1
def cnF (p a b d S : Int) (ls xs : List Int) : Nat → List Int := cnG p ls (slQ p a b d S xs)
def cnCode (p a b d S : Int) (ls xs : List Int) : Int := if tenB p a b d xs = true then (if ctOK p a b d S ls xs = true then 0 else 2) else 1
theorem listB_parts {p : Int} {n : Nat} {xs : List Int} (h : listB p n xs = true) : xs.length = n ∧ numsB p xs = true := by
  simp [listB] at h
  exact ⟨by omega, h.2⟩
theorem alCt_impl_Tensor {o : Oper} {a : Act} {w : World} (ho : o.op = .alloc 29) : (execOp a.eval o).run Try.prog w = .ok (.value (.pointer (some ⟨w.heap.size, 0, none⟩))) (w.alloc (.cells #[.int .i64 0, .int .i64 0, .int .i64 0, .int .i64 0, .slice none 0 0] 29 (0, 0))) := by
  unfold execOp
  rw [ho]
  kernel_rfl
set_option maxHeartbeats 4000000 in
theorem ct1_c (p : Int) (a b d : Nat) (bB oB c0 N : Nat) (xs : List Int) (bN oN cN NS : Nat) (ns : List Int) (i j k g0 g1 : Nat) (w : World) (hX : RdI w (some ⟨bB, oB, none⟩) xs) (hxl : xs.length = N) (hs : tenB p a b d xs = true) (hN : RdI w (some ⟨bN, oN, none⟩) ns) (hnl : ns.length = NS) (hn : numsB p ns = true) (hNa : a = NS) (h3 : At w g0 (.cells #[.slice (some ⟨bN, oN, none⟩) NS cN] 22 (0, 0))) (h4 : At w g1 (.cells #[.int .i64 p, .int .i64 a, .int .i64 b, .int .i64 d, .slice (some ⟨bB, oB, none⟩) N c0] 29 (0, 0))) (hj : j < b) (hk : k < d) :
    Calls Try.prog 40 #[.int .i64 i, .int .i64 j, .int .i64 k, .pointer (some ⟨g0, 0, none⟩), .pointer (some ⟨g1, 0, none⟩)] w (fun e w' => e = .returned (.int .i64 (ctS ns xs b d j k a)) ∧ Below w.heap.size w w') := by
  have hB := Below.refl w.heap.size w
  have hp5 := (prime_le5 (ten_parts hs).1).2
  have hp2 := (prime_le5 (ten_parts hs).1).1
  have hdm := (ten_parts hs).2
  have ha0 := hdm.1
  have hb0 := hdm.2.1
  have hd0 := hdm.2.2.1
  have HN3 : Hid (a * b * d = N) := Lib.hid (by rw [← hxl]; exact hdm.2.2.2.1.symm)
  have HNb := Lib.hid hdm.2.2.2.2
  have HMb := Lib.hid hn
  have HXl := Lib.hid hxl
  clear hxl hs hn hdm
  go_enter Try.func40, Try.ntmps40
  go_upto_region 0 with (fail)
  refine wp_region_lit ?_
  refine ls_ex (some 8) (.int .i64 0) rfl rfl (exec_assign _ rfl (.int .i64 0) rfl) ?_
  go_frame
  refine wpList_nil ?_
  go_upto_region 1 with (fail)
  refine wp_region_lit ?_
  refine ls_ex (some 9) (.int .i64 0) rfl rfl (exec_assign _ rfl (.int .i64 0) rfl) ?_
  go_frame
  refine wpList_nil ?_
  go_upto_region 2 with (fail)
  refine wp_region_lit ?_
  refine ls_ex (some 12) (.slice (some ⟨bN, oN, none⟩) NS cN) rfl rfl (exec_load_one 22 _ rfl g0 0 rfl (.slice (some ⟨bN, oN, none⟩) NS cN) _ Try.underlying22 rfl (h3.at_ 0)) ?_
  go_frame
  refine ls_ex (some 13) (.int .i64 NS) rfl rfl (exec_len _ 22 2 rfl ((some ⟨bN, oN, none⟩)) NS cN rfl Try.underlying22) ?_
  go_frame
  refine ls_ex (some 14) (.int .i64 0) rfl rfl (exec_move _ rfl (.int .i64 0) rfl) ?_
  go_frame
  refine wpList_nil ?_
  go_wp2_with fail
  go_loopw [9, 14] (fun s9 s14 wr => ∃ t : Nat, t ≤ a ∧ s14 = .int .i64 t ∧ s9 = .int .i64 (ctS ns xs b d j k t) ∧ Below w.heap.size w wr ∧ At wr g0 (.cells #[.slice (some ⟨bN, oN, none⟩) NS cN] 22 (0, 0)) ∧ At wr g1 (.cells #[.int .i64 p, .int .i64 a, .int .i64 b, .int .i64 d, .slice (some ⟨bB, oB, none⟩) N c0] 29 (0, 0))) (fun _ s14 _ => a - (intOf s14).toNat)
  case atStart => exact ⟨0, by omega, rfl, rfl, hB, h3, h4⟩
  case round =>
    clear hB h3 h4
    obtain ⟨t, hle, rfl, rfl, hB, h3, h4⟩ := hrel
    by_cases hlt : t < a
    · obtain ⟨X, hX9⟩ : ∃ z9, nthI xs ((((t : Nat) : Int) * b + (j : Nat)) * d + (k : Nat)) = z9 := ⟨_, rfl⟩
      obtain ⟨U, hU9⟩ : ∃ z9, ns[t]? = some z9 := ⟨_, List.getElem?_eq_getElem (by omega)⟩
      have hXb : 0 ≤ X ∧ X ≤ 4 := by have h9 := nth_in HNb.out (by omega) ((((t : Nat) : Int) * b + (j : Nat)) * d + (k : Nat)); rw [hX9] at h9; omega
      have hUb : 0 ≤ U ∧ U ≤ 4 := by have h9 := inB_of HMb.out hU9; omega
      obtain ⟨M, hM⟩ : ∃ z9, U * X = z9 := ⟨_, rfl⟩
      have hMb := m4c hUb hXb
      rw [hM] at hMb
      have HM : Hid (IntKind.i64.wrap (U * X) = M) := Lib.hid (by rw [hM]; exact IntWalk.i64_in _ (by omega))
      have hS := ctS_b (b := b) (d := d) (j := j) (k := k) HNb.out HMb.out hp5 (by omega) t
      obtain ⟨S, hS9⟩ : ∃ z9, ctS ns xs b d j k t = z9 := ⟨_, rfl⟩
      rw [hS9] at hS ⊢
      have HS : Hid (IntKind.i64.wrap (S + M) = ctS ns xs b d j k (t + 1)) := Lib.hid (by rw [ctS, hU9, Option.getD_some, hX9, hM, hS9]; exact IntWalk.i64_in _ (by omega))
      have hlt9 : t < NS := by omega
      have HXg := Lib.hid hX9
      have HUg := Lib.hid hU9
      clear hX9 hU9 hM hS9
      go_upto_region 3 with (fail)
      refine wp_region_lit ?_
      refine ls_ex (some 15) (.bool true) rfl rfl (exec_lss _ _ _ _ rfl t NS rfl rfl true (decide_eq_true (by omega))) ?_
      go_frame
      refine wpList_nil ?_
      go_upto_region 4 with (fail)
      refine wp_region_lit ?_
      refine ls_ex (some 16) (.int .i64 t) rfl rfl (exec_move _ rfl (.int .i64 t) rfl) ?_
      go_frame
      refine ls_ex (some 17) (.pointer (some ⟨bN, oN + t * 1, none⟩)) rfl rfl (exec_index_slice _ 2 _ _ rfl bN oN NS cN t 1 rfl rfl Try.underlying22 (by kernel_rfl) hlt9) ?_
      go_frame
      refine ls_ex (some 18) (.int .i64 U) rfl rfl (exec_load_one 2 _ rfl bN (oN + t * 1) rfl (.int .i64 U) _ Try.underlying2 rfl (RdI.c1S (hN.keep hB) HUg.out)) ?_
      go_frame
      refine ls_ex (some 10) (.int .i64 t) rfl rfl (exec_assign _ rfl (.int .i64 t) rfl) ?_
      go_frame
      refine ls_ex (some 11) (.int .i64 U) rfl rfl (exec_assign _ rfl (.int .i64 U) rfl) ?_
      go_frame
      refine wpList_nil ?_
      go_upto_region 5 with (fail)
      refine wp_region_lit ?_
      refine ls_ex (some 19) (.int .i64 S) rfl rfl (exec_move _ rfl (.int .i64 S) rfl) ?_
      go_frame
      refine ls_ex (some 20) (.int .i64 U) rfl rfl (exec_move _ rfl (.int .i64 U) rfl) ?_
      go_frame
      refine ls_ex (some 21) (.agg #[.int .i64 p, .int .i64 a, .int .i64 b, .int .i64 d, .slice (some ⟨bB, oB, none⟩) N c0]) rfl rfl (exec_load_all 29 _ rfl g1 rfl _ _ _ h4 Try.underlying29 rfl 5 (by kernel_rfl) rfl) ?_
      go_frame
      refine ls_ex (some 22) (.int .i64 t) rfl rfl (exec_move _ rfl (.int .i64 t) rfl) ?_
      go_frame
      refine ls_ex (some 23) (.int .i64 j) rfl rfl (exec_move _ rfl (.int .i64 j) rfl) ?_
      go_frame
      refine ls_ex (some 24) (.int .i64 k) rfl rfl (exec_move _ rfl (.int .i64 k) rfl) ?_
      go_frame
      refine ls_op rfl (fun K' hK' => ?_)
      have lz3 := hB.size
      have lz4 := h3.lt
      have lz5 := h4.lt
      refine wp_call4 (some 25) rfl 41 _ _ _ _ _ rfl (fun args w => by kernel_rfl) _ _ _ _ rfl rfl rfl rfl _ (numberAtN_c p a b d (some ⟨bB, oB, none⟩) c0 N xs t j k _ (hX.keep hB) HXl.out HN3.out ha0.2 hb0.2 hd0.2 hlt hj hk) (fun e Wz1 h => ?_)
      obtain ⟨rfl, bz2⟩ := h
      replace hB := below_after hB bz2
      replace h3 := h3.after bz2
      replace h4 := h4.after bz2
      rw [HXg.out]
      clear bz2
      refine ⟨_, rfl, ?_⟩
      refine hK' _ _ ?_
      clear hK' K'
      go_frame
      refine ls_ex (some 26) (.int .i64 M) rfl rfl (exec_mul _ _ _ _ rfl U X M rfl rfl HM.out) ?_
      go_frame
      refine ls_ex (some 27) (.int .i64 (ctS ns xs b d j k (t + 1))) rfl rfl (exec_add _ _ _ _ rfl S M (ctS ns xs b d j k (t + 1)) rfl rfl HS.out) ?_
      go_frame
      refine ls_ex (some 9) (.int .i64 (ctS ns xs b d j k (t + 1))) rfl rfl (exec_assign _ rfl (.int .i64 (ctS ns xs b d j k (t + 1))) rfl) ?_
      go_frame
      refine wpList_nil ?_
      go_upto_region 6 with (fail)
      refine wp_region_lit ?_
      refine ls_ex (some 28) (.int .i64 (t + 1)) rfl rfl (exec_add _ _ _ _ rfl t 1 (t + 1) rfl rfl (IntWalk.i64_in _ (by omega))) ?_
      go_frame
      refine ls_ex (some 14) (.int .i64 (t + 1)) rfl rfl (exec_move _ rfl (.int .i64 (t + 1)) rfl) ?_
      go_frame
      refine wpList_nil ?_
      go_wp2_with fail
      go_roundw
      case rel => exact ⟨t + 1, by omega, by go_num, rfl, hB, h3, h4⟩
      case measure => simp [intOf] <;> omega
    · have hta : t = a := by omega
      go_upto_region 3 with (fail)
      refine wp_region_lit ?_
      refine ls_ex (some 15) (.bool false) rfl rfl (exec_lss _ _ _ _ rfl t NS rfl rfl false (decide_eq_false (by omega))) ?_
      go_frame
      refine wpList_nil ?_
      go_upto_region 7 with (fail)
      refine wp_region_lit ?_
      refine ls_ex (some 29) (.int .i64 (ctS ns xs b d j k t)) rfl rfl (exec_move _ rfl (.int .i64 (ctS ns xs b d j k t)) rfl) ?_
      go_frame
      refine ls_ex (some 8) (.int .i64 (ctS ns xs b d j k t)) rfl rfl (exec_assign _ rfl (.int .i64 (ctS ns xs b d j k t)) rfl) ?_
      go_frame
      refine wpList_nil ?_
      go_wp2_with fail
      go_ret
      rw [← hta]
      exact ⟨rfl, hB⟩
set_option maxHeartbeats 4000000 in
theorem implCt_a (p a b d S : Int) (A : Option Addr) (c : Nat) (xs : List Int) (AL : Option Addr) (cL : Nat) (ls : List Int) (w : World) (hX : RdI w A xs) (hlen : xs.length ≤ 1048576) (hs : tenB p a b d xs = false) :
    Calls Try.prog 17 #[.agg #[.int .i64 p, .int .i64 a, .int .i64 b, .int .i64 d, .slice A xs.length c], .int .i64 S, .slice AL ls.length cL] w (ResR w (cnN p a b d S ls xs) (cnF p a b d S ls xs) (cnCode p a b d S ls xs)) := by
  have hB := Below.refl w.heap.size w
  have HN : Hid (cnN p a b d S ls xs = 0) := Lib.hid (by unfold cnN ctOK; rw [hs]; rfl)
  have HC : Hid (cnCode p a b d S ls xs = 1) := Lib.hid (by unfold cnCode; rw [hs]; rfl)
  have Hs := Lib.hid hs
  clear hs
  go_enter Try.func17, Try.ntmps17
  go_upto_region 0 with (fail)
  refine wp_region_lit ?_
  refine ls_op rfl (fun K' hK' => ?_)
  have lz1 := hB.size
  refine wp_new (some 3) rfl (exec_box 29 _ rfl (#[.int .i64 p, .int .i64 a, .int .i64 b, .int .i64 d, .slice A xs.length c]) rfl) (fun Wz2 nnz3 => ?_)
  have bz4 := nnz3.below (Below.refl _ _) (Nat.le_refl _)
  replace hB := below_after hB bz4
  have hz5 : At Wz2 w.heap.size (.cells #[.int .i64 p, .int .i64 a, .int .i64 b, .int .i64 d, .slice A xs.length c] 29 (0, 0)) := nnz3.at_
  refine hK' _ _ ?_
  clear hK' K' nnz3 bz4
  go_frame
  refine ls_op rfl (fun K' hK' => ?_)
  have lz6 := hB.size
  have lz7 := hz5.lt
  refine wp_new (some 5) rfl (exec_box 22 _ rfl (#[.slice AL ls.length cL]) rfl) (fun Wz8 nnz9 => ?_)
  have bz10 := nnz9.below (Below.refl _ _) (Nat.le_refl _)
  replace hB := below_after hB bz10
  replace hz5 := hz5.after bz10
  have hz11 : At Wz8 Wz2.heap.size (.cells #[.slice AL ls.length cL] 22 (0, 0)) := nnz9.at_
  refine hK' _ _ ?_
  clear hK' K' nnz9 bz10
  go_frame
  refine ls_ex (some 6) (.slice none 0 0) rfl rfl (exec_assign _ rfl (.slice none 0 0) rfl) ?_
  go_frame
  refine ls_ex (some 7) (.int .i64 0) rfl rfl (exec_assign _ rfl (.int .i64 0) rfl) ?_
  go_frame
  refine wpList_nil ?_
  go_upto_region 1 with (fail)
  refine wp_region_lit ?_
  refine ls_ex (some 10) (.agg #[.int .i64 p, .int .i64 a, .int .i64 b, .int .i64 d, .slice A xs.length c]) rfl rfl (exec_load_all 29 _ rfl w.heap.size rfl _ _ _ hz5 Try.underlying29 rfl 5 (by kernel_rfl) rfl) ?_
  go_frame
  refine ls_op rfl (fun K' hK' => ?_)
  have lz14 := hB.size
  have lz15 := hz5.lt
  have lz16 := hz11.lt
  refine wp_call1 (some 11) rfl 30 _ _ rfl (fun args w => by kernel_rfl) _ rfl _ (implIsTensor_c p a b d A c xs _ (hX.keep hB) (by omega)) (fun e Wz12 h => ?_)
  obtain ⟨rfl, bz13⟩ := h
  replace hB := below_after hB bz13
  replace hz5 := hz5.after bz13
  replace hz11 := hz11.after bz13
  rw [Hs.out]
  clear bz13
  refine ⟨_, rfl, ?_⟩
  refine hK' _ _ ?_
  clear hK' K'
  go_frame
  refine ls_ex (some 12) (.bool true) rfl rfl (exec_not _ _ rfl false rfl) ?_
  go_frame
  refine wpList_nil ?_
  go_upto_region 2 with (fail)
  refine wp_region_lit ?_
  refine ls_ex (some 6) (.slice none 0 0) rfl rfl (exec_assign _ rfl (.slice none 0 0) rfl) ?_
  go_frame
  refine ls_ex (some 7) (.int .i64 1) rfl rfl (exec_assign _ rfl (.int .i64 1) rfl) ?_
  go_frame
  refine wpList_nil ?_
  go_wp2_with fail
  go_ret2
  exact ⟨_, by rw [HC.out]; rfl, by rw [HN.out]; exact OwnR.nil _ _ _ _, hB⟩
set_option maxHeartbeats 4000000 in
theorem implCt_b (p a b d S : Int) (A : Option Addr) (c : Nat) (xs : List Int) (AL : Option Addr) (cL : Nat) (ls : List Int) (w : World) (hX : RdI w A xs) (hlen : xs.length ≤ 1048576) (hs : tenB p a b d xs = true) (hS : inB S 3 = false) :
    Calls Try.prog 17 #[.agg #[.int .i64 p, .int .i64 a, .int .i64 b, .int .i64 d, .slice A xs.length c], .int .i64 S, .slice AL ls.length cL] w (ResR w (cnN p a b d S ls xs) (cnF p a b d S ls xs) (cnCode p a b d S ls xs)) := by
  have hB := Below.refl w.heap.size w
  have h0 : ctOK p a b d S ls xs = false := by unfold ctOK; rw [hS, Bool.false_and, Bool.and_false]
  have HN : Hid (cnN p a b d S ls xs = 0) := Lib.hid (by unfold cnN; rw [h0]; rfl)
  have HC : Hid (cnCode p a b d S ls xs = 2) := Lib.hid (by unfold cnCode; rw [hs, h0]; rfl)
  have Hs := Lib.hid hs
  have HS3 := Lib.hid hS
  clear hs hS h0
  go_enter Try.func17, Try.ntmps17
  go_upto_region 0 with (fail)
  refine wp_region_lit ?_
  refine ls_op rfl (fun K' hK' => ?_)
  have lz1 := hB.size
  refine wp_new (some 3) rfl (exec_box 29 _ rfl (#[.int .i64 p, .int .i64 a, .int .i64 b, .int .i64 d, .slice A xs.length c]) rfl) (fun Wz2 nnz3 => ?_)
  have bz4 := nnz3.below (Below.refl _ _) (Nat.le_refl _)
  replace hB := below_after hB bz4
  have hz5 : At Wz2 w.heap.size (.cells #[.int .i64 p, .int .i64 a, .int .i64 b, .int .i64 d, .slice A xs.length c] 29 (0, 0)) := nnz3.at_
  refine hK' _ _ ?_
  clear hK' K' nnz3 bz4
  go_frame
  refine ls_op rfl (fun K' hK' => ?_)
  have lz6 := hB.size
  have lz7 := hz5.lt
  refine wp_new (some 5) rfl (exec_box 22 _ rfl (#[.slice AL ls.length cL]) rfl) (fun Wz8 nnz9 => ?_)
  have bz10 := nnz9.below (Below.refl _ _) (Nat.le_refl _)
  replace hB := below_after hB bz10
  replace hz5 := hz5.after bz10
  have hz11 : At Wz8 Wz2.heap.size (.cells #[.slice AL ls.length cL] 22 (0, 0)) := nnz9.at_
  refine hK' _ _ ?_
  clear hK' K' nnz9 bz10
  go_frame
  refine ls_ex (some 6) (.slice none 0 0) rfl rfl (exec_assign _ rfl (.slice none 0 0) rfl) ?_
  go_frame
  refine ls_ex (some 7) (.int .i64 0) rfl rfl (exec_assign _ rfl (.int .i64 0) rfl) ?_
  go_frame
  refine wpList_nil ?_
  go_upto_region 1 with (fail)
  refine wp_region_lit ?_
  refine ls_ex (some 10) (.agg #[.int .i64 p, .int .i64 a, .int .i64 b, .int .i64 d, .slice A xs.length c]) rfl rfl (exec_load_all 29 _ rfl w.heap.size rfl _ _ _ hz5 Try.underlying29 rfl 5 (by kernel_rfl) rfl) ?_
  go_frame
  refine ls_op rfl (fun K' hK' => ?_)
  have lz14 := hB.size
  have lz15 := hz5.lt
  have lz16 := hz11.lt
  refine wp_call1 (some 11) rfl 30 _ _ rfl (fun args w => by kernel_rfl) _ rfl _ (implIsTensor_c p a b d A c xs _ (hX.keep hB) (by omega)) (fun e Wz12 h => ?_)
  obtain ⟨rfl, bz13⟩ := h
  replace hB := below_after hB bz13
  replace hz5 := hz5.after bz13
  replace hz11 := hz11.after bz13
  rw [Hs.out]
  clear bz13
  refine ⟨_, rfl, ?_⟩
  refine hK' _ _ ?_
  clear hK' K'
  go_frame
  refine ls_ex (some 12) (.bool false) rfl rfl (exec_not _ _ rfl true rfl) ?_
  go_frame
  refine wpList_nil ?_
  go_upto_region 3 with (fail)
  refine wp_region_y (zs := []) (S := fun w' => Below w.heap.size w w') (S2 := fun w' => True) (by kernel_rfl) ?_
  change wpAnyY _ _ _ _ _ _ _ _ _ _ (World.drew _)
  generalize hwdz17 : World.drew _ = wdz17
  replace hB : Below w.heap.size w wdz17 := by rw [← hwdz17]; exact hB.drew
  replace hz5 : At wdz17 w.heap.size (.cells #[.int .i64 p, .int .i64 a, .int .i64 b, .int .i64 d, .slice A xs.length c] 29 (0, 0)) := by rw [← hwdz17]; exact hz5
  replace hz11 : At wdz17 Wz2.heap.size (.cells #[.slice AL ls.length cL] 22 (0, 0)) := by rw [← hwdz17]; exact hz11
  clear hwdz17
  refine y_yield 0 (some 13) (.int .i64 S) rfl (by kernel_rfl) (by kernel_rfl) (by kernel_rfl) (fun _ _ _ h => h) rfl rfl hB (fun w' h' => exec_move _ rfl (.int .i64 S) rfl) ?_
  go_frame
  refine y_oper 1 (by kernel_rfl) rfl rfl (fun K' hK' => ?_)
  have lz20 := hB.size
  have lz21 := hz5.lt
  have lz22 := hz11.lt
  refine wp_call2 (some 14) rfl 31 _ _ _ rfl (fun args w => by kernel_rfl) _ _ rfl rfl _ (isIndex_c S 3 _) (fun e Wz18 h => ?_)
  obtain ⟨rfl, rfl⟩ := h
  rw [HS3.out]
  refine ⟨_, rfl, ?_⟩
  refine hK' _ _ hB (fun _ => trivial) ?_
  clear hK' K'
  go_frame
  refine y_yield 2 (some 15) (.bool true) rfl (by kernel_rfl) (by kernel_rfl) (by kernel_rfl) (fun _ _ _ h => h) rfl rfl hB (fun w' h' => exec_not _ _ rfl false rfl) ?_
  go_frame
  refine y_yield 3 (some 16) (.bool true) rfl (by kernel_rfl) (by kernel_rfl) (by kernel_rfl) (fun _ _ _ h => h) rfl rfl hB (fun w' h' => exec_move _ rfl (.bool true) rfl) ?_
  go_frame
  refine y_skip 4 (some 17) rfl (by kernel_rfl) (by kernel_rfl) (by kernel_rfl) (fun _ _ _ h => h) rfl rfl hB ?_
  go_frame
  refine y_skip 5 (some 18) rfl (by kernel_rfl) (by kernel_rfl) (by kernel_rfl) (fun _ _ _ h => h) rfl rfl hB ?_
  go_frame
  refine y_skip 6 (some 19) rfl (by kernel_rfl) (by kernel_rfl) (by kernel_rfl) (fun _ _ _ h => h) rfl rfl hB ?_
  go_frame
  refine y_skip 8 (some 21) rfl (by kernel_rfl) (by kernel_rfl) (by kernel_rfl) (fun _ _ _ h => h) rfl rfl hB ?_
  go_frame
  refine y_skip 10 (some 23) rfl (by kernel_rfl) (by kernel_rfl) (by kernel_rfl) (fun _ _ _ h => h) rfl rfl hB ?_
  go_frame
  refine y_pass 7 (some 20) (by kernel_rfl) rfl rfl rfl hB ?_
  go_frame
  refine y_skip 9 (some 22) rfl (by kernel_rfl) (by kernel_rfl) (by kernel_rfl) (fun _ _ _ h => h) rfl rfl hB ?_
  go_frame
  refine y_pass 11 (some 24) (by kernel_rfl) rfl rfl rfl hB ?_
  go_frame
  refine y_skip 12 (some 25) rfl (by kernel_rfl) (by kernel_rfl) (by kernel_rfl) (fun _ _ _ h => h) rfl rfl hB ?_
  go_frame
  refine y_yield 13 (some 26) (.bool true) rfl (by kernel_rfl) (by kernel_rfl) (by kernel_rfl) (fun _ _ _ h => h) rfl rfl hB (fun w' h' => exec_pick _ _ _ rfl true rfl (.bool true) rfl) ?_
  go_frame
  refine y_done (by kernel_rfl) ?_ _
  go_upto_region 4 with (fail)
  refine wp_region_lit ?_
  refine ls_ex (some 6) (.slice none 0 0) rfl rfl (exec_assign _ rfl (.slice none 0 0) rfl) ?_
  go_frame
  refine ls_ex (some 7) (.int .i64 2) rfl rfl (exec_assign _ rfl (.int .i64 2) rfl) ?_
  go_frame
  refine wpList_nil ?_
  go_wp2_with fail
  go_ret2
  exact ⟨_, by rw [HC.out]; rfl, by rw [HN.out]; exact OwnR.nil _ _ _ _, hB⟩
set_option maxHeartbeats 4000000 in
theorem implCt_n0 (p : Int) (a b d : Nat) (bB oB c0 N : Nat) (xs : List Int) (AL : Option Addr) (cL : Nat) (ls : List Int) (w : World) (hX : RdI w (some ⟨bB, oB, none⟩) xs) (hxl : xs.length = N) (hs : tenB p a b d xs = true) (hN : RdI w AL ls) (hln : ls.length ≤ 1048576) (hT : listB p a ls = false) :
    Calls Try.prog 17 #[.agg #[.int .i64 p, .int .i64 a, .int .i64 b, .int .i64 d, .slice (some ⟨bB, oB, none⟩) N c0], .int .i64 0, .slice AL ls.length cL] w (ResR w (cnN p a b d 0 ls xs) (cnF p a b d 0 ls xs) (cnCode p a b d 0 ls xs)) := by
  have hB := Below.refl w.heap.size w
  have h0 : ctOK p a b d 0 ls xs = false := by unfold ctOK; simp [hT]
  have HN : Hid (cnN p a b d 0 ls xs = 0) := Lib.hid (by unfold cnN; rw [h0]; rfl)
  have HC : Hid (cnCode p a b d 0 ls xs = 2) := Lib.hid (by unfold cnCode; rw [hs, h0]; rfl)
  have HS3 : Hid (inB 0 3 = true) := Lib.hid rfl
  have HT3 := Lib.hid hT
  have Hs := Lib.hid hs
  have HXl := Lib.hid hxl
  have hpp := prime_le5 (ten_parts hs).1
  have hdm := (ten_parts hs).2
  have ha0 := hdm.1
  have hb0 := hdm.2.1
  have hd0 := hdm.2.2.1
  have hNb : N ≤ 729 := by rw [← hxl, hdm.2.2.2.1]; exact Nat.le_trans (Nat.mul_le_mul (Nat.mul_le_mul hdm.1.2 hdm.2.1.2) hdm.2.2.1.2) (by decide)
  clear hs hxl hdm hT h0
  go_enter Try.func17, Try.ntmps17
  go_upto_region 0 with (fail)
  refine wp_region_lit ?_
  refine ls_op rfl (fun K' hK' => ?_)
  have lz1 := hB.size
  refine wp_new (some 3) rfl (exec_box 29 _ rfl (#[.int .i64 p, .int .i64 a, .int .i64 b, .int .i64 d, .slice (some ⟨bB, oB, none⟩) N c0]) rfl) (fun Wz2 nnz3 => ?_)
  have bz4 := nnz3.below (Below.refl _ _) (Nat.le_refl _)
  replace hB := below_after hB bz4
  have hz5 : At Wz2 w.heap.size (.cells #[.int .i64 p, .int .i64 a, .int .i64 b, .int .i64 d, .slice (some ⟨bB, oB, none⟩) N c0] 29 (0, 0)) := nnz3.at_
  refine hK' _ _ ?_
  clear hK' K' nnz3 bz4
  go_frame
  refine ls_op rfl (fun K' hK' => ?_)
  have lz6 := hB.size
  have lz7 := hz5.lt
  refine wp_new (some 5) rfl (exec_box 22 _ rfl (#[.slice AL ls.length cL]) rfl) (fun Wz8 nnz9 => ?_)
  have bz10 := nnz9.below (Below.refl _ _) (Nat.le_refl _)
  replace hB := below_after hB bz10
  replace hz5 := hz5.after bz10
  have hz11 : At Wz8 Wz2.heap.size (.cells #[.slice AL ls.length cL] 22 (0, 0)) := nnz9.at_
  refine hK' _ _ ?_
  clear hK' K' nnz9 bz10
  go_frame
  refine ls_ex (some 6) (.slice none 0 0) rfl rfl (exec_assign _ rfl (.slice none 0 0) rfl) ?_
  go_frame
  refine ls_ex (some 7) (.int .i64 0) rfl rfl (exec_assign _ rfl (.int .i64 0) rfl) ?_
  go_frame
  refine wpList_nil ?_
  go_upto_region 1 with (fail)
  refine wp_region_lit ?_
  refine ls_ex (some 10) (.agg #[.int .i64 p, .int .i64 a, .int .i64 b, .int .i64 d, .slice (some ⟨bB, oB, none⟩) N c0]) rfl rfl (exec_load_all 29 _ rfl w.heap.size rfl _ _ _ hz5 Try.underlying29 rfl 5 (by kernel_rfl) rfl) ?_
  go_frame
  refine ls_op rfl (fun K' hK' => ?_)
  have lz14 := hB.size
  have lz15 := hz5.lt
  have lz16 := hz11.lt
  refine wp_call1 (some 11) rfl 30 _ _ rfl (fun args w => by kernel_rfl) _ rfl _ (implIsTensorN_c p a b d (some ⟨bB, oB, none⟩) N c0 xs _ HXl.out (hX.keep hB) (by omega)) (fun e Wz12 h => ?_)
  obtain ⟨rfl, bz13⟩ := h
  replace hB := below_after hB bz13
  replace hz5 := hz5.after bz13
  replace hz11 := hz11.after bz13
  rw [Hs.out]
  clear bz13
  refine ⟨_, rfl, ?_⟩
  refine hK' _ _ ?_
  clear hK' K'
  go_frame
  refine ls_ex (some 12) (.bool false) rfl rfl (exec_not _ _ rfl true rfl) ?_
  go_frame
  refine wpList_nil ?_
  go_upto_region 3 with (fail)
  refine wp_region_y (zs := []) (S := fun w' => Below w.heap.size w w' ∧ At w' w.heap.size (.cells #[.int .i64 p, .int .i64 a, .int .i64 b, .int .i64 d, .slice (some ⟨bB, oB, none⟩) N c0] 29 (0, 0)) ∧ At w' Wz2.heap.size (.cells #[.slice AL ls.length cL] 22 (0, 0))) (S2 := fun w' => True) (by kernel_rfl) ?_
  change wpAnyY _ _ _ _ _ _ _ _ _ _ (World.drew _)
  generalize hwdz17 : World.drew _ = wdz17
  replace hB : Below w.heap.size w wdz17 := by rw [← hwdz17]; exact hB.drew
  replace hz5 : At wdz17 w.heap.size (.cells #[.int .i64 p, .int .i64 a, .int .i64 b, .int .i64 d, .slice (some ⟨bB, oB, none⟩) N c0] 29 (0, 0)) := by rw [← hwdz17]; exact hz5
  replace hz11 : At wdz17 Wz2.heap.size (.cells #[.slice AL ls.length cL] 22 (0, 0)) := by rw [← hwdz17]; exact hz11
  clear hwdz17
  refine y_yield 0 (some 13) (.int .i64 0) rfl (by kernel_rfl) (by kernel_rfl) (by kernel_rfl) (fun _ _ _ h => h) rfl rfl ⟨hB, hz5, hz11⟩ (fun w' h' => exec_move _ rfl (.int .i64 0) rfl) ?_
  go_frame
  refine y_oper 1 (by kernel_rfl) rfl rfl (fun K' hK' => ?_)
  have lz20 := hB.size
  have lz21 := hz5.lt
  have lz22 := hz11.lt
  refine wp_call2 (some 14) rfl 31 _ _ _ rfl (fun args w => by kernel_rfl) _ _ rfl rfl _ (isIndex_c 0 3 _) (fun e Wz18 h => ?_)
  obtain ⟨rfl, rfl⟩ := h
  rw [HS3.out]
  refine ⟨_, rfl, ?_⟩
  refine hK' _ _ ⟨hB, hz5, hz11⟩ (fun _ => trivial) ?_
  clear hK' K'
  go_frame
  refine y_yield 2 (some 15) (.bool false) rfl (by kernel_rfl) (by kernel_rfl) (by kernel_rfl) (fun _ _ _ h => h) rfl rfl ⟨hB, hz5, hz11⟩ (fun w' h' => exec_not _ _ rfl true rfl) ?_
  go_frame
  refine y_yield 3 (some 16) (.bool false) rfl (by kernel_rfl) (by kernel_rfl) (by kernel_rfl) (fun _ _ _ h => h) rfl rfl ⟨hB, hz5, hz11⟩ (fun w' h' => exec_move _ rfl (.bool false) rfl) ?_
  go_frame
  refine y_yield 4 (some 17) (.pointer (some ⟨w.heap.size, 0, none⟩)) rfl (by kernel_rfl) (by kernel_rfl) (by kernel_rfl) (fun _ _ _ h => h) rfl rfl ⟨hB, hz5, hz11⟩ (fun w' h' => exec_fieldAddr 29 _ 0 rfl _ (by kernel_rfl)) ?_
  go_frame
  refine y_yield 5 (some 18) (.int .i64 p) rfl (by kernel_rfl) (by kernel_rfl) (by kernel_rfl) (fun _ _ _ h => h) rfl rfl ⟨hB, hz5, hz11⟩ (fun w' h' => exec_load_one 2 _ rfl w.heap.size 0 rfl (.int .i64 p) _ Try.underlying2 rfl (h'.2.1.at_ 0)) ?_
  go_frame
  refine y_yield 6 (some 19) (.agg #[.int .i64 p, .int .i64 a, .int .i64 b, .int .i64 d, .slice (some ⟨bB, oB, none⟩) N c0]) rfl (by kernel_rfl) (by kernel_rfl) (by kernel_rfl) (fun _ _ _ h => h) rfl rfl ⟨hB, hz5, hz11⟩ (fun w' h' => exec_load_all 29 _ rfl w.heap.size rfl _ _ _ h'.2.1 Try.underlying29 rfl 5 (by kernel_rfl) rfl) ?_
  go_frame
  refine y_yield 8 (some 21) (.int .i64 0) rfl (by kernel_rfl) (by kernel_rfl) (by kernel_rfl) (fun _ _ _ h => h) rfl rfl ⟨hB, hz5, hz11⟩ (fun w' h' => exec_move _ rfl (.int .i64 0) rfl) ?_
  go_frame
  refine y_yield 10 (some 23) (.slice AL ls.length cL) rfl (by kernel_rfl) (by kernel_rfl) (by kernel_rfl) (fun _ _ _ h => h) rfl rfl ⟨hB, hz5, hz11⟩ (fun w' h' => exec_load_one 22 _ rfl Wz2.heap.size 0 rfl (.slice AL ls.length cL) _ Try.underlying22 rfl (h'.2.2.at_ 0)) ?_
  go_frame
  refine y_oper 7 (by kernel_rfl) rfl rfl (fun K' hK' => ?_)
  have lz25 := hB.size
  have lz26 := hz5.lt
  have lz27 := hz11.lt
  refine wp_call1 (some 20) rfl 32 _ _ rfl (fun args w => by kernel_rfl) _ rfl _ (boxOf_c p a b d _ _) (fun e Wz23 h => ?_)
  obtain ⟨rfl, bz24⟩ := h
  replace hB := below_after hB bz24
  replace hz5 := hz5.after bz24
  replace hz11 := hz11.after bz24
  clear bz24
  refine ⟨_, rfl, ?_⟩
  refine hK' _ _ ⟨hB, hz5, hz11⟩ (fun _ => trivial) ?_
  clear hK' K'
  go_frame
  refine y_yield 9 (some 22) (.int .i64 a) rfl (by kernel_rfl) (by kernel_rfl) (by kernel_rfl) (fun _ _ _ h => h) rfl rfl ⟨hB, hz5, hz11⟩ (fun w' h' => exec_index_arr3 52 2 _ _ rfl 3 0 _ _ rfl rfl Try.underlying52 _ Try.underlying2 rfl (by kernel_rfl) (by omega) rfl) ?_
  go_frame
  refine y_oper 11 (by kernel_rfl) rfl rfl (fun K' hK' => ?_)
  have lz30 := hB.size
  have lz31 := hz5.lt
  have lz32 := hz11.lt
  refine wp_call3 (some 24) rfl 38 _ _ _ _ rfl (fun args w => by kernel_rfl) _ _ _ rfl rfl rfl _ (isList_c AL cL p a ls _ (hN.keep hB) (by omega)) (fun e Wz28 h => ?_)
  obtain ⟨rfl, bz29⟩ := h
  replace hB := below_after hB bz29
  replace hz5 := hz5.after bz29
  replace hz11 := hz11.after bz29
  rw [HT3.out]
  clear bz29
  refine ⟨_, rfl, ?_⟩
  refine hK' _ _ ⟨hB, hz5, hz11⟩ (fun _ => trivial) ?_
  clear hK' K'
  go_frame
  refine y_yield 12 (some 25) (.bool true) rfl (by kernel_rfl) (by kernel_rfl) (by kernel_rfl) (fun _ _ _ h => h) rfl rfl ⟨hB, hz5, hz11⟩ (fun w' h' => exec_not _ _ rfl false rfl) ?_
  go_frame
  refine y_yield 13 (some 26) (.bool true) rfl (by kernel_rfl) (by kernel_rfl) (by kernel_rfl) (fun _ _ _ h => h) rfl rfl ⟨hB, hz5, hz11⟩ (fun w' h' => exec_pick _ _ _ rfl false rfl (.bool true) rfl) ?_
  go_frame
  refine y_done (by kernel_rfl) ?_ _
  go_upto_region 4 with (fail)
  refine wp_region_lit ?_
  refine ls_ex (some 6) (.slice none 0 0) rfl rfl (exec_assign _ rfl (.slice none 0 0) rfl) ?_
  go_frame
  refine ls_ex (some 7) (.int .i64 2) rfl rfl (exec_assign _ rfl (.int .i64 2) rfl) ?_
  go_frame
  refine wpList_nil ?_
  go_wp2_with fail
  go_ret2
  exact ⟨_, by rw [HC.out]; rfl, by rw [HN.out]; exact OwnR.nil _ _ _ _, hB⟩
set_option maxHeartbeats 4000000 in
theorem implCt_n1 (p : Int) (a b d : Nat) (bB oB c0 N : Nat) (xs : List Int) (AL : Option Addr) (cL : Nat) (ls : List Int) (w : World) (hX : RdI w (some ⟨bB, oB, none⟩) xs) (hxl : xs.length = N) (hs : tenB p a b d xs = true) (hN : RdI w AL ls) (hln : ls.length ≤ 1048576) (hT : listB p b ls = false) :
    Calls Try.prog 17 #[.agg #[.int .i64 p, .int .i64 a, .int .i64 b, .int .i64 d, .slice (some ⟨bB, oB, none⟩) N c0], .int .i64 1, .slice AL ls.length cL] w (ResR w (cnN p a b d 1 ls xs) (cnF p a b d 1 ls xs) (cnCode p a b d 1 ls xs)) := by
  have hB := Below.refl w.heap.size w
  have h0 : ctOK p a b d 1 ls xs = false := by unfold ctOK; simp [hT]
  have HN : Hid (cnN p a b d 1 ls xs = 0) := Lib.hid (by unfold cnN; rw [h0]; rfl)
  have HC : Hid (cnCode p a b d 1 ls xs = 2) := Lib.hid (by unfold cnCode; rw [hs, h0]; rfl)
  have HS3 : Hid (inB 1 3 = true) := Lib.hid rfl
  have HT3 := Lib.hid hT
  have Hs := Lib.hid hs
  have HXl := Lib.hid hxl
  have hpp := prime_le5 (ten_parts hs).1
  have hdm := (ten_parts hs).2
  have ha0 := hdm.1
  have hb0 := hdm.2.1
  have hd0 := hdm.2.2.1
  have hNb : N ≤ 729 := by rw [← hxl, hdm.2.2.2.1]; exact Nat.le_trans (Nat.mul_le_mul (Nat.mul_le_mul hdm.1.2 hdm.2.1.2) hdm.2.2.1.2) (by decide)
  clear hs hxl hdm hT h0
  go_enter Try.func17, Try.ntmps17
  go_upto_region 0 with (fail)
  refine wp_region_lit ?_
  refine ls_op rfl (fun K' hK' => ?_)
  have lz1 := hB.size
  refine wp_new (some 3) rfl (exec_box 29 _ rfl (#[.int .i64 p, .int .i64 a, .int .i64 b, .int .i64 d, .slice (some ⟨bB, oB, none⟩) N c0]) rfl) (fun Wz2 nnz3 => ?_)
  have bz4 := nnz3.below (Below.refl _ _) (Nat.le_refl _)
  replace hB := below_after hB bz4
  have hz5 : At Wz2 w.heap.size (.cells #[.int .i64 p, .int .i64 a, .int .i64 b, .int .i64 d, .slice (some ⟨bB, oB, none⟩) N c0] 29 (0, 0)) := nnz3.at_
  refine hK' _ _ ?_
  clear hK' K' nnz3 bz4
  go_frame
  refine ls_op rfl (fun K' hK' => ?_)
  have lz6 := hB.size
  have lz7 := hz5.lt
  refine wp_new (some 5) rfl (exec_box 22 _ rfl (#[.slice AL ls.length cL]) rfl) (fun Wz8 nnz9 => ?_)
  have bz10 := nnz9.below (Below.refl _ _) (Nat.le_refl _)
  replace hB := below_after hB bz10
  replace hz5 := hz5.after bz10
  have hz11 : At Wz8 Wz2.heap.size (.cells #[.slice AL ls.length cL] 22 (0, 0)) := nnz9.at_
  refine hK' _ _ ?_
  clear hK' K' nnz9 bz10
  go_frame
  refine ls_ex (some 6) (.slice none 0 0) rfl rfl (exec_assign _ rfl (.slice none 0 0) rfl) ?_
  go_frame
  refine ls_ex (some 7) (.int .i64 0) rfl rfl (exec_assign _ rfl (.int .i64 0) rfl) ?_
  go_frame
  refine wpList_nil ?_
  go_upto_region 1 with (fail)
  refine wp_region_lit ?_
  refine ls_ex (some 10) (.agg #[.int .i64 p, .int .i64 a, .int .i64 b, .int .i64 d, .slice (some ⟨bB, oB, none⟩) N c0]) rfl rfl (exec_load_all 29 _ rfl w.heap.size rfl _ _ _ hz5 Try.underlying29 rfl 5 (by kernel_rfl) rfl) ?_
  go_frame
  refine ls_op rfl (fun K' hK' => ?_)
  have lz14 := hB.size
  have lz15 := hz5.lt
  have lz16 := hz11.lt
  refine wp_call1 (some 11) rfl 30 _ _ rfl (fun args w => by kernel_rfl) _ rfl _ (implIsTensorN_c p a b d (some ⟨bB, oB, none⟩) N c0 xs _ HXl.out (hX.keep hB) (by omega)) (fun e Wz12 h => ?_)
  obtain ⟨rfl, bz13⟩ := h
  replace hB := below_after hB bz13
  replace hz5 := hz5.after bz13
  replace hz11 := hz11.after bz13
  rw [Hs.out]
  clear bz13
  refine ⟨_, rfl, ?_⟩
  refine hK' _ _ ?_
  clear hK' K'
  go_frame
  refine ls_ex (some 12) (.bool false) rfl rfl (exec_not _ _ rfl true rfl) ?_
  go_frame
  refine wpList_nil ?_
  go_upto_region 3 with (fail)
  refine wp_region_y (zs := []) (S := fun w' => Below w.heap.size w w' ∧ At w' w.heap.size (.cells #[.int .i64 p, .int .i64 a, .int .i64 b, .int .i64 d, .slice (some ⟨bB, oB, none⟩) N c0] 29 (0, 0)) ∧ At w' Wz2.heap.size (.cells #[.slice AL ls.length cL] 22 (0, 0))) (S2 := fun w' => True) (by kernel_rfl) ?_
  change wpAnyY _ _ _ _ _ _ _ _ _ _ (World.drew _)
  generalize hwdz17 : World.drew _ = wdz17
  replace hB : Below w.heap.size w wdz17 := by rw [← hwdz17]; exact hB.drew
  replace hz5 : At wdz17 w.heap.size (.cells #[.int .i64 p, .int .i64 a, .int .i64 b, .int .i64 d, .slice (some ⟨bB, oB, none⟩) N c0] 29 (0, 0)) := by rw [← hwdz17]; exact hz5
  replace hz11 : At wdz17 Wz2.heap.size (.cells #[.slice AL ls.length cL] 22 (0, 0)) := by rw [← hwdz17]; exact hz11
  clear hwdz17
  refine y_yield 0 (some 13) (.int .i64 1) rfl (by kernel_rfl) (by kernel_rfl) (by kernel_rfl) (fun _ _ _ h => h) rfl rfl ⟨hB, hz5, hz11⟩ (fun w' h' => exec_move _ rfl (.int .i64 1) rfl) ?_
  go_frame
  refine y_oper 1 (by kernel_rfl) rfl rfl (fun K' hK' => ?_)
  have lz20 := hB.size
  have lz21 := hz5.lt
  have lz22 := hz11.lt
  refine wp_call2 (some 14) rfl 31 _ _ _ rfl (fun args w => by kernel_rfl) _ _ rfl rfl _ (isIndex_c 1 3 _) (fun e Wz18 h => ?_)
  obtain ⟨rfl, rfl⟩ := h
  rw [HS3.out]
  refine ⟨_, rfl, ?_⟩
  refine hK' _ _ ⟨hB, hz5, hz11⟩ (fun _ => trivial) ?_
  clear hK' K'
  go_frame
  refine y_yield 2 (some 15) (.bool false) rfl (by kernel_rfl) (by kernel_rfl) (by kernel_rfl) (fun _ _ _ h => h) rfl rfl ⟨hB, hz5, hz11⟩ (fun w' h' => exec_not _ _ rfl true rfl) ?_
  go_frame
  refine y_yield 3 (some 16) (.bool false) rfl (by kernel_rfl) (by kernel_rfl) (by kernel_rfl) (fun _ _ _ h => h) rfl rfl ⟨hB, hz5, hz11⟩ (fun w' h' => exec_move _ rfl (.bool false) rfl) ?_
  go_frame
  refine y_yield 4 (some 17) (.pointer (some ⟨w.heap.size, 0, none⟩)) rfl (by kernel_rfl) (by kernel_rfl) (by kernel_rfl) (fun _ _ _ h => h) rfl rfl ⟨hB, hz5, hz11⟩ (fun w' h' => exec_fieldAddr 29 _ 0 rfl _ (by kernel_rfl)) ?_
  go_frame
  refine y_yield 5 (some 18) (.int .i64 p) rfl (by kernel_rfl) (by kernel_rfl) (by kernel_rfl) (fun _ _ _ h => h) rfl rfl ⟨hB, hz5, hz11⟩ (fun w' h' => exec_load_one 2 _ rfl w.heap.size 0 rfl (.int .i64 p) _ Try.underlying2 rfl (h'.2.1.at_ 0)) ?_
  go_frame
  refine y_yield 6 (some 19) (.agg #[.int .i64 p, .int .i64 a, .int .i64 b, .int .i64 d, .slice (some ⟨bB, oB, none⟩) N c0]) rfl (by kernel_rfl) (by kernel_rfl) (by kernel_rfl) (fun _ _ _ h => h) rfl rfl ⟨hB, hz5, hz11⟩ (fun w' h' => exec_load_all 29 _ rfl w.heap.size rfl _ _ _ h'.2.1 Try.underlying29 rfl 5 (by kernel_rfl) rfl) ?_
  go_frame
  refine y_yield 8 (some 21) (.int .i64 1) rfl (by kernel_rfl) (by kernel_rfl) (by kernel_rfl) (fun _ _ _ h => h) rfl rfl ⟨hB, hz5, hz11⟩ (fun w' h' => exec_move _ rfl (.int .i64 1) rfl) ?_
  go_frame
  refine y_yield 10 (some 23) (.slice AL ls.length cL) rfl (by kernel_rfl) (by kernel_rfl) (by kernel_rfl) (fun _ _ _ h => h) rfl rfl ⟨hB, hz5, hz11⟩ (fun w' h' => exec_load_one 22 _ rfl Wz2.heap.size 0 rfl (.slice AL ls.length cL) _ Try.underlying22 rfl (h'.2.2.at_ 0)) ?_
  go_frame
  refine y_oper 7 (by kernel_rfl) rfl rfl (fun K' hK' => ?_)
  have lz25 := hB.size
  have lz26 := hz5.lt
  have lz27 := hz11.lt
  refine wp_call1 (some 20) rfl 32 _ _ rfl (fun args w => by kernel_rfl) _ rfl _ (boxOf_c p a b d _ _) (fun e Wz23 h => ?_)
  obtain ⟨rfl, bz24⟩ := h
  replace hB := below_after hB bz24
  replace hz5 := hz5.after bz24
  replace hz11 := hz11.after bz24
  clear bz24
  refine ⟨_, rfl, ?_⟩
  refine hK' _ _ ⟨hB, hz5, hz11⟩ (fun _ => trivial) ?_
  clear hK' K'
  go_frame
  refine y_yield 9 (some 22) (.int .i64 b) rfl (by kernel_rfl) (by kernel_rfl) (by kernel_rfl) (fun _ _ _ h => h) rfl rfl ⟨hB, hz5, hz11⟩ (fun w' h' => exec_index_arr3 52 2 _ _ rfl 3 1 _ _ rfl rfl Try.underlying52 _ Try.underlying2 rfl (by kernel_rfl) (by omega) rfl) ?_
  go_frame
  refine y_oper 11 (by kernel_rfl) rfl rfl (fun K' hK' => ?_)
  have lz30 := hB.size
  have lz31 := hz5.lt
  have lz32 := hz11.lt
  refine wp_call3 (some 24) rfl 38 _ _ _ _ rfl (fun args w => by kernel_rfl) _ _ _ rfl rfl rfl _ (isList_c AL cL p b ls _ (hN.keep hB) (by omega)) (fun e Wz28 h => ?_)
  obtain ⟨rfl, bz29⟩ := h
  replace hB := below_after hB bz29
  replace hz5 := hz5.after bz29
  replace hz11 := hz11.after bz29
  rw [HT3.out]
  clear bz29
  refine ⟨_, rfl, ?_⟩
  refine hK' _ _ ⟨hB, hz5, hz11⟩ (fun _ => trivial) ?_
  clear hK' K'
  go_frame
  refine y_yield 12 (some 25) (.bool true) rfl (by kernel_rfl) (by kernel_rfl) (by kernel_rfl) (fun _ _ _ h => h) rfl rfl ⟨hB, hz5, hz11⟩ (fun w' h' => exec_not _ _ rfl false rfl) ?_
  go_frame
  refine y_yield 13 (some 26) (.bool true) rfl (by kernel_rfl) (by kernel_rfl) (by kernel_rfl) (fun _ _ _ h => h) rfl rfl ⟨hB, hz5, hz11⟩ (fun w' h' => exec_pick _ _ _ rfl false rfl (.bool true) rfl) ?_
  go_frame
  refine y_done (by kernel_rfl) ?_ _
  go_upto_region 4 with (fail)
  refine wp_region_lit ?_
  refine ls_ex (some 6) (.slice none 0 0) rfl rfl (exec_assign _ rfl (.slice none 0 0) rfl) ?_
  go_frame
  refine ls_ex (some 7) (.int .i64 2) rfl rfl (exec_assign _ rfl (.int .i64 2) rfl) ?_
  go_frame
  refine wpList_nil ?_
  go_wp2_with fail
  go_ret2
  exact ⟨_, by rw [HC.out]; rfl, by rw [HN.out]; exact OwnR.nil _ _ _ _, hB⟩
set_option maxHeartbeats 4000000 in
theorem implCt_n2 (p : Int) (a b d : Nat) (bB oB c0 N : Nat) (xs : List Int) (AL : Option Addr) (cL : Nat) (ls : List Int) (w : World) (hX : RdI w (some ⟨bB, oB, none⟩) xs) (hxl : xs.length = N) (hs : tenB p a b d xs = true) (hN : RdI w AL ls) (hln : ls.length ≤ 1048576) (hT : listB p d ls = false) :
    Calls Try.prog 17 #[.agg #[.int .i64 p, .int .i64 a, .int .i64 b, .int .i64 d, .slice (some ⟨bB, oB, none⟩) N c0], .int .i64 2, .slice AL ls.length cL] w (ResR w (cnN p a b d 2 ls xs) (cnF p a b d 2 ls xs) (cnCode p a b d 2 ls xs)) := by
  have hB := Below.refl w.heap.size w
  have h0 : ctOK p a b d 2 ls xs = false := by unfold ctOK; simp [hT]
  have HN : Hid (cnN p a b d 2 ls xs = 0) := Lib.hid (by unfold cnN; rw [h0]; rfl)
  have HC : Hid (cnCode p a b d 2 ls xs = 2) := Lib.hid (by unfold cnCode; rw [hs, h0]; rfl)
  have HS3 : Hid (inB 2 3 = true) := Lib.hid rfl
  have HT3 := Lib.hid hT
  have Hs := Lib.hid hs
  have HXl := Lib.hid hxl
  have hpp := prime_le5 (ten_parts hs).1
  have hdm := (ten_parts hs).2
  have ha0 := hdm.1
  have hb0 := hdm.2.1
  have hd0 := hdm.2.2.1
  have hNb : N ≤ 729 := by rw [← hxl, hdm.2.2.2.1]; exact Nat.le_trans (Nat.mul_le_mul (Nat.mul_le_mul hdm.1.2 hdm.2.1.2) hdm.2.2.1.2) (by decide)
  clear hs hxl hdm hT h0
  go_enter Try.func17, Try.ntmps17
  go_upto_region 0 with (fail)
  refine wp_region_lit ?_
  refine ls_op rfl (fun K' hK' => ?_)
  have lz1 := hB.size
  refine wp_new (some 3) rfl (exec_box 29 _ rfl (#[.int .i64 p, .int .i64 a, .int .i64 b, .int .i64 d, .slice (some ⟨bB, oB, none⟩) N c0]) rfl) (fun Wz2 nnz3 => ?_)
  have bz4 := nnz3.below (Below.refl _ _) (Nat.le_refl _)
  replace hB := below_after hB bz4
  have hz5 : At Wz2 w.heap.size (.cells #[.int .i64 p, .int .i64 a, .int .i64 b, .int .i64 d, .slice (some ⟨bB, oB, none⟩) N c0] 29 (0, 0)) := nnz3.at_
  refine hK' _ _ ?_
  clear hK' K' nnz3 bz4
  go_frame
  refine ls_op rfl (fun K' hK' => ?_)
  have lz6 := hB.size
  have lz7 := hz5.lt
  refine wp_new (some 5) rfl (exec_box 22 _ rfl (#[.slice AL ls.length cL]) rfl) (fun Wz8 nnz9 => ?_)
  have bz10 := nnz9.below (Below.refl _ _) (Nat.le_refl _)
  replace hB := below_after hB bz10
  replace hz5 := hz5.after bz10
  have hz11 : At Wz8 Wz2.heap.size (.cells #[.slice AL ls.length cL] 22 (0, 0)) := nnz9.at_
  refine hK' _ _ ?_
  clear hK' K' nnz9 bz10
  go_frame
  refine ls_ex (some 6) (.slice none 0 0) rfl rfl (exec_assign _ rfl (.slice none 0 0) rfl) ?_
  go_frame
  refine ls_ex (some 7) (.int .i64 0) rfl rfl (exec_assign _ rfl (.int .i64 0) rfl) ?_
  go_frame
  refine wpList_nil ?_
  go_upto_region 1 with (fail)
  refine wp_region_lit ?_
  refine ls_ex (some 10) (.agg #[.int .i64 p, .int .i64 a, .int .i64 b, .int .i64 d, .slice (some ⟨bB, oB, none⟩) N c0]) rfl rfl (exec_load_all 29 _ rfl w.heap.size rfl _ _ _ hz5 Try.underlying29 rfl 5 (by kernel_rfl) rfl) ?_
  go_frame
  refine ls_op rfl (fun K' hK' => ?_)
  have lz14 := hB.size
  have lz15 := hz5.lt
  have lz16 := hz11.lt
  refine wp_call1 (some 11) rfl 30 _ _ rfl (fun args w => by kernel_rfl) _ rfl _ (implIsTensorN_c p a b d (some ⟨bB, oB, none⟩) N c0 xs _ HXl.out (hX.keep hB) (by omega)) (fun e Wz12 h => ?_)
  obtain ⟨rfl, bz13⟩ := h
  replace hB := below_after hB bz13
  replace hz5 := hz5.after bz13
  replace hz11 := hz11.after bz13
  rw [Hs.out]
  clear bz13
  refine ⟨_, rfl, ?_⟩
  refine hK' _ _ ?_
  clear hK' K'
  go_frame
  refine ls_ex (some 12) (.bool false) rfl rfl (exec_not _ _ rfl true rfl) ?_
  go_frame
  refine wpList_nil ?_
  go_upto_region 3 with (fail)
  refine wp_region_y (zs := []) (S := fun w' => Below w.heap.size w w' ∧ At w' w.heap.size (.cells #[.int .i64 p, .int .i64 a, .int .i64 b, .int .i64 d, .slice (some ⟨bB, oB, none⟩) N c0] 29 (0, 0)) ∧ At w' Wz2.heap.size (.cells #[.slice AL ls.length cL] 22 (0, 0))) (S2 := fun w' => True) (by kernel_rfl) ?_
  change wpAnyY _ _ _ _ _ _ _ _ _ _ (World.drew _)
  generalize hwdz17 : World.drew _ = wdz17
  replace hB : Below w.heap.size w wdz17 := by rw [← hwdz17]; exact hB.drew
  replace hz5 : At wdz17 w.heap.size (.cells #[.int .i64 p, .int .i64 a, .int .i64 b, .int .i64 d, .slice (some ⟨bB, oB, none⟩) N c0] 29 (0, 0)) := by rw [← hwdz17]; exact hz5
  replace hz11 : At wdz17 Wz2.heap.size (.cells #[.slice AL ls.length cL] 22 (0, 0)) := by rw [← hwdz17]; exact hz11
  clear hwdz17
  refine y_yield 0 (some 13) (.int .i64 2) rfl (by kernel_rfl) (by kernel_rfl) (by kernel_rfl) (fun _ _ _ h => h) rfl rfl ⟨hB, hz5, hz11⟩ (fun w' h' => exec_move _ rfl (.int .i64 2) rfl) ?_
  go_frame
  refine y_oper 1 (by kernel_rfl) rfl rfl (fun K' hK' => ?_)
  have lz20 := hB.size
  have lz21 := hz5.lt
  have lz22 := hz11.lt
  refine wp_call2 (some 14) rfl 31 _ _ _ rfl (fun args w => by kernel_rfl) _ _ rfl rfl _ (isIndex_c 2 3 _) (fun e Wz18 h => ?_)
  obtain ⟨rfl, rfl⟩ := h
  rw [HS3.out]
  refine ⟨_, rfl, ?_⟩
  refine hK' _ _ ⟨hB, hz5, hz11⟩ (fun _ => trivial) ?_
  clear hK' K'
  go_frame
  refine y_yield 2 (some 15) (.bool false) rfl (by kernel_rfl) (by kernel_rfl) (by kernel_rfl) (fun _ _ _ h => h) rfl rfl ⟨hB, hz5, hz11⟩ (fun w' h' => exec_not _ _ rfl true rfl) ?_
  go_frame
  refine y_yield 3 (some 16) (.bool false) rfl (by kernel_rfl) (by kernel_rfl) (by kernel_rfl) (fun _ _ _ h => h) rfl rfl ⟨hB, hz5, hz11⟩ (fun w' h' => exec_move _ rfl (.bool false) rfl) ?_
  go_frame
  refine y_yield 4 (some 17) (.pointer (some ⟨w.heap.size, 0, none⟩)) rfl (by kernel_rfl) (by kernel_rfl) (by kernel_rfl) (fun _ _ _ h => h) rfl rfl ⟨hB, hz5, hz11⟩ (fun w' h' => exec_fieldAddr 29 _ 0 rfl _ (by kernel_rfl)) ?_
  go_frame
  refine y_yield 5 (some 18) (.int .i64 p) rfl (by kernel_rfl) (by kernel_rfl) (by kernel_rfl) (fun _ _ _ h => h) rfl rfl ⟨hB, hz5, hz11⟩ (fun w' h' => exec_load_one 2 _ rfl w.heap.size 0 rfl (.int .i64 p) _ Try.underlying2 rfl (h'.2.1.at_ 0)) ?_
  go_frame
  refine y_yield 6 (some 19) (.agg #[.int .i64 p, .int .i64 a, .int .i64 b, .int .i64 d, .slice (some ⟨bB, oB, none⟩) N c0]) rfl (by kernel_rfl) (by kernel_rfl) (by kernel_rfl) (fun _ _ _ h => h) rfl rfl ⟨hB, hz5, hz11⟩ (fun w' h' => exec_load_all 29 _ rfl w.heap.size rfl _ _ _ h'.2.1 Try.underlying29 rfl 5 (by kernel_rfl) rfl) ?_
  go_frame
  refine y_yield 8 (some 21) (.int .i64 2) rfl (by kernel_rfl) (by kernel_rfl) (by kernel_rfl) (fun _ _ _ h => h) rfl rfl ⟨hB, hz5, hz11⟩ (fun w' h' => exec_move _ rfl (.int .i64 2) rfl) ?_
  go_frame
  refine y_yield 10 (some 23) (.slice AL ls.length cL) rfl (by kernel_rfl) (by kernel_rfl) (by kernel_rfl) (fun _ _ _ h => h) rfl rfl ⟨hB, hz5, hz11⟩ (fun w' h' => exec_load_one 22 _ rfl Wz2.heap.size 0 rfl (.slice AL ls.length cL) _ Try.underlying22 rfl (h'.2.2.at_ 0)) ?_
  go_frame
  refine y_oper 7 (by kernel_rfl) rfl rfl (fun K' hK' => ?_)
  have lz25 := hB.size
  have lz26 := hz5.lt
  have lz27 := hz11.lt
  refine wp_call1 (some 20) rfl 32 _ _ rfl (fun args w => by kernel_rfl) _ rfl _ (boxOf_c p a b d _ _) (fun e Wz23 h => ?_)
  obtain ⟨rfl, bz24⟩ := h
  replace hB := below_after hB bz24
  replace hz5 := hz5.after bz24
  replace hz11 := hz11.after bz24
  clear bz24
  refine ⟨_, rfl, ?_⟩
  refine hK' _ _ ⟨hB, hz5, hz11⟩ (fun _ => trivial) ?_
  clear hK' K'
  go_frame
  refine y_yield 9 (some 22) (.int .i64 d) rfl (by kernel_rfl) (by kernel_rfl) (by kernel_rfl) (fun _ _ _ h => h) rfl rfl ⟨hB, hz5, hz11⟩ (fun w' h' => exec_index_arr3 52 2 _ _ rfl 3 2 _ _ rfl rfl Try.underlying52 _ Try.underlying2 rfl (by kernel_rfl) (by omega) rfl) ?_
  go_frame
  refine y_oper 11 (by kernel_rfl) rfl rfl (fun K' hK' => ?_)
  have lz30 := hB.size
  have lz31 := hz5.lt
  have lz32 := hz11.lt
  refine wp_call3 (some 24) rfl 38 _ _ _ _ rfl (fun args w => by kernel_rfl) _ _ _ rfl rfl rfl _ (isList_c AL cL p d ls _ (hN.keep hB) (by omega)) (fun e Wz28 h => ?_)
  obtain ⟨rfl, bz29⟩ := h
  replace hB := below_after hB bz29
  replace hz5 := hz5.after bz29
  replace hz11 := hz11.after bz29
  rw [HT3.out]
  clear bz29
  refine ⟨_, rfl, ?_⟩
  refine hK' _ _ ⟨hB, hz5, hz11⟩ (fun _ => trivial) ?_
  clear hK' K'
  go_frame
  refine y_yield 12 (some 25) (.bool true) rfl (by kernel_rfl) (by kernel_rfl) (by kernel_rfl) (fun _ _ _ h => h) rfl rfl ⟨hB, hz5, hz11⟩ (fun w' h' => exec_not _ _ rfl false rfl) ?_
  go_frame
  refine y_yield 13 (some 26) (.bool true) rfl (by kernel_rfl) (by kernel_rfl) (by kernel_rfl) (fun _ _ _ h => h) rfl rfl ⟨hB, hz5, hz11⟩ (fun w' h' => exec_pick _ _ _ rfl false rfl (.bool true) rfl) ?_
  go_frame
  refine y_done (by kernel_rfl) ?_ _
  go_upto_region 4 with (fail)
  refine wp_region_lit ?_
  refine ls_ex (some 6) (.slice none 0 0) rfl rfl (exec_assign _ rfl (.slice none 0 0) rfl) ?_
  go_frame
  refine ls_ex (some 7) (.int .i64 2) rfl rfl (exec_assign _ rfl (.int .i64 2) rfl) ?_
  go_frame
  refine wpList_nil ?_
  go_wp2_with fail
  go_ret2
  exact ⟨_, by rw [HC.out]; rfl, by rw [HN.out]; exact OwnR.nil _ _ _ _, hB⟩
set_option maxHeartbeats 4000000 in
theorem implCt_y0 (p : Int) (a b d : Nat) (bB oB c0 N : Nat) (xs : List Int) (bN oN cN NS : Nat) (ls : List Int) (w : World) (hX : RdI w (some ⟨bB, oB, none⟩) xs) (hxl : xs.length = N) (hs : tenB p a b d xs = true) (hN : RdI w (some ⟨bN, oN, none⟩) ls) (hLl : ls.length = NS) (hc0 : N ≤ c0) (hT : listB p NS ls = true) (hD : a = NS) :
    Calls Try.prog 17 #[.agg #[.int .i64 p, .int .i64 a, .int .i64 b, .int .i64 d, .slice (some ⟨bB, oB, none⟩) N c0], .int .i64 0, .slice (some ⟨bN, oN, none⟩) NS cN] w (ResR w (cnN p a b d 0 ls xs) (cnF p a b d 0 ls xs) (cnCode p a b d 0 ls xs)) := by
  have hB := Below.refl w.heap.size w
  subst hD
  have h0 : ctOK p a b d 0 ls xs = true := by unfold ctOK; rw [hs]; simp [hT]; rfl
  obtain ⟨q1, q2, q3, q4, hq⟩ : ∃ q1 q2 q3 q4, trn p 0 (a, b, d, xs) = (q1, q2, q3, q4) := ⟨_, _, _, _, rfl⟩
  obtain ⟨RW, hRW⟩ : ∃ z9, ctR p ls q4 q1 q2 q3 = z9 := ⟨_, rfl⟩
  have hsq : slQ p a b d 0 xs = (q1, q2, q3, q4) := by rw [← hq]; rfl
  have HN : Hid (cnN p a b d 0 ls xs = q2) := Lib.hid (by unfold cnN; rw [h0, hsq]; rfl)
  have HF : Hid (cnF p a b d 0 ls xs = RW) := Lib.hid (by unfold cnF cnG; rw [hsq]; exact hRW)
  have HC : Hid (cnCode p a b d 0 ls xs = 0) := Lib.hid (by unfold cnCode; rw [hs, h0]; rfl)
  have HS3 : Hid (inB 0 3 = true) := Lib.hid rfl
  have HT3 := Lib.hid hT
  have HQ := Lib.hid hq
  have HRW := Lib.hid hRW
  have HLl := Lib.hid hLl
  have HMb := Lib.hid (listB_parts hT).2
  have HS1 : Hid (q1 = a) := Lib.hid (by have h9 := congrArg (·.1) hq; exact h9.symm)
  have Hs := Lib.hid hs
  have HXl := Lib.hid hxl
  have hpp := prime_le5 (ten_parts hs).1
  have hdm := (ten_parts hs).2
  have ha0 := hdm.1
  have hb0 := hdm.2.1
  have hd0 := hdm.2.2.1
  have hNb : N ≤ 729 := by rw [← hxl, hdm.2.2.2.1]; exact Nat.le_trans (Nat.mul_le_mul (Nat.mul_le_mul hdm.1.2 hdm.2.1.2) hdm.2.2.1.2) (by decide)
  clear hs hxl hdm hT h0 hq hsq hRW hLl
  go_enter Try.func17, Try.ntmps17
  go_upto_region 0 with (fail)
  refine wp_region_lit ?_
  refine ls_op rfl (fun K' hK' => ?_)
  have lz1 := hB.size
  refine wp_new (some 3) rfl (exec_box 29 _ rfl (#[.int .i64 p, .int .i64 a, .int .i64 b, .int .i64 d, .slice (some ⟨bB, oB, none⟩) N c0]) rfl) (fun Wz2 nnz3 => ?_)
  have bz4 := nnz3.below (Below.refl _ _) (Nat.le_refl _)
  replace hB := below_after hB bz4
  have hz5 : At Wz2 w.heap.size (.cells #[.int .i64 p, .int .i64 a, .int .i64 b, .int .i64 d, .slice (some ⟨bB, oB, none⟩) N c0] 29 (0, 0)) := nnz3.at_
  refine hK' _ _ ?_
  clear hK' K' nnz3 bz4
  go_frame
  refine ls_op rfl (fun K' hK' => ?_)
  have lz6 := hB.size
  have lz7 := hz5.lt
  refine wp_new (some 5) rfl (exec_box 22 _ rfl (#[.slice (some ⟨bN, oN, none⟩) a cN]) rfl) (fun Wz8 nnz9 => ?_)
  have bz10 := nnz9.below (Below.refl _ _) (Nat.le_refl _)
  replace hB := below_after hB bz10
  replace hz5 := hz5.after bz10
  have hz11 : At Wz8 Wz2.heap.size (.cells #[.slice (some ⟨bN, oN, none⟩) a cN] 22 (0, 0)) := nnz9.at_
  refine hK' _ _ ?_
  clear hK' K' nnz9 bz10
  go_frame
  refine ls_ex (some 6) (.slice none 0 0) rfl rfl (exec_assign _ rfl (.slice none 0 0) rfl) ?_
  go_frame
  refine ls_ex (some 7) (.int .i64 0) rfl rfl (exec_assign _ rfl (.int .i64 0) rfl) ?_
  go_frame
  refine wpList_nil ?_
  go_upto_region 1 with (fail)
  refine wp_region_lit ?_
  refine ls_ex (some 10) (.agg #[.int .i64 p, .int .i64 a, .int .i64 b, .int .i64 d, .slice (some ⟨bB, oB, none⟩) N c0]) rfl rfl (exec_load_all 29 _ rfl w.heap.size rfl _ _ _ hz5 Try.underlying29 rfl 5 (by kernel_rfl) rfl) ?_
  go_frame
  refine ls_op rfl (fun K' hK' => ?_)
  have lz14 := hB.size
  have lz15 := hz5.lt
  have lz16 := hz11.lt
  refine wp_call1 (some 11) rfl 30 _ _ rfl (fun args w => by kernel_rfl) _ rfl _ (implIsTensorN_c p a b d (some ⟨bB, oB, none⟩) N c0 xs _ HXl.out (hX.keep hB) (by omega)) (fun e Wz12 h => ?_)
  obtain ⟨rfl, bz13⟩ := h
  replace hB := below_after hB bz13
  replace hz5 := hz5.after bz13
  replace hz11 := hz11.after bz13
  rw [Hs.out]
  clear bz13
  refine ⟨_, rfl, ?_⟩
  refine hK' _ _ ?_
  clear hK' K'
  go_frame
  refine ls_ex (some 12) (.bool false) rfl rfl (exec_not _ _ rfl true rfl) ?_
  go_frame
  refine wpList_nil ?_
  go_upto_region 3 with (fail)
  refine wp_region_y (zs := []) (S := fun w' => Below w.heap.size w w' ∧ At w' w.heap.size (.cells #[.int .i64 p, .int .i64 a, .int .i64 b, .int .i64 d, .slice (some ⟨bB, oB, none⟩) N c0] 29 (0, 0)) ∧ At w' Wz2.heap.size (.cells #[.slice (some ⟨bN, oN, none⟩) a cN] 22 (0, 0))) (S2 := fun w' => True) (by kernel_rfl) ?_
  change wpAnyY _ _ _ _ _ _ _ _ _ _ (World.drew _)
  generalize hwdz17 : World.drew _ = wdz17
  replace hB : Below w.heap.size w wdz17 := by rw [← hwdz17]; exact hB.drew
  replace hz5 : At wdz17 w.heap.size (.cells #[.int .i64 p, .int .i64 a, .int .i64 b, .int .i64 d, .slice (some ⟨bB, oB, none⟩) N c0] 29 (0, 0)) := by rw [← hwdz17]; exact hz5
  replace hz11 : At wdz17 Wz2.heap.size (.cells #[.slice (some ⟨bN, oN, none⟩) a cN] 22 (0, 0)) := by rw [← hwdz17]; exact hz11
  clear hwdz17
  refine y_yield 0 (some 13) (.int .i64 0) rfl (by kernel_rfl) (by kernel_rfl) (by kernel_rfl) (fun _ _ _ h => h) rfl rfl ⟨hB, hz5, hz11⟩ (fun w' h' => exec_move _ rfl (.int .i64 0) rfl) ?_
  go_frame
  refine y_oper 1 (by kernel_rfl) rfl rfl (fun K' hK' => ?_)
  have lz20 := hB.size
  have lz21 := hz5.lt
  have lz22 := hz11.lt
  refine wp_call2 (some 14) rfl 31 _ _ _ rfl (fun args w => by kernel_rfl) _ _ rfl rfl _ (isIndex_c 0 3 _) (fun e Wz18 h => ?_)
  obtain ⟨rfl, rfl⟩ := h
  rw [HS3.out]
  refine ⟨_, rfl, ?_⟩
  refine hK' _ _ ⟨hB, hz5, hz11⟩ (fun _ => trivial) ?_
  clear hK' K'
  go_frame
  refine y_yield 2 (some 15) (.bool false) rfl (by kernel_rfl) (by kernel_rfl) (by kernel_rfl) (fun _ _ _ h => h) rfl rfl ⟨hB, hz5, hz11⟩ (fun w' h' => exec_not _ _ rfl true rfl) ?_
  go_frame
  refine y_yield 3 (some 16) (.bool false) rfl (by kernel_rfl) (by kernel_rfl) (by kernel_rfl) (fun _ _ _ h => h) rfl rfl ⟨hB, hz5, hz11⟩ (fun w' h' => exec_move _ rfl (.bool false) rfl) ?_
  go_frame
  refine y_yield 4 (some 17) (.pointer (some ⟨w.heap.size, 0, none⟩)) rfl (by kernel_rfl) (by kernel_rfl) (by kernel_rfl) (fun _ _ _ h => h) rfl rfl ⟨hB, hz5, hz11⟩ (fun w' h' => exec_fieldAddr 29 _ 0 rfl _ (by kernel_rfl)) ?_
  go_frame
  refine y_yield 5 (some 18) (.int .i64 p) rfl (by kernel_rfl) (by kernel_rfl) (by kernel_rfl) (fun _ _ _ h => h) rfl rfl ⟨hB, hz5, hz11⟩ (fun w' h' => exec_load_one 2 _ rfl w.heap.size 0 rfl (.int .i64 p) _ Try.underlying2 rfl (h'.2.1.at_ 0)) ?_
  go_frame
  refine y_yield 6 (some 19) (.agg #[.int .i64 p, .int .i64 a, .int .i64 b, .int .i64 d, .slice (some ⟨bB, oB, none⟩) N c0]) rfl (by kernel_rfl) (by kernel_rfl) (by kernel_rfl) (fun _ _ _ h => h) rfl rfl ⟨hB, hz5, hz11⟩ (fun w' h' => exec_load_all 29 _ rfl w.heap.size rfl _ _ _ h'.2.1 Try.underlying29 rfl 5 (by kernel_rfl) rfl) ?_
  go_frame
  refine y_yield 8 (some 21) (.int .i64 0) rfl (by kernel_rfl) (by kernel_rfl) (by kernel_rfl) (fun _ _ _ h => h) rfl rfl ⟨hB, hz5, hz11⟩ (fun w' h' => exec_move _ rfl (.int .i64 0) rfl) ?_
  go_frame
  refine y_yield 10 (some 23) (.slice (some ⟨bN, oN, none⟩) a cN) rfl (by kernel_rfl) (by kernel_rfl) (by kernel_rfl) (fun _ _ _ h => h) rfl rfl ⟨hB, hz5, hz11⟩ (fun w' h' => exec_load_one 22 _ rfl Wz2.heap.size 0 rfl (.slice (some ⟨bN, oN, none⟩) a cN) _ Try.underlying22 rfl (h'.2.2.at_ 0)) ?_
  go_frame
  refine y_oper 7 (by kernel_rfl) rfl rfl (fun K' hK' => ?_)
  have lz25 := hB.size
  have lz26 := hz5.lt
  have lz27 := hz11.lt
  refine wp_call1 (some 20) rfl 32 _ _ rfl (fun args w => by kernel_rfl) _ rfl _ (boxOf_c p a b d _ _) (fun e Wz23 h => ?_)
  obtain ⟨rfl, bz24⟩ := h
  replace hB := below_after hB bz24
  replace hz5 := hz5.after bz24
  replace hz11 := hz11.after bz24
  clear bz24
  refine ⟨_, rfl, ?_⟩
  refine hK' _ _ ⟨hB, hz5, hz11⟩ (fun _ => trivial) ?_
  clear hK' K'
  go_frame
  refine y_yield 9 (some 22) (.int .i64 a) rfl (by kernel_rfl) (by kernel_rfl) (by kernel_rfl) (fun _ _ _ h => h) rfl rfl ⟨hB, hz5, hz11⟩ (fun w' h' => exec_index_arr3 52 2 _ _ rfl 3 0 _ _ rfl rfl Try.underlying52 _ Try.underlying2 rfl (by kernel_rfl) (by omega) rfl) ?_
  go_frame
  refine y_oper 11 (by kernel_rfl) rfl rfl (fun K' hK' => ?_)
  have lz30 := hB.size
  have lz31 := hz5.lt
  have lz32 := hz11.lt
  refine wp_call3 (some 24) rfl 38 _ _ _ _ rfl (fun args w => by kernel_rfl) _ _ _ rfl rfl rfl _ (isListD_c (some ⟨bN, oN, none⟩) cN p a ls _ (hN.keep hB) HLl.out (by omega)) (fun e Wz28 h => ?_)
  obtain ⟨rfl, bz29⟩ := h
  replace hB := below_after hB bz29
  replace hz5 := hz5.after bz29
  replace hz11 := hz11.after bz29
  rw [HT3.out]
  clear bz29
  refine ⟨_, rfl, ?_⟩
  refine hK' _ _ ⟨hB, hz5, hz11⟩ (fun _ => trivial) ?_
  clear hK' K'
  go_frame
  refine y_yield 12 (some 25) (.bool false) rfl (by kernel_rfl) (by kernel_rfl) (by kernel_rfl) (fun _ _ _ h => h) rfl rfl ⟨hB, hz5, hz11⟩ (fun w' h' => exec_not _ _ rfl true rfl) ?_
  go_frame
  refine y_yield 13 (some 26) (.bool false) rfl (by kernel_rfl) (by kernel_rfl) (by kernel_rfl) (fun _ _ _ h => h) rfl rfl ⟨hB, hz5, hz11⟩ (fun w' h' => exec_pick _ _ _ rfl false rfl (.bool false) rfl) ?_
  go_frame
  refine y_done (by kernel_rfl) ?_ _
  go_upto_region 5 with (fail)
  refine wp_region_lit ?_
  refine ls_ex (some 27) (.agg #[.int .i64 p, .int .i64 a, .int .i64 b, .int .i64 d, .slice (some ⟨bB, oB, none⟩) N c0]) rfl rfl (exec_load_all 29 _ rfl w.heap.size rfl _ _ _ hz5 Try.underlying29 rfl 5 (by kernel_rfl) rfl) ?_
  go_frame
  refine ls_ex (some 28) (.int .i64 0) rfl rfl (exec_move _ rfl (.int .i64 0) rfl) ?_
  go_frame
  refine ls_op rfl (fun K' hK' => ?_)
  have lz35 := hB.size
  have lz36 := hz5.lt
  have lz37 := hz11.lt
  refine wp_call2 (some 29) rfl 34 _ _ _ rfl (fun args w => by kernel_rfl) _ _ rfl rfl _ (turnedTo_q p a b d 0 bB oB c0 N xs 0 _ q1 q2 q3 q4 HQ.out rfl (hX.keep hB) HXl.out Hs.out (by omega) hc0) (fun e Wz33 h => ?_)
  obtain ⟨b9, o9, c9, rfl, hc9, hq5, hq6, hq4, bz34⟩ := h
  replace hB := below_after hB bz34
  replace hz5 := hz5.after bz34
  replace hz11 := hz11.after bz34
  have h9q := (ten_parts hq6).2
  have ha9 : 1 ≤ q1 ∧ q1 ≤ 9 := h9q.1
  have hb9 : 1 ≤ q2 ∧ q2 ≤ 9 := h9q.2.1
  have hd9 : 1 ≤ q3 ∧ q3 ≤ 9 := h9q.2.2.1
  have HN9 : Hid (q1 * q2 * q3 = N) := Lib.hid (by rw [← hq5]; exact h9q.2.2.2.1.symm)
  have HNb := Lib.hid h9q.2.2.2.2
  have HQl := Lib.hid hq5
  have HQt := Lib.hid hq6
  clear h9q hq5 hq6
  have hB5 := Below.refl Wz33.heap.size Wz33
  have lo5 := hB.size
  clear bz34
  refine ⟨_, rfl, ?_⟩
  refine hK' _ _ ?_
  clear hK' K'
  go_frame
  refine ls_op rfl (fun K' hK' => ?_)
  have lz38 := hB.size
  have lz39 := hz5.lt
  have lz40 := hz11.lt
  have lz41 := hB5.size
  refine wp_new (some 8) rfl (alCt_impl_Tensor rfl) (fun Wz42 nnz43 => ?_)
  have bz44 := nnz43.below (Below.refl _ _) (Nat.le_refl _)
  replace hB := below_after hB bz44
  replace hz5 := hz5.after bz44
  replace hz11 := hz11.after bz44
  replace hB5 := below_after hB5 bz44
  have hz45 : At Wz42 Wz33.heap.size (.cells #[.int .i64 0, .int .i64 0, .int .i64 0, .int .i64 0, .slice none 0 0] 29 (0, 0)) := nnz43.at_
  refine hK' _ _ ?_
  clear hK' K' nnz43 bz44
  go_frame
  refine ls_op rfl (fun K' hK' => ?_)
  refine wp_store_all 29 _ _ rfl rfl Wz33.heap.size rfl #[.int .i64 p, .int .i64 q1, .int .i64 q2, .int .i64 q3, .slice (some ⟨b9, o9, none⟩) N c9] rfl _ _ hz45 5 (by kernel_rfl) rfl rfl (one5 _ _ _ _ _ _ _) (fun Wz46 pz47 => ?_)
  replace hB := pz47.below hB (by omega)
  replace hz5 := pz47.other hz5 (by omega)
  replace hz11 := pz47.other hz11 (by omega)
  replace hB5 := pz47.below hB5 (by omega)
  replace hz45 : At Wz46 Wz33.heap.size (.cells #[.int .i64 p, .int .i64 q1, .int .i64 q2, .int .i64 q3, .slice (some ⟨b9, o9, none⟩) N c9] 29 (0, 0)) := pz47.at_
  refine hK' _ _ ?_
  clear hK' K' pz47
  refine wpList_nil ?_
  go_upto_region 6 with (fail)
  refine wp_region_lit ?_
  refine ls_ex (some 30) (.pointer (some ⟨w.heap.size, 0, none⟩)) rfl rfl (exec_fieldAddr 29 _ 0 rfl _ (by kernel_rfl)) ?_
  go_frame
  refine ls_ex (some 31) (.int .i64 p) rfl rfl (exec_load_one 2 _ rfl w.heap.size 0 rfl (.int .i64 p) _ Try.underlying2 rfl (hz5.at_ 0)) ?_
  go_frame
  refine ls_ex (some 32) (.pointer (some ⟨Wz33.heap.size, 2, none⟩)) rfl rfl (exec_fieldAddr 29 _ 2 rfl _ (by kernel_rfl)) ?_
  go_frame
  refine ls_ex (some 33) (.int .i64 q2) rfl rfl (exec_load_one 2 _ rfl Wz33.heap.size 2 rfl (.int .i64 q2) _ Try.underlying2 rfl (hz45.at_ 2)) ?_
  go_frame
  refine ls_ex (some 34) (.pointer (some ⟨Wz33.heap.size, 3, none⟩)) rfl rfl (exec_fieldAddr 29 _ 3 rfl _ (by kernel_rfl)) ?_
  go_frame
  refine ls_ex (some 35) (.int .i64 q3) rfl rfl (exec_load_one 2 _ rfl Wz33.heap.size 3 rfl (.int .i64 q3) _ Try.underlying2 rfl (hz45.at_ 3)) ?_
  go_frame
  refine ls_ex (some 36) (.agg #[.int .i64 1, .int .i64 q2, .int .i64 q3]) rfl rfl (exec_build_boxT _ _ _ rfl 1 q2 q3 rfl rfl rfl) ?_
  go_frame
  refine ls_ex (some 37) (.func (.func 40) #[] #[.pointer (some ⟨Wz2.heap.size, 0, none⟩), .pointer (some ⟨Wz33.heap.size, 0, none⟩)]) rfl rfl (exec_mkfn2 _ _ _ rfl _ _ rfl rfl) ?_
  go_frame
  refine ls_op rfl (fun K' hK' => ?_)
  have lz50 := hB.size
  have lz51 := hz5.lt
  have lz52 := hz11.lt
  have lz53 := hB5.size
  have lz54 := hz45.lt
  have lo9 := hB.size
  refine wp_call3 (some 38) rfl 39 _ _ _ _ rfl (fun args w => by kernel_rfl) _ _ _ rfl rfl rfl _ (tensorWithCt_c p 1 q2 q3 Wz2.heap.size Wz33.heap.size (fun _ j k => ctS ls q4 q2 q3 j k q1) _ (by omega) rfl (side_of hb9) (side_of hd9) (fun i j k w1 hi hj hk hb => ⟨(ctS_b HNb.out HMb.out (by omega) (by omega) q1).1, ct1_c p q1 q2 q3 b9 o9 c9 N q4 bN oN cN a ls i j k Wz2.heap.size Wz33.heap.size w1 ((hq4.keep hB5).keep hb) HQl.out HQt.out ((hN.keep hB).keep hb) HLl.out HMb.out HS1.out (hz11.after hb) (hz45.after hb) hj hk⟩)) (fun e Wz48 h => ?_)
  obtain ⟨v5, rfl, ho, bz49⟩ := h
  replace hB := below_after hB bz49
  replace hz5 := hz5.after bz49
  replace hz11 := hz11.after bz49
  replace hB5 := below_after hB5 bz49
  replace hz45 := hz45.after bz49
  rw [show genL q2 q3 p (fun _ j k => ctS ls q4 q2 q3 j k q1) (1 * q2 * q3) = ctL p ls q4 q1 q2 q3 from rfl] at ho
  have hL6 : (ctL p ls q4 q1 q2 q3).length = q2 * q3 := by rw [ctL, genL_len, Nat.one_mul]
  have hp6 : 0 < q2 * q3 := Nat.mul_pos (by omega) (by omega)
  obtain ⟨g6, c6, rfl, hc6, hg6⟩ := ho.open0 hL6 hp6
  clear bz49
  refine ⟨_, rfl, ?_⟩
  refine hK' _ _ ?_
  clear hK' K'
  go_frame
  refine ls_op rfl (fun K' hK' => ?_)
  have lz55 := hB.size
  have lz56 := hz5.lt
  have lz57 := hz11.lt
  have lz58 := hB5.size
  have lz59 := hz45.lt
  have naz64 := ho.away_new
  refine wp_new (some 9) rfl (alCt_impl_Tensor rfl) (fun Wz60 nnz61 => ?_)
  have bz62 := nnz61.below (Below.refl _ _) (Nat.le_refl _)
  replace hB := below_after hB bz62
  replace hz5 := hz5.after bz62
  replace hz11 := hz11.after bz62
  replace hB5 := below_after hB5 bz62
  replace hz45 := hz45.after bz62
  replace ho := ho.below bz62
  have hz63 : At Wz60 Wz48.heap.size (.cells #[.int .i64 0, .int .i64 0, .int .i64 0, .int .i64 0, .slice none 0 0] 29 (0, 0)) := nnz61.at_
  refine hK' _ _ ?_
  clear hK' K' nnz61 bz62
  go_frame
  refine ls_op rfl (fun K' hK' => ?_)
  refine wp_store_all 29 _ _ rfl rfl Wz48.heap.size rfl #[.int .i64 p, .int .i64 (1 : Nat), .int .i64 q2, .int .i64 q3, .slice (some ⟨g6, 0, none⟩) (q2 * q3) c6] rfl _ _ hz63 5 (by kernel_rfl) rfl rfl (one5 _ _ _ _ _ _ _) (fun Wz65 pz66 => ?_)
  replace hB := pz66.below hB (by omega)
  replace hz5 := pz66.other hz5 (by omega)
  replace hz11 := pz66.other hz11 (by omega)
  replace hB5 := pz66.below hB5 (by omega)
  replace hz45 := pz66.other hz45 (by omega)
  replace ho := ho.put pz66 naz64
  replace hz63 : At Wz65 Wz48.heap.size (.cells #[.int .i64 p, .int .i64 (1 : Nat), .int .i64 q2, .int .i64 q3, .slice (some ⟨g6, 0, none⟩) (q2 * q3) c6] 29 (0, 0)) := pz66.at_
  refine hK' _ _ ?_
  clear hK' K' pz66
  refine wpList_nil ?_
  go_upto_region 7 with (fail)
  refine wp_region_lit ?_
  refine ls_ex (some 39) (.agg #[.int .i64 p, .int .i64 (1 : Nat), .int .i64 q2, .int .i64 q3, .slice (some ⟨g6, 0, none⟩) (q2 * q3) c6]) rfl rfl (exec_load_all 29 _ rfl Wz48.heap.size rfl _ _ _ hz63 Try.underlying29 rfl 5 (by kernel_rfl) rfl) ?_
  go_frame
  refine ls_op rfl (fun K' hK' => ?_)
  have lz69 := hB.size
  have lz70 := hz5.lt
  have lz71 := hz11.lt
  have lz72 := hB5.size
  have lz73 := hz45.lt
  have lz74 := hz63.lt
  have lo8 := hB.size
  refine wp_call2 (some 40) rfl 33 _ _ _ rfl (fun args w => by kernel_rfl) _ _ rfl rfl _ (sliceAt_c p 1 q2 q3 0 g6 0 c6 (q2 * q3) (ctL p ls q4 q1 q2 q3) _ ho.rd' hL6 (ctL_ten HQt.out) (by omega) hc6) (fun e Wz67 h => ?_)
  obtain ⟨v9, rfl, ho8, bz68⟩ := h
  replace hB := below_after hB bz68
  replace hz5 := hz5.after bz68
  replace hz11 := hz11.after bz68
  replace hB5 := below_after hB5 bz68
  replace hz45 := hz45.after bz68
  replace ho := ho.below bz68
  replace hz63 := hz63.after bz68
  clear ho
  have ho := OwnP.of (ho8.congrR (fun j hj => ctR_eq hj))
  rw [HRW.out] at ho
  clear ho8
  clear bz68
  refine ⟨_, rfl, ?_⟩
  refine hK' _ _ ?_
  clear hK' K'
  go_frame
  refine ls_ex (some 6) (v9) rfl rfl (exec_assign _ rfl (v9) rfl) ?_
  go_frame
  refine ls_ex (some 7) (.int .i64 0) rfl rfl (exec_assign _ rfl (.int .i64 0) rfl) ?_
  go_frame
  refine wpList_nil ?_
  go_wp2_with fail
  obtain ⟨hi9, hh9, ho9⟩ := ho
  go_ret2
  rw [HN.out, HF.out]
  exact ⟨v9, by rw [HC.out]; rfl, ho9.mono (by omega) hh9, hB⟩
set_option maxHeartbeats 4000000 in
theorem implCt_y1 (p : Int) (a b d : Nat) (bB oB c0 N : Nat) (xs : List Int) (bN oN cN NS : Nat) (ls : List Int) (w : World) (hX : RdI w (some ⟨bB, oB, none⟩) xs) (hxl : xs.length = N) (hs : tenB p a b d xs = true) (hN : RdI w (some ⟨bN, oN, none⟩) ls) (hLl : ls.length = NS) (hc0 : N ≤ c0) (hT : listB p NS ls = true) (hD : b = NS) :
    Calls Try.prog 17 #[.agg #[.int .i64 p, .int .i64 a, .int .i64 b, .int .i64 d, .slice (some ⟨bB, oB, none⟩) N c0], .int .i64 1, .slice (some ⟨bN, oN, none⟩) NS cN] w (ResR w (cnN p a b d 1 ls xs) (cnF p a b d 1 ls xs) (cnCode p a b d 1 ls xs)) := by
  have hB := Below.refl w.heap.size w
  subst hD
  have h0 : ctOK p a b d 1 ls xs = true := by unfold ctOK; rw [hs]; simp [hT]; rfl
  obtain ⟨q1, q2, q3, q4, hq⟩ : ∃ q1 q2 q3 q4, trn p 1 (a, b, d, xs) = (q1, q2, q3, q4) := ⟨_, _, _, _, rfl⟩
  obtain ⟨RW, hRW⟩ : ∃ z9, ctR p ls q4 q1 q2 q3 = z9 := ⟨_, rfl⟩
  have hsq : slQ p a b d 1 xs = (q1, q2, q3, q4) := by rw [← hq]; rfl
  have HN : Hid (cnN p a b d 1 ls xs = q2) := Lib.hid (by unfold cnN; rw [h0, hsq]; rfl)
  have HF : Hid (cnF p a b d 1 ls xs = RW) := Lib.hid (by unfold cnF cnG; rw [hsq]; exact hRW)
  have HC : Hid (cnCode p a b d 1 ls xs = 0) := Lib.hid (by unfold cnCode; rw [hs, h0]; rfl)
  have HS3 : Hid (inB 1 3 = true) := Lib.hid rfl
  have HT3 := Lib.hid hT
  have HQ := Lib.hid hq
  have HRW := Lib.hid hRW
  have HLl := Lib.hid hLl
  have HMb := Lib.hid (listB_parts hT).2
  have HS1 : Hid (q1 = b) := Lib.hid (by have h9 := congrArg (·.1) hq; exact h9.symm)
  have Hs := Lib.hid hs
  have HXl := Lib.hid hxl
  have hpp := prime_le5 (ten_parts hs).1
  have hdm := (ten_parts hs).2
  have ha0 := hdm.1
  have hb0 := hdm.2.1
  have hd0 := hdm.2.2.1
  have hNb : N ≤ 729 := by rw [← hxl, hdm.2.2.2.1]; exact Nat.le_trans (Nat.mul_le_mul (Nat.mul_le_mul hdm.1.2 hdm.2.1.2) hdm.2.2.1.2) (by decide)
  clear hs hxl hdm hT h0 hq hsq hRW hLl
  go_enter Try.func17, Try.ntmps17
  go_upto_region 0 with (fail)
  refine wp_region_lit ?_
  refine ls_op rfl (fun K' hK' => ?_)
  have lz1 := hB.size
  refine wp_new (some 3) rfl (exec_box 29 _ rfl (#[.int .i64 p, .int .i64 a, .int .i64 b, .int .i64 d, .slice (some ⟨bB, oB, none⟩) N c0]) rfl) (fun Wz2 nnz3 => ?_)
  have bz4 := nnz3.below (Below.refl _ _) (Nat.le_refl _)
  replace hB := below_after hB bz4
  have hz5 : At Wz2 w.heap.size (.cells #[.int .i64 p, .int .i64 a, .int .i64 b, .int .i64 d, .slice (some ⟨bB, oB, none⟩) N c0] 29 (0, 0)) := nnz3.at_
  refine hK' _ _ ?_
  clear hK' K' nnz3 bz4
  go_frame
  refine ls_op rfl (fun K' hK' => ?_)
  have lz6 := hB.size
  have lz7 := hz5.lt
  refine wp_new (some 5) rfl (exec_box 22 _ rfl (#[.slice (some ⟨bN, oN, none⟩) b cN]) rfl) (fun Wz8 nnz9 => ?_)
  have bz10 := nnz9.below (Below.refl _ _) (Nat.le_refl _)
  replace hB := below_after hB bz10
  replace hz5 := hz5.after bz10
  have hz11 : At Wz8 Wz2.heap.size (.cells #[.slice (some ⟨bN, oN, none⟩) b cN] 22 (0, 0)) := nnz9.at_
  refine hK' _ _ ?_
  clear hK' K' nnz9 bz10
  go_frame
  refine ls_ex (some 6) (.slice none 0 0) rfl rfl (exec_assign _ rfl (.slice none 0 0) rfl) ?_
  go_frame
  refine ls_ex (some 7) (.int .i64 0) rfl rfl (exec_assign _ rfl (.int .i64 0) rfl) ?_
  go_frame
  refine wpList_nil ?_
  go_upto_region 1 with (fail)
  refine wp_region_lit ?_
  refine ls_ex (some 10) (.agg #[.int .i64 p, .int .i64 a, .int .i64 b, .int .i64 d, .slice (some ⟨bB, oB, none⟩) N c0]) rfl rfl (exec_load_all 29 _ rfl w.heap.size rfl _ _ _ hz5 Try.underlying29 rfl 5 (by kernel_rfl) rfl) ?_
  go_frame
  refine ls_op rfl (fun K' hK' => ?_)
  have lz14 := hB.size
  have lz15 := hz5.lt
  have lz16 := hz11.lt
  refine wp_call1 (some 11) rfl 30 _ _ rfl (fun args w => by kernel_rfl) _ rfl _ (implIsTensorN_c p a b d (some ⟨bB, oB, none⟩) N c0 xs _ HXl.out (hX.keep hB) (by omega)) (fun e Wz12 h => ?_)
  obtain ⟨rfl, bz13⟩ := h
  replace hB := below_after hB bz13
  replace hz5 := hz5.after bz13
  replace hz11 := hz11.after bz13
  rw [Hs.out]
  clear bz13
  refine ⟨_, rfl, ?_⟩
  refine hK' _ _ ?_
  clear hK' K'
  go_frame
  refine ls_ex (some 12) (.bool false) rfl rfl (exec_not _ _ rfl true rfl) ?_
  go_frame
  refine wpList_nil ?_
  go_upto_region 3 with (fail)
  refine wp_region_y (zs := []) (S := fun w' => Below w.heap.size w w' ∧ At w' w.heap.size (.cells #[.int .i64 p, .int .i64 a, .int .i64 b, .int .i64 d, .slice (some ⟨bB, oB, none⟩) N c0] 29 (0, 0)) ∧ At w' Wz2.heap.size (.cells #[.slice (some ⟨bN, oN, none⟩) b cN] 22 (0, 0))) (S2 := fun w' => True) (by kernel_rfl) ?_
  change wpAnyY _ _ _ _ _ _ _ _ _ _ (World.drew _)
  generalize hwdz17 : World.drew _ = wdz17
  replace hB : Below w.heap.size w wdz17 := by rw [← hwdz17]; exact hB.drew
  replace hz5 : At wdz17 w.heap.size (.cells #[.int .i64 p, .int .i64 a, .int .i64 b, .int .i64 d, .slice (some ⟨bB, oB, none⟩) N c0] 29 (0, 0)) := by rw [← hwdz17]; exact hz5
  replace hz11 : At wdz17 Wz2.heap.size (.cells #[.slice (some ⟨bN, oN, none⟩) b cN] 22 (0, 0)) := by rw [← hwdz17]; exact hz11
  clear hwdz17
  refine y_yield 0 (some 13) (.int .i64 1) rfl (by kernel_rfl) (by kernel_rfl) (by kernel_rfl) (fun _ _ _ h => h) rfl rfl ⟨hB, hz5, hz11⟩ (fun w' h' => exec_move _ rfl (.int .i64 1) rfl) ?_
  go_frame
  refine y_oper 1 (by kernel_rfl) rfl rfl (fun K' hK' => ?_)
  have lz20 := hB.size
  have lz21 := hz5.lt
  have lz22 := hz11.lt
  refine wp_call2 (some 14) rfl 31 _ _ _ rfl (fun args w => by kernel_rfl) _ _ rfl rfl _ (isIndex_c 1 3 _) (fun e Wz18 h => ?_)
  obtain ⟨rfl, rfl⟩ := h
  rw [HS3.out]
  refine ⟨_, rfl, ?_⟩
  refine hK' _ _ ⟨hB, hz5, hz11⟩ (fun _ => trivial) ?_
  clear hK' K'
  go_frame
  refine y_yield 2 (some 15) (.bool false) rfl (by kernel_rfl) (by kernel_rfl) (by kernel_rfl) (fun _ _ _ h => h) rfl rfl ⟨hB, hz5, hz11⟩ (fun w' h' => exec_not _ _ rfl true rfl) ?_
  go_frame
  refine y_yield 3 (some 16) (.bool false) rfl (by kernel_rfl) (by kernel_rfl) (by kernel_rfl) (fun _ _ _ h => h) rfl rfl ⟨hB, hz5, hz11⟩ (fun w' h' => exec_move _ rfl (.bool false) rfl) ?_
  go_frame
  refine y_yield 4 (some 17) (.pointer (some ⟨w.heap.size, 0, none⟩)) rfl (by kernel_rfl) (by kernel_rfl) (by kernel_rfl) (fun _ _ _ h => h) rfl rfl ⟨hB, hz5, hz11⟩ (fun w' h' => exec_fieldAddr 29 _ 0 rfl _ (by kernel_rfl)) ?_
  go_frame
  refine y_yield 5 (some 18) (.int .i64 p) rfl (by kernel_rfl) (by kernel_rfl) (by kernel_rfl) (fun _ _ _ h => h) rfl rfl ⟨hB, hz5, hz11⟩ (fun w' h' => exec_load_one 2 _ rfl w.heap.size 0 rfl (.int .i64 p) _ Try.underlying2 rfl (h'.2.1.at_ 0)) ?_
  go_frame
  refine y_yield 6 (some 19) (.agg #[.int .i64 p, .int .i64 a, .int .i64 b, .int .i64 d, .slice (some ⟨bB, oB, none⟩) N c0]) rfl (by kernel_rfl) (by kernel_rfl) (by kernel_rfl) (fun _ _ _ h => h) rfl rfl ⟨hB, hz5, hz11⟩ (fun w' h' => exec_load_all 29 _ rfl w.heap.size rfl _ _ _ h'.2.1 Try.underlying29 rfl 5 (by kernel_rfl) rfl) ?_
  go_frame
  refine y_yield 8 (some 21) (.int .i64 1) rfl (by kernel_rfl) (by kernel_rfl) (by kernel_rfl) (fun _ _ _ h => h) rfl rfl ⟨hB, hz5, hz11⟩ (fun w' h' => exec_move _ rfl (.int .i64 1) rfl) ?_
  go_frame
  refine y_yield 10 (some 23) (.slice (some ⟨bN, oN, none⟩) b cN) rfl (by kernel_rfl) (by kernel_rfl) (by kernel_rfl) (fun _ _ _ h => h) rfl rfl ⟨hB, hz5, hz11⟩ (fun w' h' => exec_load_one 22 _ rfl Wz2.heap.size 0 rfl (.slice (some ⟨bN, oN, none⟩) b cN) _ Try.underlying22 rfl (h'.2.2.at_ 0)) ?_
  go_frame
  refine y_oper 7 (by kernel_rfl) rfl rfl (fun K' hK' => ?_)
  have lz25 := hB.size
  have lz26 := hz5.lt
  have lz27 := hz11.lt
  refine wp_call1 (some 20) rfl 32 _ _ rfl (fun args w => by kernel_rfl) _ rfl _ (boxOf_c p a b d _ _) (fun e Wz23 h => ?_)
  obtain ⟨rfl, bz24⟩ := h
  replace hB := below_after hB bz24
  replace hz5 := hz5.after bz24
  replace hz11 := hz11.after bz24
  clear bz24
  refine ⟨_, rfl, ?_⟩
  refine hK' _ _ ⟨hB, hz5, hz11⟩ (fun _ => trivial) ?_
  clear hK' K'
  go_frame
  refine y_yield 9 (some 22) (.int .i64 b) rfl (by kernel_rfl) (by kernel_rfl) (by kernel_rfl) (fun _ _ _ h => h) rfl rfl ⟨hB, hz5, hz11⟩ (fun w' h' => exec_index_arr3 52 2 _ _ rfl 3 1 _ _ rfl rfl Try.underlying52 _ Try.underlying2 rfl (by kernel_rfl) (by omega) rfl) ?_
  go_frame
  refine y_oper 11 (by kernel_rfl) rfl rfl (fun K' hK' => ?_)
  have lz30 := hB.size
  have lz31 := hz5.lt
  have lz32 := hz11.lt
  refine wp_call3 (some 24) rfl 38 _ _ _ _ rfl (fun args w => by kernel_rfl) _ _ _ rfl rfl rfl _ (isListD_c (some ⟨bN, oN, none⟩) cN p b ls _ (hN.keep hB) HLl.out (by omega)) (fun e Wz28 h => ?_)
  obtain ⟨rfl, bz29⟩ := h
  replace hB := below_after hB bz29
  replace hz5 := hz5.after bz29
  replace hz11 := hz11.after bz29
  rw [HT3.out]
  clear bz29
  refine ⟨_, rfl, ?_⟩
  refine hK' _ _ ⟨hB, hz5, hz11⟩ (fun _ => trivial) ?_
  clear hK' K'
  go_frame
  refine y_yield 12 (some 25) (.bool false) rfl (by kernel_rfl) (by kernel_rfl) (by kernel_rfl) (fun _ _ _ h => h) rfl rfl ⟨hB, hz5, hz11⟩ (fun w' h' => exec_not _ _ rfl true rfl) ?_
  go_frame
  refine y_yield 13 (some 26) (.bool false) rfl (by kernel_rfl) (by kernel_rfl) (by kernel_rfl) (fun _ _ _ h => h) rfl rfl ⟨hB, hz5, hz11⟩ (fun w' h' => exec_pick _ _ _ rfl false rfl (.bool false) rfl) ?_
  go_frame
  refine y_done (by kernel_rfl) ?_ _
  go_upto_region 5 with (fail)
  refine wp_region_lit ?_
  refine ls_ex (some 27) (.agg #[.int .i64 p, .int .i64 a, .int .i64 b, .int .i64 d, .slice (some ⟨bB, oB, none⟩) N c0]) rfl rfl (exec_load_all 29 _ rfl w.heap.size rfl _ _ _ hz5 Try.underlying29 rfl 5 (by kernel_rfl) rfl) ?_
  go_frame
  refine ls_ex (some 28) (.int .i64 1) rfl rfl (exec_move _ rfl (.int .i64 1) rfl) ?_
  go_frame
  refine ls_op rfl (fun K' hK' => ?_)
  have lz35 := hB.size
  have lz36 := hz5.lt
  have lz37 := hz11.lt
  refine wp_call2 (some 29) rfl 34 _ _ _ rfl (fun args w => by kernel_rfl) _ _ rfl rfl _ (turnedTo_q p a b d 1 bB oB c0 N xs 1 _ q1 q2 q3 q4 HQ.out rfl (hX.keep hB) HXl.out Hs.out (by omega) hc0) (fun e Wz33 h => ?_)
  obtain ⟨b9, o9, c9, rfl, hc9, hq5, hq6, hq4, bz34⟩ := h
  replace hB := below_after hB bz34
  replace hz5 := hz5.after bz34
  replace hz11 := hz11.after bz34
  have h9q := (ten_parts hq6).2
  have ha9 : 1 ≤ q1 ∧ q1 ≤ 9 := h9q.1
  have hb9 : 1 ≤ q2 ∧ q2 ≤ 9 := h9q.2.1
  have hd9 : 1 ≤ q3 ∧ q3 ≤ 9 := h9q.2.2.1
  have HN9 : Hid (q1 * q2 * q3 = N) := Lib.hid (by rw [← hq5]; exact h9q.2.2.2.1.symm)
  have HNb := Lib.hid h9q.2.2.2.2
  have HQl := Lib.hid hq5
  have HQt := Lib.hid hq6
  clear h9q hq5 hq6
  have hB5 := Below.refl Wz33.heap.size Wz33
  have lo5 := hB.size
  clear bz34
  refine ⟨_, rfl, ?_⟩
  refine hK' _ _ ?_
  clear hK' K'
  go_frame
  refine ls_op rfl (fun K' hK' => ?_)
  have lz38 := hB.size
  have lz39 := hz5.lt
  have lz40 := hz11.lt
  have lz41 := hB5.size
  refine wp_new (some 8) rfl (alCt_impl_Tensor rfl) (fun Wz42 nnz43 => ?_)
  have bz44 := nnz43.below (Below.refl _ _) (Nat.le_refl _)
  replace hB := below_after hB bz44
  replace hz5 := hz5.after bz44
  replace hz11 := hz11.after bz44
  replace hB5 := below_after hB5 bz44
  have hz45 : At Wz42 Wz33.heap.size (.cells #[.int .i64 0, .int .i64 0, .int .i64 0, .int .i64 0, .slice none 0 0] 29 (0, 0)) := nnz43.at_
  refine hK' _ _ ?_
  clear hK' K' nnz43 bz44
  go_frame
  refine ls_op rfl (fun K' hK' => ?_)
  refine wp_store_all 29 _ _ rfl rfl Wz33.heap.size rfl #[.int .i64 p, .int .i64 q1, .int .i64 q2, .int .i64 q3, .slice (some ⟨b9, o9, none⟩) N c9] rfl _ _ hz45 5 (by kernel_rfl) rfl rfl (one5 _ _ _ _ _ _ _) (fun Wz46 pz47 => ?_)
  replace hB := pz47.below hB (by omega)
  replace hz5 := pz47.other hz5 (by omega)
  replace hz11 := pz47.other hz11 (by omega)
  replace hB5 := pz47.below hB5 (by omega)
  replace hz45 : At Wz46 Wz33.heap.size (.cells #[.int .i64 p, .int .i64 q1, .int .i64 q2, .int .i64 q3, .slice (some ⟨b9, o9, none⟩) N c9] 29 (0, 0)) := pz47.at_
  refine hK' _ _ ?_
  clear hK' K' pz47
  refine wpList_nil ?_
  go_upto_region 6 with (fail)
  refine wp_region_lit ?_
  refine ls_ex (some 30) (.pointer (some ⟨w.heap.size, 0, none⟩)) rfl rfl (exec_fieldAddr 29 _ 0 rfl _ (by kernel_rfl)) ?_
  go_frame
  refine ls_ex (some 31) (.int .i64 p) rfl rfl (exec_load_one 2 _ rfl w.heap.size 0 rfl (.int .i64 p) _ Try.underlying2 rfl (hz5.at_ 0)) ?_
  go_frame
  refine ls_ex (some 32) (.pointer (some ⟨Wz33.heap.size, 2, none⟩)) rfl rfl (exec_fieldAddr 29 _ 2 rfl _ (by kernel_rfl)) ?_
  go_frame
  refine ls_ex (some 33) (.int .i64 q2) rfl rfl (exec_load_one 2 _ rfl Wz33.heap.size 2 rfl (.int .i64 q2) _ Try.underlying2 rfl (hz45.at_ 2)) ?_
  go_frame
  refine ls_ex (some 34) (.pointer (some ⟨Wz33.heap.size, 3, none⟩)) rfl rfl (exec_fieldAddr 29 _ 3 rfl _ (by kernel_rfl)) ?_
  go_frame
  refine ls_ex (some 35) (.int .i64 q3) rfl rfl (exec_load_one 2 _ rfl Wz33.heap.size 3 rfl (.int .i64 q3) _ Try.underlying2 rfl (hz45.at_ 3)) ?_
  go_frame
  refine ls_ex (some 36) (.agg #[.int .i64 1, .int .i64 q2, .int .i64 q3]) rfl rfl (exec_build_boxT _ _ _ rfl 1 q2 q3 rfl rfl rfl) ?_
  go_frame
  refine ls_ex (some 37) (.func (.func 40) #[] #[.pointer (some ⟨Wz2.heap.size, 0, none⟩), .pointer (some ⟨Wz33.heap.size, 0, none⟩)]) rfl rfl (exec_mkfn2 _ _ _ rfl _ _ rfl rfl) ?_
  go_frame
  refine ls_op rfl (fun K' hK' => ?_)
  have lz50 := hB.size
  have lz51 := hz5.lt
  have lz52 := hz11.lt
  have lz53 := hB5.size
  have lz54 := hz45.lt
  have lo9 := hB.size
  refine wp_call3 (some 38) rfl 39 _ _ _ _ rfl (fun args w => by kernel_rfl) _ _ _ rfl rfl rfl _ (tensorWithCt_c p 1 q2 q3 Wz2.heap.size Wz33.heap.size (fun _ j k => ctS ls q4 q2 q3 j k q1) _ (by omega) rfl (side_of hb9) (side_of hd9) (fun i j k w1 hi hj hk hb => ⟨(ctS_b HNb.out HMb.out (by omega) (by omega) q1).1, ct1_c p q1 q2 q3 b9 o9 c9 N q4 bN oN cN b ls i j k Wz2.heap.size Wz33.heap.size w1 ((hq4.keep hB5).keep hb) HQl.out HQt.out ((hN.keep hB).keep hb) HLl.out HMb.out HS1.out (hz11.after hb) (hz45.after hb) hj hk⟩)) (fun e Wz48 h => ?_)
  obtain ⟨v5, rfl, ho, bz49⟩ := h
  replace hB := below_after hB bz49
  replace hz5 := hz5.after bz49
  replace hz11 := hz11.after bz49
  replace hB5 := below_after hB5 bz49
  replace hz45 := hz45.after bz49
  rw [show genL q2 q3 p (fun _ j k => ctS ls q4 q2 q3 j k q1) (1 * q2 * q3) = ctL p ls q4 q1 q2 q3 from rfl] at ho
  have hL6 : (ctL p ls q4 q1 q2 q3).length = q2 * q3 := by rw [ctL, genL_len, Nat.one_mul]
  have hp6 : 0 < q2 * q3 := Nat.mul_pos (by omega) (by omega)
  obtain ⟨g6, c6, rfl, hc6, hg6⟩ := ho.open0 hL6 hp6
  clear bz49
  refine ⟨_, rfl, ?_⟩
  refine hK' _ _ ?_
  clear hK' K'
  go_frame
  refine ls_op rfl (fun K' hK' => ?_)
  have lz55 := hB.size
  have lz56 := hz5.lt
  have lz57 := hz11.lt
  have lz58 := hB5.size
  have lz59 := hz45.lt
  have naz64 := ho.away_new
  refine wp_new (some 9) rfl (alCt_impl_Tensor rfl) (fun Wz60 nnz61 => ?_)
  have bz62 := nnz61.below (Below.refl _ _) (Nat.le_refl _)
  replace hB := below_after hB bz62
  replace hz5 := hz5.after bz62
  replace hz11 := hz11.after bz62
  replace hB5 := below_after hB5 bz62
  replace hz45 := hz45.after bz62
  replace ho := ho.below bz62
  have hz63 : At Wz60 Wz48.heap.size (.cells #[.int .i64 0, .int .i64 0, .int .i64 0, .int .i64 0, .slice none 0 0] 29 (0, 0)) := nnz61.at_
  refine hK' _ _ ?_
  clear hK' K' nnz61 bz62
  go_frame
  refine ls_op rfl (fun K' hK' => ?_)
  refine wp_store_all 29 _ _ rfl rfl Wz48.heap.size rfl #[.int .i64 p, .int .i64 (1 : Nat), .int .i64 q2, .int .i64 q3, .slice (some ⟨g6, 0, none⟩) (q2 * q3) c6] rfl _ _ hz63 5 (by kernel_rfl) rfl rfl (one5 _ _ _ _ _ _ _) (fun Wz65 pz66 => ?_)
  replace hB := pz66.below hB (by omega)
  replace hz5 := pz66.other hz5 (by omega)
  replace hz11 := pz66.other hz11 (by omega)
  replace hB5 := pz66.below hB5 (by omega)
  replace hz45 := pz66.other hz45 (by omega)
  replace ho := ho.put pz66 naz64
  replace hz63 : At Wz65 Wz48.heap.size (.cells #[.int .i64 p, .int .i64 (1 : Nat), .int .i64 q2, .int .i64 q3, .slice (some ⟨g6, 0, none⟩) (q2 * q3) c6] 29 (0, 0)) := pz66.at_
  refine hK' _ _ ?_
  clear hK' K' pz66
  refine wpList_nil ?_
  go_upto_region 7 with (fail)
  refine wp_region_lit ?_
  refine ls_ex (some 39) (.agg #[.int .i64 p, .int .i64 (1 : Nat), .int .i64 q2, .int .i64 q3, .slice (some ⟨g6, 0, none⟩) (q2 * q3) c6]) rfl rfl (exec_load_all 29 _ rfl Wz48.heap.size rfl _ _ _ hz63 Try.underlying29 rfl 5 (by kernel_rfl) rfl) ?_
  go_frame
  refine ls_op rfl (fun K' hK' => ?_)
  have lz69 := hB.size
  have lz70 := hz5.lt
  have lz71 := hz11.lt
  have lz72 := hB5.size
  have lz73 := hz45.lt
  have lz74 := hz63.lt
  have lo8 := hB.size
  refine wp_call2 (some 40) rfl 33 _ _ _ rfl (fun args w => by kernel_rfl) _ _ rfl rfl _ (sliceAt_c p 1 q2 q3 0 g6 0 c6 (q2 * q3) (ctL p ls q4 q1 q2 q3) _ ho.rd' hL6 (ctL_ten HQt.out) (by omega) hc6) (fun e Wz67 h => ?_)
  obtain ⟨v9, rfl, ho8, bz68⟩ := h
  replace hB := below_after hB bz68
  replace hz5 := hz5.after bz68
  replace hz11 := hz11.after bz68
  replace hB5 := below_after hB5 bz68
  replace hz45 := hz45.after bz68
  replace ho := ho.below bz68
  replace hz63 := hz63.after bz68
  clear ho
  have ho := OwnP.of (ho8.congrR (fun j hj => ctR_eq hj))
  rw [HRW.out] at ho
  clear ho8
  clear bz68
  refine ⟨_, rfl, ?_⟩
  refine hK' _ _ ?_
  clear hK' K'
  go_frame
  refine ls_ex (some 6) (v9) rfl rfl (exec_assign _ rfl (v9) rfl) ?_
  go_frame
  refine ls_ex (some 7) (.int .i64 0) rfl rfl (exec_assign _ rfl (.int .i64 0) rfl) ?_
  go_frame
  refine wpList_nil ?_
  go_wp2_with fail
  obtain ⟨hi9, hh9, ho9⟩ := ho
  go_ret2
  rw [HN.out, HF.out]
  exact ⟨v9, by rw [HC.out]; rfl, ho9.mono (by omega) hh9, hB⟩
set_option maxHeartbeats 4000000 in
theorem implCt_y2 (p : Int) (a b d : Nat) (bB oB c0 N : Nat) (xs : List Int) (bN oN cN NS : Nat) (ls : List Int) (w : World) (hX : RdI w (some ⟨bB, oB, none⟩) xs) (hxl : xs.length = N) (hs : tenB p a b d xs = true) (hN : RdI w (some ⟨bN, oN, none⟩) ls) (hLl : ls.length = NS) (hc0 : N ≤ c0) (hT : listB p NS ls = true) (hD : d = NS) :
    Calls Try.prog 17 #[.agg #[.int .i64 p, .int .i64 a, .int .i64 b, .int .i64 d, .slice (some ⟨bB, oB, none⟩) N c0], .int .i64 2, .slice (some ⟨bN, oN, none⟩) NS cN] w (ResR w (cnN p a b d 2 ls xs) (cnF p a b d 2 ls xs) (cnCode p a b d 2 ls xs)) := by
  have hB := Below.refl w.heap.size w
  subst hD
  have h0 : ctOK p a b d 2 ls xs = true := by unfold ctOK; rw [hs]; simp [hT]; rfl
  obtain ⟨q1, q2, q3, q4, hq⟩ : ∃ q1 q2 q3 q4, trn p 2 (a, b, d, xs) = (q1, q2, q3, q4) := ⟨_, _, _, _, rfl⟩
  obtain ⟨RW, hRW⟩ : ∃ z9, ctR p ls q4 q1 q2 q3 = z9 := ⟨_, rfl⟩
  have hsq : slQ p a b d 2 xs = (q1, q2, q3, q4) := by rw [← hq]; rfl
  have HN : Hid (cnN p a b d 2 ls xs = q2) := Lib.hid (by unfold cnN; rw [h0, hsq]; rfl)
  have HF : Hid (cnF p a b d 2 ls xs = RW) := Lib.hid (by unfold cnF cnG; rw [hsq]; exact hRW)
  have HC : Hid (cnCode p a b d 2 ls xs = 0) := Lib.hid (by unfold cnCode; rw [hs, h0]; rfl)
  have HS3 : Hid (inB 2 3 = true) := Lib.hid rfl
  have HT3 := Lib.hid hT
  have HQ := Lib.hid hq
  have HRW := Lib.hid hRW
  have HLl := Lib.hid hLl
  have HMb := Lib.hid (listB_parts hT).2
  have HS1 : Hid (q1 = d) := Lib.hid (by have h9 := congrArg (·.1) hq; exact h9.symm)
  have Hs := Lib.hid hs
  have HXl := Lib.hid hxl
  have hpp := prime_le5 (ten_parts hs).1
  have hdm := (ten_parts hs).2
  have ha0 := hdm.1
  have hb0 := hdm.2.1
  have hd0 := hdm.2.2.1
  have hNb : N ≤ 729 := by rw [← hxl, hdm.2.2.2.1]; exact Nat.le_trans (Nat.mul_le_mul (Nat.mul_le_mul hdm.1.2 hdm.2.1.2) hdm.2.2.1.2) (by decide)
  clear hs hxl hdm hT h0 hq hsq hRW hLl
  go_enter Try.func17, Try.ntmps17
  go_upto_region 0 with (fail)
  refine wp_region_lit ?_
  refine ls_op rfl (fun K' hK' => ?_)
  have lz1 := hB.size
  refine wp_new (some 3) rfl (exec_box 29 _ rfl (#[.int .i64 p, .int .i64 a, .int .i64 b, .int .i64 d, .slice (some ⟨bB, oB, none⟩) N c0]) rfl) (fun Wz2 nnz3 => ?_)
  have bz4 := nnz3.below (Below.refl _ _) (Nat.le_refl _)
  replace hB := below_after hB bz4
  have hz5 : At Wz2 w.heap.size (.cells #[.int .i64 p, .int .i64 a, .int .i64 b, .int .i64 d, .slice (some ⟨bB, oB, none⟩) N c0] 29 (0, 0)) := nnz3.at_
  refine hK' _ _ ?_
  clear hK' K' nnz3 bz4
  go_frame
  refine ls_op rfl (fun K' hK' => ?_)
  have lz6 := hB.size
  have lz7 := hz5.lt
  refine wp_new (some 5) rfl (exec_box 22 _ rfl (#[.slice (some ⟨bN, oN, none⟩) d cN]) rfl) (fun Wz8 nnz9 => ?_)
  have bz10 := nnz9.below (Below.refl _ _) (Nat.le_refl _)
  replace hB := below_after hB bz10
  replace hz5 := hz5.after bz10
  have hz11 : At Wz8 Wz2.heap.size (.cells #[.slice (some ⟨bN, oN, none⟩) d cN] 22 (0, 0)) := nnz9.at_
  refine hK' _ _ ?_
  clear hK' K' nnz9 bz10
  go_frame
  refine ls_ex (some 6) (.slice none 0 0) rfl rfl (exec_assign _ rfl (.slice none 0 0) rfl) ?_
  go_frame
  refine ls_ex (some 7) (.int .i64 0) rfl rfl (exec_assign _ rfl (.int .i64 0) rfl) ?_
  go_frame
  refine wpList_nil ?_
  go_upto_region 1 with (fail)
  refine wp_region_lit ?_
  refine ls_ex (some 10) (.agg #[.int .i64 p, .int .i64 a, .int .i64 b, .int .i64 d, .slice (some ⟨bB, oB, none⟩) N c0]) rfl rfl (exec_load_all 29 _ rfl w.heap.size rfl _ _ _ hz5 Try.underlying29 rfl 5 (by kernel_rfl) rfl) ?_
  go_frame
  refine ls_op rfl (fun K' hK' => ?_)
  have lz14 := hB.size
  have lz15 := hz5.lt
  have lz16 := hz11.lt
  refine wp_call1 (some 11) rfl 30 _ _ rfl (fun args w => by kernel_rfl) _ rfl _ (implIsTensorN_c p a b d (some ⟨bB, oB, none⟩) N c0 xs _ HXl.out (hX.keep hB) (by omega)) (fun e Wz12 h => ?_)
  obtain ⟨rfl, bz13⟩ := h
  replace hB := below_after hB bz13
  replace hz5 := hz5.after bz13
  replace hz11 := hz11.after bz13
  rw [Hs.out]
  clear bz13
  refine ⟨_, rfl, ?_⟩
  refine hK' _ _ ?_
  clear hK' K'
  go_frame
  refine ls_ex (some 12) (.bool false) rfl rfl (exec_not _ _ rfl true rfl) ?_
  go_frame
  refine wpList_nil ?_
  go_upto_region 3 with (fail)
  refine wp_region_y (zs := []) (S := fun w' => Below w.heap.size w w' ∧ At w' w.heap.size (.cells #[.int .i64 p, .int .i64 a, .int .i64 b, .int .i64 d, .slice (some ⟨bB, oB, none⟩) N c0] 29 (0, 0)) ∧ At w' Wz2.heap.size (.cells #[.slice (some ⟨bN, oN, none⟩) d cN] 22 (0, 0))) (S2 := fun w' => True) (by kernel_rfl) ?_
  change wpAnyY _ _ _ _ _ _ _ _ _ _ (World.drew _)
  generalize hwdz17 : World.drew _ = wdz17
  replace hB : Below w.heap.size w wdz17 := by rw [← hwdz17]; exact hB.drew
  replace hz5 : At wdz17 w.heap.size (.cells #[.int .i64 p, .int .i64 a, .int .i64 b, .int .i64 d, .slice (some ⟨bB, oB, none⟩) N c0] 29 (0, 0)) := by rw [← hwdz17]; exact hz5
  replace hz11 : At wdz17 Wz2.heap.size (.cells #[.slice (some ⟨bN, oN, none⟩) d cN] 22 (0, 0)) := by rw [← hwdz17]; exact hz11
  clear hwdz17
  refine y_yield 0 (some 13) (.int .i64 2) rfl (by kernel_rfl) (by kernel_rfl) (by kernel_rfl) (fun _ _ _ h => h) rfl rfl ⟨hB, hz5, hz11⟩ (fun w' h' => exec_move _ rfl (.int .i64 2) rfl) ?_
  go_frame
  refine y_oper 1 (by kernel_rfl) rfl rfl (fun K' hK' => ?_)
  have lz20 := hB.size
  have lz21 := hz5.lt
  have lz22 := hz11.lt
  refine wp_call2 (some 14) rfl 31 _ _ _ rfl (fun args w => by kernel_rfl) _ _ rfl rfl _ (isIndex_c 2 3 _) (fun e Wz18 h => ?_)
  obtain ⟨rfl, rfl⟩ := h
  rw [HS3.out]
  refine ⟨_, rfl, ?_⟩
  refine hK' _ _ ⟨hB, hz5, hz11⟩ (fun _ => trivial) ?_
  clear hK' K'
  go_frame
  refine y_yield 2 (some 15) (.bool false) rfl (by kernel_rfl) (by kernel_rfl) (by kernel_rfl) (fun _ _ _ h => h) rfl rfl ⟨hB, hz5, hz11⟩ (fun w' h' => exec_not _ _ rfl true rfl) ?_
  go_frame
  refine y_yield 3 (some 16) (.bool false) rfl (by kernel_rfl) (by kernel_rfl) (by kernel_rfl) (fun _ _ _ h => h) rfl rfl ⟨hB, hz5, hz11⟩ (fun w' h' => exec_move _ rfl (.bool false) rfl) ?_
  go_frame
  refine y_yield 4 (some 17) (.pointer (some ⟨w.heap.size, 0, none⟩)) rfl (by kernel_rfl) (by kernel_rfl) (by kernel_rfl) (fun _ _ _ h => h) rfl rfl ⟨hB, hz5, hz11⟩ (fun w' h' => exec_fieldAddr 29 _ 0 rfl _ (by kernel_rfl)) ?_
  go_frame
  refine y_yield 5 (some 18) (.int .i64 p) rfl (by kernel_rfl) (by kernel_rfl) (by kernel_rfl) (fun _ _ _ h => h) rfl rfl ⟨hB, hz5, hz11⟩ (fun w' h' => exec_load_one 2 _ rfl w.heap.size 0 rfl (.int .i64 p) _ Try.underlying2 rfl (h'.2.1.at_ 0)) ?_
  go_frame
  refine y_yield 6 (some 19) (.agg #[.int .i64 p, .int .i64 a, .int .i64 b, .int .i64 d, .slice (some ⟨bB, oB, none⟩) N c0]) rfl (by kernel_rfl) (by kernel_rfl) (by kernel_rfl) (fun _ _ _ h => h) rfl rfl ⟨hB, hz5, hz11⟩ (fun w' h' => exec_load_all 29 _ rfl w.heap.size rfl _ _ _ h'.2.1 Try.underlying29 rfl 5 (by kernel_rfl) rfl) ?_
  go_frame
  refine y_yield 8 (some 21) (.int .i64 2) rfl (by kernel_rfl) (by kernel_rfl) (by kernel_rfl) (fun _ _ _ h => h) rfl rfl ⟨hB, hz5, hz11⟩ (fun w' h' => exec_move _ rfl (.int .i64 2) rfl) ?_
  go_frame
  refine y_yield 10 (some 23) (.slice (some ⟨bN, oN, none⟩) d cN) rfl (by kernel_rfl) (by kernel_rfl) (by kernel_rfl) (fun _ _ _ h => h) rfl rfl ⟨hB, hz5, hz11⟩ (fun w' h' => exec_load_one 22 _ rfl Wz2.heap.size 0 rfl (.slice (some ⟨bN, oN, none⟩) d cN) _ Try.underlying22 rfl (h'.2.2.at_ 0)) ?_
  go_frame
  refine y_oper 7 (by kernel_rfl) rfl rfl (fun K' hK' => ?_)
  have lz25 := hB.size
  have lz26 := hz5.lt
  have lz27 := hz11.lt
  refine wp_call1 (some 20) rfl 32 _ _ rfl (fun args w => by kernel_rfl) _ rfl _ (boxOf_c p a b d _ _) (fun e Wz23 h => ?_)
  obtain ⟨rfl, bz24⟩ := h
  replace hB := below_after hB bz24
  replace hz5 := hz5.after bz24
  replace hz11 := hz11.after bz24
  clear bz24
  refine ⟨_, rfl, ?_⟩
  refine hK' _ _ ⟨hB, hz5, hz11⟩ (fun _ => trivial) ?_
  clear hK' K'
  go_frame
  refine y_yield 9 (some 22) (.int .i64 d) rfl (by kernel_rfl) (by kernel_rfl) (by kernel_rfl) (fun _ _ _ h => h) rfl rfl ⟨hB, hz5, hz11⟩ (fun w' h' => exec_index_arr3 52 2 _ _ rfl 3 2 _ _ rfl rfl Try.underlying52 _ Try.underlying2 rfl (by kernel_rfl) (by omega) rfl) ?_
  go_frame
  refine y_oper 11 (by kernel_rfl) rfl rfl (fun K' hK' => ?_)
  have lz30 := hB.size
  have lz31 := hz5.lt
  have lz32 := hz11.lt
  refine wp_call3 (some 24) rfl 38 _ _ _ _ rfl (fun args w => by kernel_rfl) _ _ _ rfl rfl rfl _ (isListD_c (some ⟨bN, oN, none⟩) cN p d ls _ (hN.keep hB) HLl.out (by omega)) (fun e Wz28 h => ?_)
  obtain ⟨rfl, bz29⟩ := h
  replace hB := below_after hB bz29
  replace hz5 := hz5.after bz29
  replace hz11 := hz11.after bz29
  rw [HT3.out]
  clear bz29
  refine ⟨_, rfl, ?_⟩
  refine hK' _ _ ⟨hB, hz5, hz11⟩ (fun _ => trivial) ?_
  clear hK' K'
  go_frame
  refine y_yield 12 (some 25) (.bool false) rfl (by kernel_rfl) (by kernel_rfl) (by kernel_rfl) (fun _ _ _ h => h) rfl rfl ⟨hB, hz5, hz11⟩ (fun w' h' => exec_not _ _ rfl true rfl) ?_
  go_frame
  refine y_yield 13 (some 26) (.bool false) rfl (by kernel_rfl) (by kernel_rfl) (by kernel_rfl) (fun _ _ _ h => h) rfl rfl ⟨hB, hz5, hz11⟩ (fun w' h' => exec_pick _ _ _ rfl false rfl (.bool false) rfl) ?_
  go_frame
  refine y_done (by kernel_rfl) ?_ _
  go_upto_region 5 with (fail)
  refine wp_region_lit ?_
  refine ls_ex (some 27) (.agg #[.int .i64 p, .int .i64 a, .int .i64 b, .int .i64 d, .slice (some ⟨bB, oB, none⟩) N c0]) rfl rfl (exec_load_all 29 _ rfl w.heap.size rfl _ _ _ hz5 Try.underlying29 rfl 5 (by kernel_rfl) rfl) ?_
  go_frame
  refine ls_ex (some 28) (.int .i64 2) rfl rfl (exec_move _ rfl (.int .i64 2) rfl) ?_
  go_frame
  refine ls_op rfl (fun K' hK' => ?_)
  have lz35 := hB.size
  have lz36 := hz5.lt
  have lz37 := hz11.lt
  refine wp_call2 (some 29) rfl 34 _ _ _ rfl (fun args w => by kernel_rfl) _ _ rfl rfl _ (turnedTo_q p a b d 2 bB oB c0 N xs 2 _ q1 q2 q3 q4 HQ.out rfl (hX.keep hB) HXl.out Hs.out (by omega) hc0) (fun e Wz33 h => ?_)
  obtain ⟨b9, o9, c9, rfl, hc9, hq5, hq6, hq4, bz34⟩ := h
  replace hB := below_after hB bz34
  replace hz5 := hz5.after bz34
  replace hz11 := hz11.after bz34
  have h9q := (ten_parts hq6).2
  have ha9 : 1 ≤ q1 ∧ q1 ≤ 9 := h9q.1
  have hb9 : 1 ≤ q2 ∧ q2 ≤ 9 := h9q.2.1
  have hd9 : 1 ≤ q3 ∧ q3 ≤ 9 := h9q.2.2.1
  have HN9 : Hid (q1 * q2 * q3 = N) := Lib.hid (by rw [← hq5]; exact h9q.2.2.2.1.symm)
  have HNb := Lib.hid h9q.2.2.2.2
  have HQl := Lib.hid hq5
  have HQt := Lib.hid hq6
  clear h9q hq5 hq6
  have hB5 := Below.refl Wz33.heap.size Wz33
  have lo5 := hB.size
  clear bz34
  refine ⟨_, rfl, ?_⟩
  refine hK' _ _ ?_
  clear hK' K'
  go_frame
  refine ls_op rfl (fun K' hK' => ?_)
  have lz38 := hB.size
  have lz39 := hz5.lt
  have lz40 := hz11.lt
  have lz41 := hB5.size
  refine wp_new (some 8) rfl (alCt_impl_Tensor rfl) (fun Wz42 nnz43 => ?_)
  have bz44 := nnz43.below (Below.refl _ _) (Nat.le_refl _)
  replace hB := below_after hB bz44
  replace hz5 := hz5.after bz44
  replace hz11 := hz11.after bz44
  replace hB5 := below_after hB5 bz44
  have hz45 : At Wz42 Wz33.heap.size (.cells #[.int .i64 0, .int .i64 0, .int .i64 0, .int .i64 0, .slice none 0 0] 29 (0, 0)) := nnz43.at_
  refine hK' _ _ ?_
  clear hK' K' nnz43 bz44
  go_frame
  refine ls_op rfl (fun K' hK' => ?_)
  refine wp_store_all 29 _ _ rfl rfl Wz33.heap.size rfl #[.int .i64 p, .int .i64 q1, .int .i64 q2, .int .i64 q3, .slice (some ⟨b9, o9, none⟩) N c9] rfl _ _ hz45 5 (by kernel_rfl) rfl rfl (one5 _ _ _ _ _ _ _) (fun Wz46 pz47 => ?_)
  replace hB := pz47.below hB (by omega)
  replace hz5 := pz47.other hz5 (by omega)
  replace hz11 := pz47.other hz11 (by omega)
  replace hB5 := pz47.below hB5 (by omega)
  replace hz45 : At Wz46 Wz33.heap.size (.cells #[.int .i64 p, .int .i64 q1, .int .i64 q2, .int .i64 q3, .slice (some ⟨b9, o9, none⟩) N c9] 29 (0, 0)) := pz47.at_
  refine hK' _ _ ?_
  clear hK' K' pz47
  refine wpList_nil ?_
  go_upto_region 6 with (fail)
  refine wp_region_lit ?_
  refine ls_ex (some 30) (.pointer (some ⟨w.heap.size, 0, none⟩)) rfl rfl (exec_fieldAddr 29 _ 0 rfl _ (by kernel_rfl)) ?_
  go_frame
  refine ls_ex (some 31) (.int .i64 p) rfl rfl (exec_load_one 2 _ rfl w.heap.size 0 rfl (.int .i64 p) _ Try.underlying2 rfl (hz5.at_ 0)) ?_
  go_frame
  refine ls_ex (some 32) (.pointer (some ⟨Wz33.heap.size, 2, none⟩)) rfl rfl (exec_fieldAddr 29 _ 2 rfl _ (by kernel_rfl)) ?_
  go_frame
  refine ls_ex (some 33) (.int .i64 q2) rfl rfl (exec_load_one 2 _ rfl Wz33.heap.size 2 rfl (.int .i64 q2) _ Try.underlying2 rfl (hz45.at_ 2)) ?_
  go_frame
  refine ls_ex (some 34) (.pointer (some ⟨Wz33.heap.size, 3, none⟩)) rfl rfl (exec_fieldAddr 29 _ 3 rfl _ (by kernel_rfl)) ?_
  go_frame
  refine ls_ex (some 35) (.int .i64 q3) rfl rfl (exec_load_one 2 _ rfl Wz33.heap.size 3 rfl (.int .i64 q3) _ Try.underlying2 rfl (hz45.at_ 3)) ?_
  go_frame
  refine ls_ex (some 36) (.agg #[.int .i64 1, .int .i64 q2, .int .i64 q3]) rfl rfl (exec_build_boxT _ _ _ rfl 1 q2 q3 rfl rfl rfl) ?_
  go_frame
  refine ls_ex (some 37) (.func (.func 40) #[] #[.pointer (some ⟨Wz2.heap.size, 0, none⟩), .pointer (some ⟨Wz33.heap.size, 0, none⟩)]) rfl rfl (exec_mkfn2 _ _ _ rfl _ _ rfl rfl) ?_
  go_frame
  refine ls_op rfl (fun K' hK' => ?_)
  have lz50 := hB.size
  have lz51 := hz5.lt
  have lz52 := hz11.lt
  have lz53 := hB5.size
  have lz54 := hz45.lt
  have lo9 := hB.size
  refine wp_call3 (some 38) rfl 39 _ _ _ _ rfl (fun args w => by kernel_rfl) _ _ _ rfl rfl rfl _ (tensorWithCt_c p 1 q2 q3 Wz2.heap.size Wz33.heap.size (fun _ j k => ctS ls q4 q2 q3 j k q1) _ (by omega) rfl (side_of hb9) (side_of hd9) (fun i j k w1 hi hj hk hb => ⟨(ctS_b HNb.out HMb.out (by omega) (by omega) q1).1, ct1_c p q1 q2 q3 b9 o9 c9 N q4 bN oN cN d ls i j k Wz2.heap.size Wz33.heap.size w1 ((hq4.keep hB5).keep hb) HQl.out HQt.out ((hN.keep hB).keep hb) HLl.out HMb.out HS1.out (hz11.after hb) (hz45.after hb) hj hk⟩)) (fun e Wz48 h => ?_)
  obtain ⟨v5, rfl, ho, bz49⟩ := h
  replace hB := below_after hB bz49
  replace hz5 := hz5.after bz49
  replace hz11 := hz11.after bz49
  replace hB5 := below_after hB5 bz49
  replace hz45 := hz45.after bz49
  rw [show genL q2 q3 p (fun _ j k => ctS ls q4 q2 q3 j k q1) (1 * q2 * q3) = ctL p ls q4 q1 q2 q3 from rfl] at ho
  have hL6 : (ctL p ls q4 q1 q2 q3).length = q2 * q3 := by rw [ctL, genL_len, Nat.one_mul]
  have hp6 : 0 < q2 * q3 := Nat.mul_pos (by omega) (by omega)
  obtain ⟨g6, c6, rfl, hc6, hg6⟩ := ho.open0 hL6 hp6
  clear bz49
  refine ⟨_, rfl, ?_⟩
  refine hK' _ _ ?_
  clear hK' K'
  go_frame
  refine ls_op rfl (fun K' hK' => ?_)
  have lz55 := hB.size
  have lz56 := hz5.lt
  have lz57 := hz11.lt
  have lz58 := hB5.size
  have lz59 := hz45.lt
  have naz64 := ho.away_new
  refine wp_new (some 9) rfl (alCt_impl_Tensor rfl) (fun Wz60 nnz61 => ?_)
  have bz62 := nnz61.below (Below.refl _ _) (Nat.le_refl _)
  replace hB := below_after hB bz62
  replace hz5 := hz5.after bz62
  replace hz11 := hz11.after bz62
  replace hB5 := below_after hB5 bz62
  replace hz45 := hz45.after bz62
  replace ho := ho.below bz62
  have hz63 : At Wz60 Wz48.heap.size (.cells #[.int .i64 0, .int .i64 0, .int .i64 0, .int .i64 0, .slice none 0 0] 29 (0, 0)) := nnz61.at_
  refine hK' _ _ ?_
  clear hK' K' nnz61 bz62
  go_frame
  refine ls_op rfl (fun K' hK' => ?_)
  refine wp_store_all 29 _ _ rfl rfl Wz48.heap.size rfl #[.int .i64 p, .int .i64 (1 : Nat), .int .i64 q2, .int .i64 q3, .slice (some ⟨g6, 0, none⟩) (q2 * q3) c6] rfl _ _ hz63 5 (by kernel_rfl) rfl rfl (one5 _ _ _ _ _ _ _) (fun Wz65 pz66 => ?_)
  replace hB := pz66.below hB (by omega)
  replace hz5 := pz66.other hz5 (by omega)
  replace hz11 := pz66.other hz11 (by omega)
  replace hB5 := pz66.below hB5 (by omega)
  replace hz45 := pz66.other hz45 (by omega)
  replace ho := ho.put pz66 naz64
  replace hz63 : At Wz65 Wz48.heap.size (.cells #[.int .i64 p, .int .i64 (1 : Nat), .int .i64 q2, .int .i64 q3, .slice (some ⟨g6, 0, none⟩) (q2 * q3) c6] 29 (0, 0)) := pz66.at_
  refine hK' _ _ ?_
  clear hK' K' pz66
  refine wpList_nil ?_
  go_upto_region 7 with (fail)
  refine wp_region_lit ?_
  refine ls_ex (some 39) (.agg #[.int .i64 p, .int .i64 (1 : Nat), .int .i64 q2, .int .i64 q3, .slice (some ⟨g6, 0, none⟩) (q2 * q3) c6]) rfl rfl (exec_load_all 29 _ rfl Wz48.heap.size rfl _ _ _ hz63 Try.underlying29 rfl 5 (by kernel_rfl) rfl) ?_
  go_frame
  refine ls_op rfl (fun K' hK' => ?_)
  have lz69 := hB.size
  have lz70 := hz5.lt
  have lz71 := hz11.lt
  have lz72 := hB5.size
  have lz73 := hz45.lt
  have lz74 := hz63.lt
  have lo8 := hB.size
  refine wp_call2 (some 40) rfl 33 _ _ _ rfl (fun args w => by kernel_rfl) _ _ rfl rfl _ (sliceAt_c p 1 q2 q3 0 g6 0 c6 (q2 * q3) (ctL p ls q4 q1 q2 q3) _ ho.rd' hL6 (ctL_ten HQt.out) (by omega) hc6) (fun e Wz67 h => ?_)
  obtain ⟨v9, rfl, ho8, bz68⟩ := h
  replace hB := below_after hB bz68
  replace hz5 := hz5.after bz68
  replace hz11 := hz11.after bz68
  replace hB5 := below_after hB5 bz68
  replace hz45 := hz45.after bz68
  replace ho := ho.below bz68
  replace hz63 := hz63.after bz68
  clear ho
  have ho := OwnP.of (ho8.congrR (fun j hj => ctR_eq hj))
  rw [HRW.out] at ho
  clear ho8
  clear bz68
  refine ⟨_, rfl, ?_⟩
  refine hK' _ _ ?_
  clear hK' K'
  go_frame
  refine ls_ex (some 6) (v9) rfl rfl (exec_assign _ rfl (v9) rfl) ?_
  go_frame
  refine ls_ex (some 7) (.int .i64 0) rfl rfl (exec_assign _ rfl (.int .i64 0) rfl) ?_
  go_frame
  refine wpList_nil ?_
  go_wp2_with fail
  obtain ⟨hi9, hh9, ho9⟩ := ho
  go_ret2
  rw [HN.out, HF.out]
  exact ⟨v9, by rw [HC.out]; rfl, ho9.mono (by omega) hh9, hB⟩
end Go.Proofs.Ytolgfpcadfjliaa
