/-
  impl.joined. (Made by mkjn5.py.)
-/
import Derived.Test.YtelicajipilhjaaJn4
namespace Go.Proofs.Ytelicajipilhjaa
open Go.RowKit
set_option maxRecDepth 100000
theorem exec_alloc_sizes {o : Oper} {a : Act} {w : World} (ho : o.op = .alloc 53) : (execOp a.eval o).run Try.prog w = .ok (.value (.pointer (some ⟨w.heap.size, 0, none⟩))) (w.alloc (.cells #[.int .i64 0, .int .i64 0, .int .i64 0] 53 (0, 0))) := by
  unfold execOp
  rw [ho]
  kernel_rfl
theorem infoSl2 : (Try.prog.info? 26).map (fun i => (i.zero, i.size, i.bytes)) = some (some (.slice none 0 0), 1, 24) := by kernel_rfl
theorem Own.rdc {w : World} {lo : Nat} {v : Value} {qs : List (List Nat)} (h : Own w lo v qs) (hq : ∀ q ∈ qs, Bytes 27 q) : ∃ A c, v = .slice A qs.length c ∧ Rd w A qs ∧ (A = none → c = 0) := by
  rcases h.2 with ⟨rfl, h0⟩ | ⟨g, cap, cur, rfl, _⟩
  · have : qs = [] := List.length_eq_zero_iff.1 h0
    subst this
    exact ⟨none, 0, rfl, Rd.none_ _ _, fun _ => rfl⟩
  · obtain ⟨A, c, e, hr⟩ := h.rd hq
    refine ⟨A, c, e, hr, fun hA => ?_⟩
    subst hA
    simp at e
theorem concat2_c (b : Nat) (A1 A2 : Option Addr) (c1 c2 : Nat) (q1 q2 : List (List Nat)) (w : World)
    (hb : At w b (.cells #[.slice A1 q1.length c1, .slice A2 q2.length c2] 26 (0, 0))) (h1 : Rd w A1 q1) (hc1 : A1 = none → c1 = 0) (h2 : Rd w A2 q2) (hc2 : A2 = none → c2 = 0) (ht : q1.length + q2.length ≤ 1000000) :
    Calls Try.prog 63 #[.slice (some ⟨b, 0, none⟩) 2 2] w
      fun e w' => ∃ v, e = .returned v ∧ Own w' w.heap.size v (q1 ++ q2) ∧ Below w.heap.size w w' := by
  have h := concat_c (some ⟨b, 0, none⟩) 2 [(A1, c1, q1), (A2, c2, q2)] w (.inr ⟨b, 0, rfl, fun i P hi => by
      match i, hi with
      | 0, hi => simp at hi; subst hi; exact hb.at_ 0
      | 1, hi => simp at hi; subst hi; exact hb.at_ 1
      | i + 2, hi => simp at hi⟩) (fun P hP => by
      simp only [List.mem_cons, List.not_mem_nil, or_false] at hP
      rcases hP with rfl | rfl
      · exact ⟨h1, hc1⟩
      · exact ⟨h2, hc2⟩) (by simp) (by simp [sumP, Part.len]; omega)
  have e : catP [(A1, c1, q1), (A2, c2, q2)] [(A1, c1, q1), (A2, c2, q2)].length = q1 ++ q2 := by simp [catP]
  rw [e] at h
  exact h
theorem mvQ_filter {p : Int} {n m k n' m' k' dn dm dk : Nat} {qs : List (List Nat)} (hq : ∀ q ∈ qs, Bytes 27 q) (hs : schemeB p n m k qs = true) (h1 : n + dn ≤ n') (h2 : m + dm ≤ m') (h3 : k + dk ≤ k') (n3 : n' ≤ 3) (m3 : m' ≤ 3) (k3 : k' ≤ 3) :
    (qs.map (mvQ n m k n' m' k' dn dm dk)).filter nzB = qs.map (mvQ n m k n' m' k' dn dm dk) := by
  rw [List.filter_eq_self]
  intro r hr
  obtain ⟨q, hm, rfl⟩ := List.mem_map.1 hr
  have hp : prodB p n m k q = true := by simp only [schemeB, Bool.and_eq_true, List.all_eq_true] at hs; exact hs.2 q hm
  exact mvQ_nz (hq q hm) hp h1 h2 h3 n3 m3 k3
set_option maxHeartbeats 400000 in
theorem joined_c (p kd : Int) (n m k n' m' k' N M K dn dm dk : Nat) (xA : Option Addr) (xc : Nat) (xq : List (List Nat)) (yA : Option Addr) (yc : Nat) (yq : List (List Nat)) (w : World) (hrx : Rd w xA xq) (hry : Rd w yA yq)
    (hsx : schemeB p n m k xq = true) (hsy : schemeB p n' m' k' yq = true) (hn : 1 ≤ n ∧ n ≤ N) (hm : 1 ≤ m ∧ m ≤ M) (hk : 1 ≤ k ∧ k ≤ K) (hn' : 1 ≤ n' ∧ n' + dn ≤ N) (hm' : 1 ≤ m' ∧ m' + dm ≤ M) (hk' : 1 ≤ k' ∧ k' + dk ≤ K) (hN : N ≤ 3) (hM : M ≤ 3) (hK : K ≤ 3)
    (hj : ∀ w : World, Calls Try.prog 44 #[.agg #[.int .i64 n, .int .i64 m, .int .i64 k], .agg #[.int .i64 n', .int .i64 m', .int .i64 k'], .int .i64 kd] w fun e w' => e = .returned (.tuple #[.agg #[.int .i64 N, .int .i64 M, .int .i64 K], .agg #[.int .i64 dn, .int .i64 dm, .int .i64 dk]]) ∧ Below w.heap.size w w') :
    Calls Try.prog 45 #[.agg #[.int .i64 p, .int .i64 n, .int .i64 m, .int .i64 k, .slice xA xq.length xc], .agg #[.int .i64 p, .int .i64 n', .int .i64 m', .int .i64 k', .slice yA yq.length yc], .int .i64 kd] w
      fun e w' => ∃ v, e = .returned (.agg #[.int .i64 p, .int .i64 N, .int .i64 M, .int .i64 K, v]) ∧ Own w' w.heap.size v (xq.map (mvQ n m k N M K 0 0 0) ++ yq.map (mvQ n' m' k' N M K dn dm dk)) ∧ Below w.heap.size w w' := by
  have HJ := Lib.hid hj
  have HMx := Lib.hid (fun w hr => movedProducts_c p n m k N M K 0 0 0 xA xc xq w hr hsx (by omega) (by omega) (by omega) (by omega) (by omega) (by omega) (by omega) (by omega) (by omega))
  have HMy := Lib.hid (fun w hr => movedProducts_c p n' m' k' N M K dn dm dk yA yc yq w hr hsy (by omega) (by omega) (by omega) (by omega) (by omega) (by omega) (by omega) (by omega) (by omega))
  rw [mvQ_filter hrx.good hsx (by omega) (by omega) (by omega) hN hM hK] at HMx
  rw [mvQ_filter hry.good hsy (by omega) (by omega) (by omega) hN hM hK] at HMy
  have HR1 : Hid (∀ r ∈ xq.map (mvQ n m k N M K 0 0 0), Bytes 27 r) := Lib.hid (fun r hr => by obtain ⟨q, hm, rfl⟩ := List.mem_map.1 hr; exact mvQ_bytes (n := n) (m := m) (k := k) (n' := N) (m' := M) (k' := K) (dn := 0) (dm := 0) (dk := 0) (hrx.good q hm))
  have HR2 : Hid (∀ r ∈ yq.map (mvQ n' m' k' N M K dn dm dk), Bytes 27 r) := Lib.hid (fun r hr => by obtain ⟨q, hm, rfl⟩ := List.mem_map.1 hr; exact mvQ_bytes (n := n') (m := m') (k := k') (n' := N) (m' := M) (k' := K) (dn := dn) (dm := dm) (dk := dk) (hry.good q hm))
  have lx := schemeB_len hsx
  have ly := schemeB_len hsy
  have l1 : (xq.map (mvQ n m k N M K 0 0 0)).length ≤ 30 := by simpa using lx
  have l2 : (yq.map (mvQ n' m' k' N M K dn dm dk)).length ≤ 30 := by simpa using ly
  generalize xq.map (mvQ n m k N M K 0 0 0) = R1 at *
  generalize yq.map (mvQ n' m' k' N M K dn dm dk) = R2 at *
  have hl3 : (R1 ++ R2).length ≤ 60 := by simp; omega
  have HR3 : Hid (∀ r ∈ R1 ++ R2, Bytes 27 r) := Lib.hid (fun r hr => (List.mem_append.1 hr).elim (HR1.out r) (HR2.out r))
  clear hj
  generalize hR : R1 ++ R2 = R3 at *
  have HR := Lib.hid hR
  clear hR
  go_enter Try.func45, Try.ntmps45
  go_wp2_with fail
  have hBC : BC (fun W => Below w.heap.size w W ∧ At W w.heap.size (.cells #[.int .i64 p, .int .i64 n, .int .i64 m, .int .i64 k, .slice xA xq.length xc] 28 (0, 0)) ∧ At W (w.heap.size + 1) (.cells #[.int .i64 p, .int .i64 n', .int .i64 m', .int .i64 k', .slice yA yq.length yc] 28 (0, 0)) ∧ At W (w.heap.size + 1 + 1) (.cells #[.int .i64 0, .int .i64 0, .int .i64 0, .int .i64 0, .slice none 0 0] 28 (0, 0))) (w.heap.size + 1 + 1 + 1) := ⟨fun h hb => ⟨below_after h.1 hb, h.2.1.after hb, h.2.2.1.after hb, h.2.2.2.after hb⟩, fun h hg hP => ⟨hP.below h.1 (by omega), hP.other h.2.1 (by omega), hP.other h.2.2.1 (by omega), hP.other h.2.2.2 (by omega)⟩, fun h => h.2.2.2.lt⟩
  refine wp_region_inv (by kernel_rfl) (by kernel_rfl) (by kernel_rfl) (RI (fun W => Below w.heap.size w W ∧ At W w.heap.size (.cells #[.int .i64 p, .int .i64 n, .int .i64 m, .int .i64 k, .slice xA xq.length xc] 28 (0, 0)) ∧ At W (w.heap.size + 1) (.cells #[.int .i64 p, .int .i64 n', .int .i64 m', .int .i64 k', .slice yA yq.length yc] 28 (0, 0)) ∧ At W (w.heap.size + 1 + 1) (.cells #[.int .i64 0, .int .i64 0, .int .i64 0, .int .i64 0, .slice none 0 0] 28 (0, 0))) (w.heap.size + 1 + 1 + 1) (valOf [(0, .agg #[.int .i64 p, .int .i64 n, .int .i64 m, .int .i64 k, .slice xA xq.length xc]), (1, .agg #[.int .i64 n, .int .i64 m, .int .i64 k]), (2, .agg #[.int .i64 p, .int .i64 n', .int .i64 m', .int .i64 k', .slice yA yq.length yc]), (3, .agg #[.int .i64 n', .int .i64 m', .int .i64 k']), (4, .int .i64 kd), (5, .tuple #[.agg #[.int .i64 N, .int .i64 M, .int .i64 K], .agg #[.int .i64 dn, .int .i64 dm, .int .i64 dk]]), (6, .tuple #[.agg #[.int .i64 N, .int .i64 M, .int .i64 K], .agg #[.int .i64 dn, .int .i64 dm, .int .i64 dk]]), (7, .agg #[.int .i64 N, .int .i64 M, .int .i64 K]), (8, .agg #[.int .i64 dn, .int .i64 dm, .int .i64 dk])]) (alOf [(9, 11, .cells #[.int .i64 0, .int .i64 0, .int .i64 0] 53 (0, 0), .cells #[.int .i64 N, .int .i64 M, .int .i64 K] 53 (0, 0)), (10, 12, .cells #[.int .i64 0, .int .i64 0, .int .i64 0] 53 (0, 0), .cells #[.int .i64 dn, .int .i64 dm, .int .i64 dk] 53 (0, 0))])) (RI.start ?_) 13 rfl ?_ ?_
  case refine_1 => exact ⟨(below3 _ _ _ _).drew, al3_0 _ _ _ _, al3_1 _ _ _ _, al3_2 _ _ _ _⟩
  case refine_2 =>
    refine StepsOK.succ (StepsOK.succ (StepsOK.succ (StepsOK.succ (StepsOK.succ (StepsOK.succ (StepsOK.succ (StepsOK.succ (StepsOK.succ (StepsOK.succ (StepsOK.succ (StepsOK.succ (StepsOK.succ (StepsOK.zero) ?_) ?_) ?_) ?_) ?_) ?_) ?_) ?_) ?_) ?_) ?_) ?_) ?_
    · exact step_pure hBC 0 _ rfl rfl [] (by kernel_rfl) (some 11) rfl (.agg #[.int .i64 p, .int .i64 n, .int .i64 m, .int .i64 k, .slice xA xq.length xc]) rfl rfl (notStore_of rfl) (fun L vals W hd hI => exec_load_all 28 _ rfl w.heap.size (slot_old (by kernel_rfl) rfl) _ _ _ hI.base.2.1 Try.underlying28 rfl 5 (by kernel_rfl) rfl)
    · exact step_call hBC 1 _ rfl rfl [0] (by kernel_rfl) (.agg #[.int .i64 n, .int .i64 m, .int .i64 k]) rfl rfl (notStore_of rfl) (fun L vals W K hd hI hK => wp_call1 (some 12) rfl 35 _ _ rfl (fun args w => by kernel_rfl) _ (hI.slot (by kernel_rfl) (j := 0) (t := 11) (by kernel_rfl) (hd 0 (by simp)) (of_decide_eq_true rfl) (of_decide_eq_true (by kernel_rfl)) rfl) _ (sizesOf_c p n m k _ _) (fun e wn h => by obtain ⟨rfl, b⟩ := h; exact ⟨_, rfl, hK _ b⟩))
    · exact step_pure hBC 2 _ rfl rfl [] (by kernel_rfl) (some 13) rfl (.agg #[.int .i64 p, .int .i64 n', .int .i64 m', .int .i64 k', .slice yA yq.length yc]) rfl rfl (notStore_of rfl) (fun L vals W hd hI => exec_load_all 28 _ rfl (w.heap.size + 1) (slot_old (by kernel_rfl) rfl) _ _ _ hI.base.2.2.1 Try.underlying28 rfl 5 (by kernel_rfl) rfl)
    · exact step_call hBC 3 _ rfl rfl [2, 1] (by kernel_rfl) (.agg #[.int .i64 n', .int .i64 m', .int .i64 k']) rfl rfl (notStore_of rfl) (fun L vals W K hd hI hK => wp_call1 (some 14) rfl 35 _ _ rfl (fun args w => by kernel_rfl) _ (hI.slot (by kernel_rfl) (j := 2) (t := 13) (by kernel_rfl) (hd 2 (by simp)) (of_decide_eq_true rfl) (of_decide_eq_true (by kernel_rfl)) rfl) _ (sizesOf_c p n' m' k' _ _) (fun e wn h => by obtain ⟨rfl, b⟩ := h; exact ⟨_, rfl, hK _ b⟩))
    · exact step_pure hBC 4 _ rfl rfl [] (by kernel_rfl) (some 15) rfl (.int .i64 kd) rfl rfl (notStore_of rfl) (fun L vals W hd hI => exec_move _ rfl (.int .i64 kd) (slot_old (by kernel_rfl) rfl))
    · exact step_call hBC 5 _ rfl rfl [1, 3, 4, 3] (by kernel_rfl) (.tuple #[.agg #[.int .i64 N, .int .i64 M, .int .i64 K], .agg #[.int .i64 dn, .int .i64 dm, .int .i64 dk]]) rfl rfl (notStore_of rfl) (fun L vals W K hd hI hK => wp_call3 (some 16) rfl 44 _ _ _ _ rfl (fun args w => by kernel_rfl) _ _ _ (hI.slot (by kernel_rfl) (j := 1) (t := 12) (by kernel_rfl) (hd 1 (by simp)) (of_decide_eq_true rfl) (of_decide_eq_true (by kernel_rfl)) rfl) (hI.slot (by kernel_rfl) (j := 3) (t := 14) (by kernel_rfl) (hd 3 (by simp)) (of_decide_eq_true rfl) (of_decide_eq_true (by kernel_rfl)) rfl) (hI.slot (by kernel_rfl) (j := 4) (t := 15) (by kernel_rfl) (hd 4 (by simp)) (of_decide_eq_true rfl) (of_decide_eq_true (by kernel_rfl)) rfl) _ (HJ.out _) (fun e wn h => by obtain ⟨rfl, b⟩ := h; exact ⟨_, rfl, hK _ b⟩))
    · exact step_pure hBC 6 _ rfl rfl [5] (by kernel_rfl) (some 10) rfl (.tuple #[.agg #[.int .i64 N, .int .i64 M, .int .i64 K], .agg #[.int .i64 dn, .int .i64 dm, .int .i64 dk]]) rfl rfl (notStore_of rfl) (fun L vals W hd hI => exec_move _ rfl (.tuple #[.agg #[.int .i64 N, .int .i64 M, .int .i64 K], .agg #[.int .i64 dn, .int .i64 dm, .int .i64 dk]]) (hI.slot (by kernel_rfl) (j := 5) (t := 16) (by kernel_rfl) (hd 5 (by simp)) (of_decide_eq_true rfl) (of_decide_eq_true (by kernel_rfl)) rfl))
    · exact step_pure hBC 7 _ rfl rfl [6] (by kernel_rfl) (some 17) rfl (.agg #[.int .i64 N, .int .i64 M, .int .i64 K]) rfl rfl (notStore_of rfl) (fun L vals W hd hI => exec_extract _ 0 rfl #[.agg #[.int .i64 N, .int .i64 M, .int .i64 K], .agg #[.int .i64 dn, .int .i64 dm, .int .i64 dk]] (hI.slot (by kernel_rfl) (j := 6) (t := 10) (by kernel_rfl) (hd 6 (by simp)) (of_decide_eq_true rfl) (of_decide_eq_true (by kernel_rfl)) rfl) _ rfl)
    · exact step_pure hBC 8 _ rfl rfl [6] (by kernel_rfl) (some 18) rfl (.agg #[.int .i64 dn, .int .i64 dm, .int .i64 dk]) rfl rfl (notStore_of rfl) (fun L vals W hd hI => exec_extract _ 1 rfl #[.agg #[.int .i64 N, .int .i64 M, .int .i64 K], .agg #[.int .i64 dn, .int .i64 dm, .int .i64 dk]] (hI.slot (by kernel_rfl) (j := 6) (t := 10) (by kernel_rfl) (hd 6 (by simp)) (of_decide_eq_true rfl) (of_decide_eq_true (by kernel_rfl)) rfl) _ rfl)
    · exact step_alloc hBC 9 _ rfl rfl [] (by kernel_rfl) 11 (.cells #[.int .i64 0, .int .i64 0, .int .i64 0] 53 (0, 0)) (.cells #[.int .i64 N, .int .i64 M, .int .i64 K] 53 (0, 0)) rfl rfl (by decide) (by kernel_rfl) (notStore_of rfl) (fun a w => exec_alloc_sizes rfl)
    · exact step_alloc hBC 10 _ rfl rfl [] (by kernel_rfl) 12 (.cells #[.int .i64 0, .int .i64 0, .int .i64 0] 53 (0, 0)) (.cells #[.int .i64 dn, .int .i64 dm, .int .i64 dk] 53 (0, 0)) rfl rfl (by decide) (by kernel_rfl) (notStore_of rfl) (fun a w => exec_alloc_sizes rfl)
    · exact step_store hBC 11 _ rfl rfl [9, 7, 5, 0, 1, 2, 3, 4, 5, 6, 7, 9, 10] (by kernel_rfl) rfl 9 (by simp) (.cells #[.int .i64 0, .int .i64 0, .int .i64 0] 53 (0, 0)) (.cells #[.int .i64 N, .int .i64 M, .int .i64 K] 53 (0, 0)) rfl rfl rfl (uniq_of rfl) (fun L vals W b K hd hI hb hAt hK => wp_store_all 53 _ _ rfl rfl b (slot_al (by kernel_rfl) (j := 9) (t := 7) (by kernel_rfl) (hd 9 (by simp)) (of_decide_eq_true rfl) (of_decide_eq_true (by kernel_rfl)) hb) _ (hI.slot (by kernel_rfl) (j := 7) (t := 17) (by kernel_rfl) (hd 7 (by simp)) (of_decide_eq_true rfl) (of_decide_eq_true (by kernel_rfl)) rfl) _ _ hAt 3 (by kernel_rfl) rfl rfl (one3 _ _ _) hK)
    · exact step_store hBC 12 _ rfl rfl [10, 8, 11, 0, 1, 2, 3, 4, 5, 6, 7, 8, 9, 10, 11] (by kernel_rfl) rfl 10 (by simp) (.cells #[.int .i64 0, .int .i64 0, .int .i64 0] 53 (0, 0)) (.cells #[.int .i64 dn, .int .i64 dm, .int .i64 dk] 53 (0, 0)) rfl rfl rfl (uniq_of rfl) (fun L vals W b K hd hI hb hAt hK => wp_store_all 53 _ _ rfl rfl b (slot_al (by kernel_rfl) (j := 10) (t := 8) (by kernel_rfl) (hd 10 (by simp)) (of_decide_eq_true rfl) (of_decide_eq_true (by kernel_rfl)) hb) _ (hI.slot (by kernel_rfl) (j := 8) (t := 18) (by kernel_rfl) (hd 8 (by simp)) (of_decide_eq_true rfl) (of_decide_eq_true (by kernel_rfl)) rfl) _ _ hAt 3 (by kernel_rfl) rfl rfl (one3 _ _ _) hK)
  case refine_3 =>
  intro L vals wz hall hI
  obtain ⟨b7, e7, l7, h7⟩ := hI.blk 9 _ _ _ (hall 9 (by omega)) rfl
  rw [if_pos (hall 11 (by omega))] at h7
  obtain ⟨b8, e8, l8, h8⟩ := hI.blk 10 _ _ _ (hall 10 (by omega)) rfl
  rw [if_pos (hall 12 (by omega))] at h8
  have n7_8 : b7 ≠ b8 := fun e => hI.dis 9 10 _ _ _ _ _ _ (by omega) (hall 9 (by omega)) (hall 10 (by omega)) rfl rfl (by rw [e7, e8, e])
  rw [putAll_step (n := 12) rfl (hall 12 (by omega)) (d := none) rfl rfl, putAll_step (n := 11) rfl (hall 11 (by omega)) (d := none) rfl rfl, putAll_step (n := 10) rfl (hall 10 (by omega)) (d := (some 8)) rfl e8, putAll_step (n := 9) rfl (hall 9 (by omega)) (d := (some 7)) rfl e7, putAll_step (n := 8) rfl (hall 8 (by omega)) (d := (some 18)) rfl (hI.val_ 8 _ (hall 8 (by omega)) rfl), putAll_step (n := 7) rfl (hall 7 (by omega)) (d := (some 17)) rfl (hI.val_ 7 _ (hall 7 (by omega)) rfl), putAll_step (n := 6) rfl (hall 6 (by omega)) (d := (some 10)) rfl (hI.val_ 6 _ (hall 6 (by omega)) rfl), putAll_step (n := 5) rfl (hall 5 (by omega)) (d := (some 16)) rfl (hI.val_ 5 _ (hall 5 (by omega)) rfl), putAll_step (n := 4) rfl (hall 4 (by omega)) (d := (some 15)) rfl (hI.val_ 4 _ (hall 4 (by omega)) rfl), putAll_step (n := 3) rfl (hall 3 (by omega)) (d := (some 14)) rfl (hI.val_ 3 _ (hall 3 (by omega)) rfl), putAll_step (n := 2) rfl (hall 2 (by omega)) (d := (some 13)) rfl (hI.val_ 2 _ (hall 2 (by omega)) rfl), putAll_step (n := 1) rfl (hall 1 (by omega)) (d := (some 12)) rfl (hI.val_ 1 _ (hall 1 (by omega)) rfl), putAll_step (n := 0) rfl (hall 0 (by omega)) (d := (some 11)) rfl (hI.val_ 0 _ (hall 0 (by omega)) rfl), putAll_zero]
  have hbase := hI.base
  clear hI hall hBC e7 e8
  go_frame
  obtain ⟨hB, h0, h1, h2⟩ := hbase
  go_wp2_with fail
  refine wp_region_held (S := fun w' => At w' w.heap.size (.cells #[.int .i64 p, .int .i64 n, .int .i64 m, .int .i64 k, .slice xA xq.length xc] 28 (0, 0)) ∧ At w' (w.heap.size + 1) (.cells #[.int .i64 p, .int .i64 n', .int .i64 m', .int .i64 k', .slice yA yq.length yc] 28 (0, 0)) ∧ At w' b7 (.cells #[.int .i64 N, .int .i64 M, .int .i64 K] 53 (0, 0)) ∧ At w' b8 (.cells #[.int .i64 dn, .int .i64 dm, .int .i64 dk] 53 (0, 0))) (by kernel_rfl) ?_
  change wpAnyH _ _ _ _ _ _ _ _ (World.drew _)
  generalize hwdc : World.drew _ = wdc
  replace hB : Below w.heap.size w wdc := by rw [← hwdc]; exact hB.drew
  replace h0 : At wdc w.heap.size (.cells #[.int .i64 p, .int .i64 n, .int .i64 m, .int .i64 k, .slice xA xq.length xc] 28 (0, 0)) := by rw [← hwdc]; exact h0
  replace h1 : At wdc (w.heap.size + 1) (.cells #[.int .i64 p, .int .i64 n', .int .i64 m', .int .i64 k', .slice yA yq.length yc] 28 (0, 0)) := by rw [← hwdc]; exact h1
  replace h2 : At wdc (w.heap.size + 1 + 1) (.cells #[.int .i64 0, .int .i64 0, .int .i64 0, .int .i64 0, .slice none 0 0] 28 (0, 0)) := by rw [← hwdc]; exact h2
  replace h7 : At wdc b7 (.cells #[.int .i64 N, .int .i64 M, .int .i64 K] 53 (0, 0)) := by rw [← hwdc]; exact h7
  replace h8 : At wdc b8 (.cells #[.int .i64 dn, .int .i64 dm, .int .i64 dk] 53 (0, 0)) := by rw [← hwdc]; exact h8
  clear hwdc
  refine held_yield 0 (some 19) (.agg #[.int .i64 p, .int .i64 n, .int .i64 m, .int .i64 k, .slice xA xq.length xc]) rfl (by kernel_rfl) (by kernel_rfl) (by kernel_rfl) (fun _ _ _ h => h) rfl rfl ⟨h0, h1, h7, h8⟩ (fun w' h' => exec_load_all 28 _ rfl w.heap.size rfl _ _ _ h'.1 Try.underlying28 rfl 5 (by kernel_rfl) rfl) ?_
  go_frame
  refine held_yield 1 (some 20) (.agg #[.int .i64 N, .int .i64 M, .int .i64 K]) rfl (by kernel_rfl) (by kernel_rfl) (by kernel_rfl) (fun _ _ _ h => h) rfl rfl ⟨h0, h1, h7, h8⟩ (fun w' h' => exec_load_all 53 _ rfl b7 rfl _ _ _ h'.2.2.1 Try.underlying53 rfl 3 (by kernel_rfl) rfl) ?_
  go_frame
  refine held_yield 2 (some 21) (.agg #[.int .i64 0, .int .i64 0, .int .i64 0]) rfl (by kernel_rfl) (by kernel_rfl) (by kernel_rfl) (fun _ _ _ h => h) rfl rfl ⟨h0, h1, h7, h8⟩ (fun w' h' => exec_build_nil 53 rfl _ (by kernel_rfl)) ?_
  go_frame
  refine held_yield 4 (some 23) (.agg #[.int .i64 p, .int .i64 n', .int .i64 m', .int .i64 k', .slice yA yq.length yc]) rfl (by kernel_rfl) (by kernel_rfl) (by kernel_rfl) (fun _ _ _ h => h) rfl rfl ⟨h0, h1, h7, h8⟩ (fun w' h' => exec_load_all 28 _ rfl (w.heap.size + 1) rfl _ _ _ h'.2.1 Try.underlying28 rfl 5 (by kernel_rfl) rfl) ?_
  go_frame
  refine held_yield 5 (some 24) (.agg #[.int .i64 N, .int .i64 M, .int .i64 K]) rfl (by kernel_rfl) (by kernel_rfl) (by kernel_rfl) (fun _ _ _ h => h) rfl rfl ⟨h0, h1, h7, h8⟩ (fun w' h' => exec_load_all 53 _ rfl b7 rfl _ _ _ h'.2.2.1 Try.underlying53 rfl 3 (by kernel_rfl) rfl) ?_
  go_frame
  refine held_yield 6 (some 25) (.agg #[.int .i64 dn, .int .i64 dm, .int .i64 dk]) rfl (by kernel_rfl) (by kernel_rfl) (by kernel_rfl) (fun _ _ _ h => h) rfl rfl ⟨h0, h1, h7, h8⟩ (fun w' h' => exec_load_all 53 _ rfl b8 rfl _ _ _ h'.2.2.2 Try.underlying53 rfl 3 (by kernel_rfl) rfl) ?_
  go_frame
  refine held_oper 3 (by kernel_rfl) rfl rfl (fun K' hK' => ?_)
  have hs1 := hB.size
  refine wp_call3 (some 22) rfl 37 _ _ _ _ rfl (fun args w => by kernel_rfl) _ _ _ rfl rfl rfl _ (HMx.out _ (hrx.keep hB)) (fun e wnc1 h => ?_)
  obtain ⟨v1, rfl, ho1, bc2⟩ := h
  replace hB := below_after hB bc2
  replace h0 := h0.after bc2
  replace h1 := h1.after bc2
  replace h2 := h2.after bc2
  replace h7 := h7.after bc2
  replace h8 := h8.after bc2
  replace ho1 := ho1.mono hs1
  obtain ⟨A1, c1, rfl, hra1, hca1⟩ := ho1.rdc HR1.out
  clear bc2
  refine ⟨_, rfl, hK' _ _ ⟨h0, h1, h7, h8⟩ ?_⟩
  clear hK' K'
  go_frame
  refine held_oper 7 (by kernel_rfl) rfl rfl (fun K' hK' => ?_)
  have hs2 := hB.size
  refine wp_call3 (some 26) rfl 37 _ _ _ _ rfl (fun args w => by kernel_rfl) _ _ _ rfl rfl rfl _ (HMy.out _ (hry.keep hB)) (fun e wnc3 h => ?_)
  obtain ⟨v2, rfl, ho2, bc4⟩ := h
  replace hB := below_after hB bc4
  replace h0 := h0.after bc4
  replace h1 := h1.after bc4
  replace h2 := h2.after bc4
  replace h7 := h7.after bc4
  replace h8 := h8.after bc4
  replace ho1 := ho1.below bc4
  replace ho2 := ho2.mono hs2
  obtain ⟨A2, c2, rfl, hra2, hca2⟩ := ho2.rdc HR2.out
  clear bc4
  refine ⟨_, rfl, hK' _ _ ⟨h0, h1, h7, h8⟩ ?_⟩
  clear hK' K'
  go_frame
  refine held_oper 8 (by kernel_rfl) rfl rfl (fun K' hK' => ?_)
  refine wp_new (some 27) rfl (exec_bs2 _ _ rfl A1 A2 R1.length R2.length c1 c2 rfl rfl) (fun wac5 nnc6 => ?_)
  have hz9 := hB.size
  have bc7 := nnc6.below (Below.refl _ _) (Nat.le_refl _)
  replace hB := below_after hB bc7
  replace h0 := h0.after bc7
  replace h1 := h1.after bc7
  replace h2 := h2.after bc7
  replace h7 := h7.after bc7
  replace h8 := h8.after bc7
  replace ho1 := ho1.below bc7
  replace ho2 := ho2.below bc7
  have hbs : At wac5 wnc3.heap.size (.cells #[.slice A1 R1.length c1, .slice A2 R2.length c2] 26 (0, 0)) := nnc6.at_
  refine hK' _ _ ⟨h0, h1, h7, h8⟩ ?_
  clear hK' K' nnc6 bc7
  go_frame
  refine held_oper 9 (by kernel_rfl) rfl rfl (fun K' hK' => ?_)
  have hs3 := hB.size
  have HC := concat2_c _ A1 A2 c1 c2 R1 R2 wac5 hbs (ho1.rd' HR1.out) hca1 (ho2.rd' HR2.out) hca2 (by omega)
  refine wp_call1 (some 28) rfl 63 _ _ rfl (fun args w => by kernel_rfl) _ rfl _ (HC) (fun e wnc8 h => ?_)
  obtain ⟨v3, rfl, ho3, bc9⟩ := h
  replace hB := below_after hB bc9
  replace h0 := h0.after bc9
  replace h1 := h1.after bc9
  replace h2 := h2.after bc9
  replace h7 := h7.after bc9
  replace h8 := h8.after bc9
  replace ho1 := ho1.below bc9
  replace ho2 := ho2.below bc9
  replace hbs := hbs.after bc9
  replace ho3 := ho3.mono hs3
  rw [HR.out] at ho3
  clear bc9
  refine ⟨_, rfl, hK' _ _ ⟨h0, h1, h7, h8⟩ ?_⟩
  clear hK' K'
  go_frame
  refine held_yield 10 (some 9) (v3) rfl (by kernel_rfl) (by kernel_rfl) (by kernel_rfl) (fun _ _ _ h => h) rfl rfl ⟨h0, h1, h7, h8⟩ (fun w' h' => exec_assign _ rfl (v3) rfl) ?_
  go_frame
  refine wpAnyH_done (by kernel_rfl) ?_ _
  have k0 : World.cell? _ ⟨w.heap.size, 0, none⟩ = some (.int .i64 p) := h0.at_ 0
  obtain ⟨A3, c3, rfl, hr3⟩ := ho3.rd HR3.out
  go_wp2_with (refine wpList_load_all rfl 53 _ rfl b7 rfl _ _ _ h7 Try.underlying53 rfl 3 (by kernel_rfl) rfl ?_)
  refine (schemeFor_c p N M K A3 R3.length c3 _).mono ?_
  rintro e w9 ⟨rfl, b9⟩
  replace hB := below_after hB b9
  replace h2 := h2.after b9
  replace ho3 := ho3.below b9
  clear b9 k0
  have n1 := ho3.off h2 (by decide)
  go_wp2_with (refine wpList_store_all rfl 28 _ _ rfl rfl (w.heap.size + 1 + 1) rfl _ rfl _ _ h2 5 (by kernel_rfl) rfl rfl (one5 _ _ _ _ _ _ _) ?_; intro W2 p2)
  refine bodyPost_ret (results_at rfl _ _ (w.heap.size + 1 + 1) _ _ _ rfl p2.at_ Try.underlying28 rfl 5 (by kernel_rfl) rfl) rfl ?_
  exact ⟨_, rfl, ho3.put p2 n1, p2.below hB (by omega)⟩
end Go.Proofs.Ytelicajipilhjaa
