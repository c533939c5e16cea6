/-
  spec.RestrictScheme. (Made by mkmo5.py.)
-/
import Derived.Test.YtelicajipilhjaaMo1
import Derived.Test.YtelicajipilhjaaMo2
import Derived.Test.YtelicajipilhjaaRK
import Derived.Test.YtelicajipilhjaaHeldG
import Derived.Test.YtelicajipilhjaaNrm6
namespace Go.Proofs.Ytelicajipilhjaa
open Go.RowKit
set_option maxRecDepth 100000
def inR (x hi : Int) : Bool := decide (1 ≤ x) && decide (x ≤ hi)
def rsCode (p n m k : Int) (qs : List (List Nat)) (a b c : Int) : Int := if schemeB p n m k qs then (if inR a n && inR b m && inR c k then 0 else 2) else 1
def rsZ (p n m k : Int) (qs : List (List Nat)) (a b c x : Int) : Int := if rsCode p n m k qs a b c = 0 then x else 0
def rsR (p n m k : Int) (qs : List (List Nat)) (a b c : Int) : List (List Nat) := if rsCode p n m k qs a b c = 0 then (qs.map (mvQ n.toNat m.toNat k.toNat a.toNat b.toNat c.toNat 0 0 0)).filter nzB else []
theorem rsR_good {p n m k : Int} {qs : List (List Nat)} {a b c : Int} (hq : ∀ q ∈ qs, Bytes 27 q) (hl : qs.length ≤ 1048576) : (∀ r ∈ rsR p n m k qs a b c, Bytes 27 r) ∧ (rsR p n m k qs a b c).length ≤ 1048576 := by
  unfold rsR
  split
  · refine ⟨fun r hr => ?_, Nat.le_trans (List.length_filter_le _ _) (by simpa using hl)⟩
    obtain ⟨q, hm, rfl⟩ := List.mem_map.1 (List.mem_filter.1 hr).1
    exact mvQ_bytes (hq q hm)
  · simp
set_option maxHeartbeats 3200000 in
theorem specRestrictScheme_no (p n m k : Int) (A : Option Addr) (cap : Nat) (qs : List (List Nat)) (a b' c : Int) (w : World) (hr : Rd w A qs) (hlen : qs.length ≤ 1048576) (hno : rsCode p n m k qs a b' c ≠ 0) :
    Calls Try.prog 19 #[.agg #[.int .i64 p, .int .i64 n, .int .i64 m, .int .i64 k, .slice A qs.length cap], .int .i64 a, .int .i64 b', .int .i64 c] w (ResS w (rsZ p n m k qs a b' c p) (rsZ p n m k qs a b' c a) (rsZ p n m k qs a b' c b') (rsZ p n m k qs a b' c c) (rsR p n m k qs a b' c) (rsCode p n m k qs a b' c)) := by
  have HI := Lib.hid (fun w hr => l01Is_c p n m k A cap qs w hr hlen)
  cases hs : schemeB p n m k qs with
  | false =>
    have Hs := Lib.hid hs
    have Hc : Hid (rsCode p n m k qs a b' c = 1) := Lib.hid (by unfold rsCode inR; rw [hs]; rfl)
    have Hz : Hid (∀ x, rsZ p n m k qs a b' c x = 0) := Lib.hid (fun x => by simp [rsZ, Hc.out])
    have Hr : Hid (rsR p n m k qs a b' c = []) := Lib.hid (by simp [rsR, Hc.out])
    clear hs hno
    go_enter Try.func19, Try.ntmps19
    go_wp2_with (first | (refine wpList_abs2 ?_; intro W hsz hB h0 h1) | (refine wpList_load_all rfl 28 _ rfl w.heap.size rfl _ _ _ h0 Try.underlying28 rfl 5 (by kernel_rfl) rfl ?_))
    refine (HI.out _ (hr.keep hB)).mono ?_
    rintro e w1 ⟨rfl, b1⟩
    rw [Hs.out]
    have z1 : w.heap.size + 1 + 1 ≤ w1.heap.size := size_after (Nat.le_of_eq hsz.symm) b1
    replace h0 := h0.after b1
    replace h1 := h1.after b1
    replace hB := below_after hB b1
    clear b1 hsz
    go_wp2_with (refine wpList_store_all rfl 28 _ _ rfl rfl (w.heap.size + 1) rfl _ rfl _ _ h1 5 (by kernel_rfl) rfl rfl (by simp [Value.oneCell']) ?_; intro W2 p2)
    refine bodyPost_ret (results_at2 rfl _ _ (w.heap.size + 1) _ _ _ rfl _ rfl p2.at_ Try.underlying28 rfl 5 (by kernel_rfl) rfl) rfl ?_
    exact ⟨.slice none 0 0, by rw [Hz.out, Hz.out, Hz.out, Hz.out, Hc.out]; rfl, by rw [Hr.out]; exact Own.nil _ _, p2.below hB (by omega)⟩
  | true =>
    have Hs := Lib.hid hs
    cases ha : (decide (1 ≤ a) && decide (a ≤ n)) with
    | false =>
      have Ha := Lib.hid ha
      have Hc : Hid (rsCode p n m k qs a b' c = 2) := Lib.hid (by unfold rsCode inR; rw [hs, ha]; rfl)
      have Hz : Hid (∀ x, rsZ p n m k qs a b' c x = 0) := Lib.hid (fun x => by simp [rsZ, Hc.out])
      have Hr : Hid (rsR p n m k qs a b' c = []) := Lib.hid (by simp [rsR, Hc.out])
      clear hs hno ha
      go_enter Try.func19, Try.ntmps19
      go_wp2_with (first | (refine wpList_abs2 ?_; intro W hsz hB h0 h1) | (refine wpList_load_all rfl 28 _ rfl w.heap.size rfl _ _ _ h0 Try.underlying28 rfl 5 (by kernel_rfl) rfl ?_))
      refine (HI.out _ (hr.keep hB)).mono ?_
      rintro e w1 ⟨rfl, b1⟩
      rw [Hs.out]
      have z1 : w.heap.size + 1 + 1 ≤ w1.heap.size := size_after (Nat.le_of_eq hsz.symm) b1
      replace h0 := h0.after b1
      replace h1 := h1.after b1
      replace hB := below_after hB b1
      clear b1 hsz
      have k1 : w1.cell? ⟨w.heap.size, 1, none⟩ = some (.int .i64 n) := h0.at_ 1
      have k2 : w1.cell? ⟨w.heap.size, 2, none⟩ = some (.int .i64 m) := h0.at_ 2
      have k3 : w1.cell? ⟨w.heap.size, 3, none⟩ = some (.int .i64 k) := h0.at_ 3
      go_wp2_with fail
      refine (l01In_c a 1 n _).mono ?_
      rintro e wn ⟨rfl, rfl⟩
      rw [Ha.out]
      go_wp2_with (refine wpList_store_all rfl 28 _ _ rfl rfl (w.heap.size + 1) rfl _ rfl _ _ h1 5 (by kernel_rfl) rfl rfl (by simp [Value.oneCell']) ?_; intro W2 p2)
      refine bodyPost_ret (results_at2 rfl _ _ (w.heap.size + 1) _ _ _ rfl _ rfl p2.at_ Try.underlying28 rfl 5 (by kernel_rfl) rfl) rfl ?_
      exact ⟨.slice none 0 0, by rw [Hz.out, Hz.out, Hz.out, Hz.out, Hc.out]; rfl, by rw [Hr.out]; exact Own.nil _ _, p2.below hB (by omega)⟩
    | true =>
      have Ha := Lib.hid ha
      cases hb : (decide (1 ≤ b') && decide (b' ≤ m)) with
      | false =>
        have Hb := Lib.hid hb
        have Hc : Hid (rsCode p n m k qs a b' c = 2) := Lib.hid (by unfold rsCode inR; rw [hs, ha, hb]; rfl)
        have Hz : Hid (∀ x, rsZ p n m k qs a b' c x = 0) := Lib.hid (fun x => by simp [rsZ, Hc.out])
        have Hr : Hid (rsR p n m k qs a b' c = []) := Lib.hid (by simp [rsR, Hc.out])
        clear hs hno ha hb
        go_enter Try.func19, Try.ntmps19
        go_wp2_with (first | (refine wpList_abs2 ?_; intro W hsz hB h0 h1) | (refine wpList_load_all rfl 28 _ rfl w.heap.size rfl _ _ _ h0 Try.underlying28 rfl 5 (by kernel_rfl) rfl ?_))
        refine (HI.out _ (hr.keep hB)).mono ?_
        rintro e w1 ⟨rfl, b1⟩
        rw [Hs.out]
        have z1 : w.heap.size + 1 + 1 ≤ w1.heap.size := size_after (Nat.le_of_eq hsz.symm) b1
        replace h0 := h0.after b1
        replace h1 := h1.after b1
        replace hB := below_after hB b1
        clear b1 hsz
        have k1 : w1.cell? ⟨w.heap.size, 1, none⟩ = some (.int .i64 n) := h0.at_ 1
        have k2 : w1.cell? ⟨w.heap.size, 2, none⟩ = some (.int .i64 m) := h0.at_ 2
        have k3 : w1.cell? ⟨w.heap.size, 3, none⟩ = some (.int .i64 k) := h0.at_ 3
        go_wp2_with fail
        refine (l01In_c a 1 n _).mono ?_
        rintro e wn ⟨rfl, rfl⟩
        rw [Ha.out]
        go_wp2_with fail
        refine (l01In_c b' 1 m _).mono ?_
        rintro e wn ⟨rfl, rfl⟩
        rw [Hb.out]
        go_wp2_with (refine wpList_store_all rfl 28 _ _ rfl rfl (w.heap.size + 1) rfl _ rfl _ _ h1 5 (by kernel_rfl) rfl rfl (by simp [Value.oneCell']) ?_; intro W2 p2)
        refine bodyPost_ret (results_at2 rfl _ _ (w.heap.size + 1) _ _ _ rfl _ rfl p2.at_ Try.underlying28 rfl 5 (by kernel_rfl) rfl) rfl ?_
        exact ⟨.slice none 0 0, by rw [Hz.out, Hz.out, Hz.out, Hz.out, Hc.out]; rfl, by rw [Hr.out]; exact Own.nil _ _, p2.below hB (by omega)⟩
      | true =>
        have Hb := Lib.hid hb
        cases hc : (decide (1 ≤ c) && decide (c ≤ k)) with
        | false =>
          have Hcc := Lib.hid hc
          have Hc : Hid (rsCode p n m k qs a b' c = 2) := Lib.hid (by unfold rsCode inR; rw [hs, ha, hb, hc]; rfl)
          have Hz : Hid (∀ x, rsZ p n m k qs a b' c x = 0) := Lib.hid (fun x => by simp [rsZ, Hc.out])
          have Hr : Hid (rsR p n m k qs a b' c = []) := Lib.hid (by simp [rsR, Hc.out])
          clear hs hno ha hb hc
          go_enter Try.func19, Try.ntmps19
          go_wp2_with (first | (refine wpList_abs2 ?_; intro W hsz hB h0 h1) | (refine wpList_load_all rfl 28 _ rfl w.heap.size rfl _ _ _ h0 Try.underlying28 rfl 5 (by kernel_rfl) rfl ?_))
          refine (HI.out _ (hr.keep hB)).mono ?_
          rintro e w1 ⟨rfl, b1⟩
          rw [Hs.out]
          have z1 : w.heap.size + 1 + 1 ≤ w1.heap.size := size_after (Nat.le_of_eq hsz.symm) b1
          replace h0 := h0.after b1
          replace h1 := h1.after b1
          replace hB := below_after hB b1
          clear b1 hsz
          have k1 : w1.cell? ⟨w.heap.size, 1, none⟩ = some (.int .i64 n) := h0.at_ 1
          have k2 : w1.cell? ⟨w.heap.size, 2, none⟩ = some (.int .i64 m) := h0.at_ 2
          have k3 : w1.cell? ⟨w.heap.size, 3, none⟩ = some (.int .i64 k) := h0.at_ 3
          go_wp2_with fail
          refine (l01In_c a 1 n _).mono ?_
          rintro e wn ⟨rfl, rfl⟩
          rw [Ha.out]
          go_wp2_with fail
          refine (l01In_c b' 1 m _).mono ?_
          rintro e wn ⟨rfl, rfl⟩
          rw [Hb.out]
          go_wp2_with fail
          refine (l01In_c c 1 k _).mono ?_
          rintro e wn ⟨rfl, rfl⟩
          rw [Hcc.out]
          go_wp2_with (refine wpList_store_all rfl 28 _ _ rfl rfl (w.heap.size + 1) rfl _ rfl _ _ h1 5 (by kernel_rfl) rfl rfl (by simp [Value.oneCell']) ?_; intro W2 p2)
          refine bodyPost_ret (results_at2 rfl _ _ (w.heap.size + 1) _ _ _ rfl _ rfl p2.at_ Try.underlying28 rfl 5 (by kernel_rfl) rfl) rfl ?_
          exact ⟨.slice none 0 0, by rw [Hz.out, Hz.out, Hz.out, Hz.out, Hc.out]; rfl, by rw [Hr.out]; exact Own.nil _ _, p2.below hB (by omega)⟩
        | true => exact absurd (by unfold rsCode inR; rw [hs, ha, hb, hc]; rfl) hno
set_option maxHeartbeats 6400000 in
theorem specRestrictScheme_yes (p : Int) (n m k a b' c : Nat) (A : Option Addr) (cap : Nat) (qs : List (List Nat)) (w : World) (hr : Rd w A qs) (hs : schemeB p n m k qs = true) (hn : 1 ≤ n ∧ n ≤ 3) (hm : 1 ≤ m ∧ m ≤ 3) (hk : 1 ≤ k ∧ k ≤ 3) (ha : 1 ≤ a ∧ a ≤ n) (hb : 1 ≤ b' ∧ b' ≤ m) (hc : 1 ≤ c ∧ c ≤ k) :
    Calls Try.prog 19 #[.agg #[.int .i64 p, .int .i64 n, .int .i64 m, .int .i64 k, .slice A qs.length cap], .int .i64 a, .int .i64 b', .int .i64 c] w (ResS w p a b' c ((qs.map (mvQ n m k a b' c 0 0 0)).filter nzB) 0) := by
  have h30 := schemeB_len hs
  have HI := Lib.hid (fun w hr => l01Is_c p n m k A cap qs w hr (by omega))
  have Hs := Lib.hid hs
  have Ha : Hid ((decide ((1 : Int) ≤ a) && decide ((a : Int) ≤ n)) = true) := Lib.hid (by simp; omega)
  have Hb : Hid ((decide ((1 : Int) ≤ b') && decide ((b' : Int) ≤ m)) = true) := Lib.hid (by simp; omega)
  have Hcc : Hid ((decide ((1 : Int) ≤ c) && decide ((c : Int) ≤ k)) = true) := Lib.hid (by simp; omega)
  obtain ⟨ps, HPS⟩ : ∃ ps, Hid (qs.map (mvQ n m k a b' c 0 0 0) = ps) := ⟨_, Lib.hid rfl⟩
  have hpl : ps.length = qs.length := by rw [← HPS.out, List.length_map]
  have HPJ : Hid (∀ j (h : j < qs.length) (h' : j < ps.length), ps[j] = mvQ n m k a b' c 0 0 0 qs[j]) := Lib.hid (fun j h h' => by simp [← HPS.out])
  have HPSb : Hid (∀ r ∈ ps, Bytes 27 r) := Lib.hid (fun r hm => by rw [← HPS.out] at hm; obtain ⟨q, hq, rfl⟩ := List.mem_map.1 hm; exact mvQ_bytes (hr.good q hq))
  rw [HPS.out]
  clear hs
  go_enter Try.func19, Try.ntmps19
  go_wp2_with (first | (refine wpList_abs2 ?_; intro W hsz hB h0 h1) | (refine wpList_load_all rfl 28 _ rfl w.heap.size rfl _ _ _ h0 Try.underlying28 rfl 5 (by kernel_rfl) rfl ?_))
  refine (HI.out _ (hr.keep hB)).mono ?_
  rintro e w1 ⟨rfl, b1⟩
  rw [Hs.out]
  have z1 : w.heap.size + 1 + 1 ≤ w1.heap.size := size_after (Nat.le_of_eq hsz.symm) b1
  replace h0 := h0.after b1
  replace h1 := h1.after b1
  replace hB := below_after hB b1
  clear b1 hsz
  have k1 : w1.cell? ⟨w.heap.size, 1, none⟩ = some (.int .i64 n) := h0.at_ 1
  have k2 : w1.cell? ⟨w.heap.size, 2, none⟩ = some (.int .i64 m) := h0.at_ 2
  have k3 : w1.cell? ⟨w.heap.size, 3, none⟩ = some (.int .i64 k) := h0.at_ 3
  go_wp2_with fail
  refine (l01In_c a 1 n _).mono ?_
  rintro e wn ⟨rfl, rfl⟩
  rw [Ha.out]
  go_wp2_with fail
  refine (l01In_c b' 1 m _).mono ?_
  rintro e wn ⟨rfl, rfl⟩
  rw [Hb.out]
  go_wp2_with fail
  refine (l01In_c c 1 k _).mono ?_
  rintro e wn ⟨rfl, rfl⟩
  rw [Hcc.out]
  obtain ⟨w2, hw2⟩ : ∃ w2 : World, w2 = w1 := ⟨_, rfl⟩
  rw [← hw2] at h0 h1 hB z1 k1 k2 k3 ⊢
  clear hw2 w1
  have k0 : w2.cell? ⟨w.heap.size, 0, none⟩ = some (.int .i64 p) := h0.at_ 0
  have bx := below1 w2 (.cells #[.int .i64 p, .int .i64 a, .int .i64 b', .int .i64 c, .slice none 0 0] 28 (0, 0))
  have hK0 : KB w (w.heap.size + 1 + 1) w2.heap.size p a b' c ((ps.take 0).filter nzB) (.slice none 0 0) (w2.alloc (.cells #[.int .i64 p, .int .i64 a, .int .i64 b', .int .i64 c, .slice none 0 0] 28 (0, 0))) := ⟨below_after hB bx, Own.nil _ _, al1_0 _ _, by omega, by omega⟩
  have g0 := h0.after bx
  have g1 := h1.after bx
  clear bx hB
  go_wp2_with fail
  go_loopw [11] (fun i wr => ∃ (j : Nat) (v : Value), j ≤ qs.length ∧ i = .int .i64 j ∧ KB w (w.heap.size + 1 + 1) w2.heap.size p a b' c ((ps.take j).filter nzB) v wr ∧ At wr w.heap.size (.cells #[.int .i64 p, .int .i64 n, .int .i64 m, .int .i64 k, .slice A qs.length cap] 28 (0, 0)) ∧ At wr (w.heap.size + 1) (.cells #[.int .i64 0, .int .i64 0, .int .i64 0, .int .i64 0, .slice none 0 0] 28 (0, 0))) (fun i _ => qs.length - (intOf i).toNat)
  case atStart => exact ⟨0, _, by omega, rfl, hK0, g0, g1⟩
  case round =>
    clear hK0 g0 g1 h0 h1 k0 k1 k2 k3
    obtain ⟨j, v, hj, rfl, hK, h0, h1⟩ := hrel
    have c4 : wr.cell? ⟨w.heap.size, 4, none⟩ = some (.slice A qs.length cap) := h0.at_ 4
    by_cases hlt : j < qs.length
    · have e0 : IntKind.i64.wrap ((j : Int) + 1) = (j : Int) + 1 := IntWalk.i64_in _ (by omega)
      have hj' : (j : Int) < (qs.length : Int) := by omega
      obtain ⟨b, off, rfl, _⟩ := hr.at_ hlt
      have hqj := hr.good _ (List.getElem_mem hlt)
      have Hcj := Lib.hid (Rd.cells27 (hr.keep hK.below) hlt)
      have hjp : j < ps.length := by omega
      have HF := Lib.hid (filter_snoc ps hjp)
      have hfl := filter_le ps j
      have HFb : Hid (∀ r ∈ (ps.take j).filter nzB, Bytes 27 r) := Lib.hid (fun r hm => HPSb.out r (List.mem_of_mem_take (List.mem_filter.1 hm).1))
      have hpj := HPJ.out j hlt hjp
      have hmb := mvQ_bytes (n := n) (m := m) (k := k) (n' := a) (m' := b') (k' := c) (dn := 0) (dm := 0) (dk := 0) hqj
      generalize (ps.take j).filter nzB = F at *
      generalize ps[j] = pj at *
      generalize qs[j] = q at *
      obtain ⟨QA, QB, QC, rfl, hQA, hQB, hQC⟩ := parts3 hqj
      have hmv : mvQ n m k a b' c 0 0 0 (cat3 QA QB QC) = cat3 (mvF n m a b' 0 0 QA) (mvF m k b' c 0 0 QB) (mvF n k a c 0 0 QC) := by unfold mvQ; rw [segm_a hQA.len, segm_b hQA.len hQB.len, segm_c hQA.len hQB.len hQC.len]
      rw [hmv] at hpj hmb
      subst hpj
      clear hmv
      have l27 : 27 ≤ (cat3 QA QB QC).length := by rw [hqj.len]; exact Nat.le_refl _
      have HA : Hid (∀ w, Calls Try.prog 32 #[.agg (u8s QA), .int .i64 m, .int .i64 a, .int .i64 b'] w fun e w' => e = .returned (.agg (u8s (mvF n m a b' 0 0 QA))) ∧ Below w.heap.size w w') := Lib.hid (fun w => by
        have h := l02Cut_c QA m a b' hQA w (by omega) (by omega) (by omega)
        rw [ct_mv QA (show a ≤ n by omega) (show b' ≤ m by omega)] at h
        exact h)
      have hFA := mvF_bytes n m a b' 0 0 hQA
      generalize mvF n m a b' 0 0 QA = FA at *
      have HB : Hid (∀ w, Calls Try.prog 32 #[.agg (u8s QB), .int .i64 k, .int .i64 b', .int .i64 c] w fun e w' => e = .returned (.agg (u8s (mvF m k b' c 0 0 QB))) ∧ Below w.heap.size w w') := Lib.hid (fun w => by
        have h := l02Cut_c QB k b' c hQB w (by omega) (by omega) (by omega)
        rw [ct_mv QB (show b' ≤ m by omega) (show c ≤ k by omega)] at h
        exact h)
      have hFB := mvF_bytes m k b' c 0 0 hQB
      generalize mvF m k b' c 0 0 QB = FB at *
      have HC : Hid (∀ w, Calls Try.prog 32 #[.agg (u8s QC), .int .i64 k, .int .i64 a, .int .i64 c] w fun e w' => e = .returned (.agg (u8s (mvF n k a c 0 0 QC))) ∧ Below w.heap.size w w') := Lib.hid (fun w => by
        have h := l02Cut_c QC k a c hQC w (by omega) (by omega) (by omega)
        rw [ct_mv QC (show a ≤ n by omega) (show c ≤ k by omega)] at h
        exact h)
      have hFC := mvF_bytes n k a c 0 0 hQC
      generalize mvF n k a c 0 0 QC = FC at *
      have naw := hK.own.away_new
      have lK := hK.box.lt
      have l1 := h1.lt
      obtain ⟨A1, c1, rfl, _⟩ := hK.own.rd HFb.out
      obtain ⟨v, hv⟩ : ∃ v, v = Value.slice A1 F.length c1 := ⟨_, rfl⟩
      rw [← hv] at hK naw
      clear hv
      go_wp2_with (first | (refine wpList_load_cells rfl 49 _ rfl b (off + j * 27) rfl (cat3 QA QB QC) _ 27 Hcj.out Try.underlying49 rfl (by kernel_rfl) hqj.len ?_) | (refine wpList_abs1 ?_; intro W2 hsz2 hB2 s2; replace s2 : At W2 wr.heap.size (.cells (u8s (List.replicate 27 0)) 49 (0, 0)) := s2; replace h0 := h0.after hB2; replace h1 := h1.after hB2; replace hK := hK.after hB2) | (refine wpList_store_u8s rfl 49 _ _ rfl rfl wr.heap.size 0 rfl (cat3 QA QB QC) rfl _ _ s2 27 (by kernel_rfl) hqj.len (by simp) ?_; intro W3 p3; replace h0 := p3.other h0 (by omega); replace h1 := p3.other h1 (by omega); replace hK := hK.other p3 (by omega) naw (by omega); have hq := p3.at_; rw [over_all (by rw [hqj.len]; simp)] at hq; clear p3 s2 hsz2 hB2))
      have lq := hq.lt
      obtain ⟨lo, hlo⟩ : ∃ lo, lo = W3.heap.size := ⟨_, rfl⟩
      have hnv : ∀ g, lo ≤ g → some g ≠ v.ownBlock := fun g hg e => by have := (hK.own.lt e.symm).2; omega
      have START : KB w (w.heap.size + 1 + 1) w2.heap.size p a b' c F v W3.drew ∧ At W3.drew w.heap.size (.cells #[.int .i64 p, .int .i64 n, .int .i64 m, .int .i64 k, .slice (some ⟨b, off, none⟩) qs.length cap] 28 (0, 0)) ∧ At W3.drew (w.heap.size + 1) (.cells #[.int .i64 0, .int .i64 0, .int .i64 0, .int .i64 0, .slice none 0 0] 28 (0, 0)) ∧ At W3.drew wr.heap.size (.cells (u8s (cat3 QA QB QC)) 49 (0, 0)) ∧ lo ≤ W3.drew.heap.size := ⟨hK.drew, h0, h1, hq, Nat.le_of_eq hlo⟩
      rw [← hlo] at lq
      clear hlo hK h0 h1 hq
      have hBC : BC (fun W => KB w (w.heap.size + 1 + 1) w2.heap.size p a b' c F v W ∧ At W w.heap.size (.cells #[.int .i64 p, .int .i64 n, .int .i64 m, .int .i64 k, .slice (some ⟨b, off, none⟩) qs.length cap] 28 (0, 0)) ∧ At W (w.heap.size + 1) (.cells #[.int .i64 0, .int .i64 0, .int .i64 0, .int .i64 0, .slice none 0 0] 28 (0, 0)) ∧ At W wr.heap.size (.cells (u8s (cat3 QA QB QC)) 49 (0, 0)) ∧ lo ≤ W.heap.size) (lo) := ⟨fun h hb => ⟨h.1.after hb, h.2.1.after hb, h.2.2.1.after hb, h.2.2.2.1.after hb, Nat.le_trans h.2.2.2.2 hb.size⟩, fun h hg hP => ⟨h.1.other hP (by omega) (hnv _ hg) (by omega), hP.other h.2.1 (by omega), hP.other h.2.2.1 (by omega), hP.other h.2.2.2.1 (by omega), Nat.le_trans h.2.2.2.2 (Nat.le_of_eq (hP.size rfl).symm)⟩, fun h => h.2.2.2.2⟩
      refine wp_region_inv (by kernel_rfl) (by kernel_rfl) (by kernel_rfl) (RI (fun W => KB w (w.heap.size + 1 + 1) w2.heap.size p a b' c F v W ∧ At W w.heap.size (.cells #[.int .i64 p, .int .i64 n, .int .i64 m, .int .i64 k, .slice (some ⟨b, off, none⟩) qs.length cap] 28 (0, 0)) ∧ At W (w.heap.size + 1) (.cells #[.int .i64 0, .int .i64 0, .int .i64 0, .int .i64 0, .slice none 0 0] 28 (0, 0)) ∧ At W wr.heap.size (.cells (u8s (cat3 QA QB QC)) 49 (0, 0)) ∧ lo ≤ W.heap.size) (lo) (valOf [(0, .pointer (some ⟨wr.heap.size, 0, none⟩)), (1, .agg (u8s QA)), (2, .pointer (some ⟨w.heap.size, 2, none⟩)), (3, .int .i64 m), (4, .int .i64 a), (5, .int .i64 b'), (6, .agg (u8s FA)), (7, .pointer (some ⟨wr.heap.size, 9, none⟩)), (8, .agg (u8s QB)), (9, .pointer (some ⟨w.heap.size, 3, none⟩)), (10, .int .i64 k), (11, .int .i64 b'), (12, .int .i64 c), (13, .agg (u8s FB)), (14, .pointer (some ⟨wr.heap.size, 18, none⟩)), (15, .agg (u8s QC)), (16, .pointer (some ⟨w.heap.size, 3, none⟩)), (17, .int .i64 k), (18, .int .i64 a), (19, .int .i64 c), (20, .agg (u8s FC)), (21, .agg (u8s (cat3 FA FB FC)))]) (alOf [(22, 23, .cells (u8s (List.replicate 27 0)) 49 (0, 0), .cells (u8s (cat3 FA FB FC)) 49 (0, 0))])) (RI.start ?_) 24 rfl ?_ ?_
      case refine_1 => exact START
      case refine_2 =>
        refine StepsOK.succ (StepsOK.succ (StepsOK.succ (StepsOK.succ (StepsOK.succ (StepsOK.succ (StepsOK.succ (StepsOK.succ (StepsOK.succ (StepsOK.succ (StepsOK.succ (StepsOK.succ (StepsOK.succ (StepsOK.succ (StepsOK.succ (StepsOK.succ (StepsOK.succ (StepsOK.succ (StepsOK.succ (StepsOK.succ (StepsOK.succ (StepsOK.succ (StepsOK.succ (StepsOK.succ (StepsOK.zero) ?_) ?_) ?_) ?_) ?_) ?_) ?_) ?_) ?_) ?_) ?_) ?_) ?_) ?_) ?_) ?_) ?_) ?_) ?_) ?_) ?_) ?_) ?_) ?_
        · exact step_pure hBC 0 _ rfl rfl [] (by kernel_rfl) (some 58) rfl (.pointer (some ⟨wr.heap.size, 0, none⟩)) rfl rfl (notStore_of rfl) (fun L vals W hd hI => exec_fieldAddr_x 49 _ 0 rfl _ (slot_old (by kernel_rfl) rfl) _ (by kernel_rfl))
        · exact step_pure hBC 1 _ rfl rfl [0] (by kernel_rfl) (some 59) rfl (.agg (u8s QA)) rfl rfl (notStore_of rfl) (fun L vals W hd hI => exec_load_seg 47 _ rfl wr.heap.size 0 (hI.slot (by kernel_rfl) (j := 0) (t := 58) (by kernel_rfl) (hd 0 (by simp)) (of_decide_eq_true rfl) (of_decide_eq_true (by kernel_rfl)) rfl) _ (cat3 QA QB QC) _ 9 hI.base.2.2.2.1 Try.underlying47 rfl (by kernel_rfl) (by omega) _ (segm_a hQA.len))
        · exact step_pure hBC 2 _ rfl rfl [] (by kernel_rfl) (some 60) rfl (.pointer (some ⟨w.heap.size, 2, none⟩)) rfl rfl (notStore_of rfl) (fun L vals W hd hI => exec_fieldAddr_x 28 _ 2 rfl _ (slot_old (by kernel_rfl) rfl) _ (by kernel_rfl))
        · exact step_pure hBC 3 _ rfl rfl [2] (by kernel_rfl) (some 61) rfl (.int .i64 m) rfl rfl (notStore_of rfl) (fun L vals W hd hI => exec_load_one 2 _ rfl w.heap.size 2 (hI.slot (by kernel_rfl) (j := 2) (t := 60) (by kernel_rfl) (hd 2 (by simp)) (of_decide_eq_true rfl) (of_decide_eq_true (by kernel_rfl)) rfl) _ _ Try.underlying2 rfl (hI.base.2.1.at_ 2))
        · exact step_pure hBC 4 _ rfl rfl [] (by kernel_rfl) (some 62) rfl (.int .i64 a) rfl rfl (notStore_of rfl) (fun L vals W hd hI => exec_move _ rfl (.int .i64 a) (slot_old (by kernel_rfl) rfl))
        · exact step_pure hBC 5 _ rfl rfl [] (by kernel_rfl) (some 63) rfl (.int .i64 b') rfl rfl (notStore_of rfl) (fun L vals W hd hI => exec_move _ rfl (.int .i64 b') (slot_old (by kernel_rfl) rfl))
        · exact step_call hBC 6 _ rfl rfl [1, 3, 4, 5] (by kernel_rfl) (.agg (u8s FA)) rfl rfl (notStore_of rfl) (fun L vals W K hd hI hK => wp_call4 (some 64) rfl 32 _ _ _ _ _ rfl (fun args w => by kernel_rfl) _ _ _ _ (hI.slot (by kernel_rfl) (j := 1) (t := 59) (by kernel_rfl) (hd 1 (by simp)) (of_decide_eq_true rfl) (of_decide_eq_true (by kernel_rfl)) rfl) (hI.slot (by kernel_rfl) (j := 3) (t := 61) (by kernel_rfl) (hd 3 (by simp)) (of_decide_eq_true rfl) (of_decide_eq_true (by kernel_rfl)) rfl) (hI.slot (by kernel_rfl) (j := 4) (t := 62) (by kernel_rfl) (hd 4 (by simp)) (of_decide_eq_true rfl) (of_decide_eq_true (by kernel_rfl)) rfl) (hI.slot (by kernel_rfl) (j := 5) (t := 63) (by kernel_rfl) (hd 5 (by simp)) (of_decide_eq_true rfl) (of_decide_eq_true (by kernel_rfl)) rfl) _ (HA.out _) (fun e wn h => by obtain ⟨rfl, b⟩ := h; exact ⟨_, rfl, hK _ b⟩))
        · exact step_pure hBC 7 _ rfl rfl [] (by kernel_rfl) (some 65) rfl (.pointer (some ⟨wr.heap.size, 9, none⟩)) rfl rfl (notStore_of rfl) (fun L vals W hd hI => exec_fieldAddr_x 49 _ 1 rfl _ (slot_old (by kernel_rfl) rfl) _ (by kernel_rfl))
        · exact step_pure hBC 8 _ rfl rfl [7] (by kernel_rfl) (some 66) rfl (.agg (u8s QB)) rfl rfl (notStore_of rfl) (fun L vals W hd hI => exec_load_seg 47 _ rfl wr.heap.size 9 (hI.slot (by kernel_rfl) (j := 7) (t := 65) (by kernel_rfl) (hd 7 (by simp)) (of_decide_eq_true rfl) (of_decide_eq_true (by kernel_rfl)) rfl) _ (cat3 QA QB QC) _ 9 hI.base.2.2.2.1 Try.underlying47 rfl (by kernel_rfl) (by omega) _ (segm_b hQA.len hQB.len))
        · exact step_pure hBC 9 _ rfl rfl [] (by kernel_rfl) (some 67) rfl (.pointer (some ⟨w.heap.size, 3, none⟩)) rfl rfl (notStore_of rfl) (fun L vals W hd hI => exec_fieldAddr_x 28 _ 3 rfl _ (slot_old (by kernel_rfl) rfl) _ (by kernel_rfl))
        · exact step_pure hBC 10 _ rfl rfl [9] (by kernel_rfl) (some 68) rfl (.int .i64 k) rfl rfl (notStore_of rfl) (fun L vals W hd hI => exec_load_one 2 _ rfl w.heap.size 3 (hI.slot (by kernel_rfl) (j := 9) (t := 67) (by kernel_rfl) (hd 9 (by simp)) (of_decide_eq_true rfl) (of_decide_eq_true (by kernel_rfl)) rfl) _ _ Try.underlying2 rfl (hI.base.2.1.at_ 3))
        · exact step_pure hBC 11 _ rfl rfl [] (by kernel_rfl) (some 69) rfl (.int .i64 b') rfl rfl (notStore_of rfl) (fun L vals W hd hI => exec_move _ rfl (.int .i64 b') (slot_old (by kernel_rfl) rfl))
        · exact step_pure hBC 12 _ rfl rfl [] (by kernel_rfl) (some 70) rfl (.int .i64 c) rfl rfl (notStore_of rfl) (fun L vals W hd hI => exec_move _ rfl (.int .i64 c) (slot_old (by kernel_rfl) rfl))
        · exact step_call hBC 13 _ rfl rfl [8, 10, 11, 12, 6] (by kernel_rfl) (.agg (u8s FB)) rfl rfl (notStore_of rfl) (fun L vals W K hd hI hK => wp_call4 (some 71) rfl 32 _ _ _ _ _ rfl (fun args w => by kernel_rfl) _ _ _ _ (hI.slot (by kernel_rfl) (j := 8) (t := 66) (by kernel_rfl) (hd 8 (by simp)) (of_decide_eq_true rfl) (of_decide_eq_true (by kernel_rfl)) rfl) (hI.slot (by kernel_rfl) (j := 10) (t := 68) (by kernel_rfl) (hd 10 (by simp)) (of_decide_eq_true rfl) (of_decide_eq_true (by kernel_rfl)) rfl) (hI.slot (by kernel_rfl) (j := 11) (t := 69) (by kernel_rfl) (hd 11 (by simp)) (of_decide_eq_true rfl) (of_decide_eq_true (by kernel_rfl)) rfl) (hI.slot (by kernel_rfl) (j := 12) (t := 70) (by kernel_rfl) (hd 12 (by simp)) (of_decide_eq_true rfl) (of_decide_eq_true (by kernel_rfl)) rfl) _ (HB.out _) (fun e wn h => by obtain ⟨rfl, b⟩ := h; exact ⟨_, rfl, hK _ b⟩))
        · exact step_pure hBC 14 _ rfl rfl [] (by kernel_rfl) (some 72) rfl (.pointer (some ⟨wr.heap.size, 18, none⟩)) rfl rfl (notStore_of rfl) (fun L vals W hd hI => exec_fieldAddr_x 49 _ 2 rfl _ (slot_old (by kernel_rfl) rfl) _ (by kernel_rfl))
        · exact step_pure hBC 15 _ rfl rfl [14] (by kernel_rfl) (some 73) rfl (.agg (u8s QC)) rfl rfl (notStore_of rfl) (fun L vals W hd hI => exec_load_seg 47 _ rfl wr.heap.size 18 (hI.slot (by kernel_rfl) (j := 14) (t := 72) (by kernel_rfl) (hd 14 (by simp)) (of_decide_eq_true rfl) (of_decide_eq_true (by kernel_rfl)) rfl) _ (cat3 QA QB QC) _ 9 hI.base.2.2.2.1 Try.underlying47 rfl (by kernel_rfl) (by omega) _ (segm_c hQA.len hQB.len hQC.len))
        · exact step_pure hBC 16 _ rfl rfl [] (by kernel_rfl) (some 74) rfl (.pointer (some ⟨w.heap.size, 3, none⟩)) rfl rfl (notStore_of rfl) (fun L vals W hd hI => exec_fieldAddr_x 28 _ 3 rfl _ (slot_old (by kernel_rfl) rfl) _ (by kernel_rfl))
        · exact step_pure hBC 17 _ rfl rfl [16] (by kernel_rfl) (some 75) rfl (.int .i64 k) rfl rfl (notStore_of rfl) (fun L vals W hd hI => exec_load_one 2 _ rfl w.heap.size 3 (hI.slot (by kernel_rfl) (j := 16) (t := 74) (by kernel_rfl) (hd 16 (by simp)) (of_decide_eq_true rfl) (of_decide_eq_true (by kernel_rfl)) rfl) _ _ Try.underlying2 rfl (hI.base.2.1.at_ 3))
        · exact step_pure hBC 18 _ rfl rfl [] (by kernel_rfl) (some 76) rfl (.int .i64 a) rfl rfl (notStore_of rfl) (fun L vals W hd hI => exec_move _ rfl (.int .i64 a) (slot_old (by kernel_rfl) rfl))
        · exact step_pure hBC 19 _ rfl rfl [] (by kernel_rfl) (some 77) rfl (.int .i64 c) rfl rfl (notStore_of rfl) (fun L vals W hd hI => exec_move _ rfl (.int .i64 c) (slot_old (by kernel_rfl) rfl))
        · exact step_call hBC 20 _ rfl rfl [15, 17, 18, 19, 13] (by kernel_rfl) (.agg (u8s FC)) rfl rfl (notStore_of rfl) (fun L vals W K hd hI hK => wp_call4 (some 78) rfl 32 _ _ _ _ _ rfl (fun args w => by kernel_rfl) _ _ _ _ (hI.slot (by kernel_rfl) (j := 15) (t := 73) (by kernel_rfl) (hd 15 (by simp)) (of_decide_eq_true rfl) (of_decide_eq_true (by kernel_rfl)) rfl) (hI.slot (by kernel_rfl) (j := 17) (t := 75) (by kernel_rfl) (hd 17 (by simp)) (of_decide_eq_true rfl) (of_decide_eq_true (by kernel_rfl)) rfl) (hI.slot (by kernel_rfl) (j := 18) (t := 76) (by kernel_rfl) (hd 18 (by simp)) (of_decide_eq_true rfl) (of_decide_eq_true (by kernel_rfl)) rfl) (hI.slot (by kernel_rfl) (j := 19) (t := 77) (by kernel_rfl) (hd 19 (by simp)) (of_decide_eq_true rfl) (of_decide_eq_true (by kernel_rfl)) rfl) _ (HC.out _) (fun e wn h => by obtain ⟨rfl, b⟩ := h; exact ⟨_, rfl, hK _ b⟩))
        · exact step_pure hBC 21 _ rfl rfl [6, 13, 20] (by kernel_rfl) (some 79) rfl (.agg (u8s (cat3 FA FB FC))) rfl rfl (notStore_of rfl) (fun L vals W hd hI => exec_prod _ _ _ rfl FA FB FC (hI.slot (by kernel_rfl) (j := 6) (t := 64) (by kernel_rfl) (hd 6 (by simp)) (of_decide_eq_true rfl) (of_decide_eq_true (by kernel_rfl)) rfl) (hI.slot (by kernel_rfl) (j := 13) (t := 71) (by kernel_rfl) (hd 13 (by simp)) (of_decide_eq_true rfl) (of_decide_eq_true (by kernel_rfl)) rfl) (hI.slot (by kernel_rfl) (j := 20) (t := 78) (by kernel_rfl) (hd 20 (by simp)) (of_decide_eq_true rfl) (of_decide_eq_true (by kernel_rfl)) rfl) hFA.len hFB.len hFC.len)
        · exact step_alloc hBC 22 _ rfl rfl [] (by kernel_rfl) 23 (.cells (u8s (List.replicate 27 0)) 49 (0, 0)) (.cells (u8s (cat3 FA FB FC)) 49 (0, 0)) rfl rfl (by decide) (by kernel_rfl) (notStore_of rfl) (fun a w => exec_alloc_prod rfl)
        · exact step_store hBC 23 _ rfl rfl [22, 21, 20, 0, 1, 2, 3, 4, 5, 6, 7, 8, 9, 10, 11, 12, 13, 14, 15, 16, 17, 18, 19, 20, 21, 22] (by kernel_rfl) rfl 22 (by simp) (.cells (u8s (List.replicate 27 0)) 49 (0, 0)) (.cells (u8s (cat3 FA FB FC)) 49 (0, 0)) rfl rfl rfl (uniq_of rfl) (fun L vals W b K hd hI hb hAt hK => wp_store_bytes 49 _ _ rfl rfl b (slot_al (by kernel_rfl) (j := 22) (t := 13) (by kernel_rfl) (hd 22 (by simp)) (of_decide_eq_true rfl) (of_decide_eq_true (by kernel_rfl)) hb) (cat3 FA FB FC) (hI.slot (by kernel_rfl) (j := 21) (t := 79) (by kernel_rfl) (hd 21 (by simp)) (of_decide_eq_true rfl) (of_decide_eq_true (by kernel_rfl)) rfl) _ _ hAt 27 (by kernel_rfl) hmb.len (by simp) hK)
      case refine_3 =>
      intro L vals wz hall hI
      obtain ⟨b13, e13, l13, h13⟩ := hI.blk 22 _ _ _ (hall 22 (by omega)) rfl
      rw [if_pos (hall 23 (by omega))] at h13
      rw [putAll_step (n := 23) rfl (hall 23 (by omega)) (d := none) rfl rfl, putAll_step (n := 22) rfl (hall 22 (by omega)) (d := (some 13)) rfl e13, putAll_step (n := 21) rfl (hall 21 (by omega)) (d := (some 79)) rfl (hI.val_ 21 _ (hall 21 (by omega)) rfl), putAll_step (n := 20) rfl (hall 20 (by omega)) (d := (some 78)) rfl (hI.val_ 20 _ (hall 20 (by omega)) rfl), putAll_step (n := 19) rfl (hall 19 (by omega)) (d := (some 77)) rfl (hI.val_ 19 _ (hall 19 (by omega)) rfl), putAll_step (n := 18) rfl (hall 18 (by omega)) (d := (some 76)) rfl (hI.val_ 18 _ (hall 18 (by omega)) rfl), putAll_step (n := 17) rfl (hall 17 (by omega)) (d := (some 75)) rfl (hI.val_ 17 _ (hall 17 (by omega)) rfl), putAll_step (n := 16) rfl (hall 16 (by omega)) (d := (some 74)) rfl (hI.val_ 16 _ (hall 16 (by omega)) rfl), putAll_step (n := 15) rfl (hall 15 (by omega)) (d := (some 73)) rfl (hI.val_ 15 _ (hall 15 (by omega)) rfl), putAll_step (n := 14) rfl (hall 14 (by omega)) (d := (some 72)) rfl (hI.val_ 14 _ (hall 14 (by omega)) rfl), putAll_step (n := 13) rfl (hall 13 (by omega)) (d := (some 71)) rfl (hI.val_ 13 _ (hall 13 (by omega)) rfl), putAll_step (n := 12) rfl (hall 12 (by omega)) (d := (some 70)) rfl (hI.val_ 12 _ (hall 12 (by omega)) rfl), putAll_step (n := 11) rfl (hall 11 (by omega)) (d := (some 69)) rfl (hI.val_ 11 _ (hall 11 (by omega)) rfl), putAll_step (n := 10) rfl (hall 10 (by omega)) (d := (some 68)) rfl (hI.val_ 10 _ (hall 10 (by omega)) rfl), putAll_step (n := 9) rfl (hall 9 (by omega)) (d := (some 67)) rfl (hI.val_ 9 _ (hall 9 (by omega)) rfl), putAll_step (n := 8) rfl (hall 8 (by omega)) (d := (some 66)) rfl (hI.val_ 8 _ (hall 8 (by omega)) rfl), putAll_step (n := 7) rfl (hall 7 (by omega)) (d := (some 65)) rfl (hI.val_ 7 _ (hall 7 (by omega)) rfl), putAll_step (n := 6) rfl (hall 6 (by omega)) (d := (some 64)) rfl (hI.val_ 6 _ (hall 6 (by omega)) rfl), putAll_step (n := 5) rfl (hall 5 (by omega)) (d := (some 63)) rfl (hI.val_ 5 _ (hall 5 (by omega)) rfl), putAll_step (n := 4) rfl (hall 4 (by omega)) (d := (some 62)) rfl (hI.val_ 4 _ (hall 4 (by omega)) rfl), putAll_step (n := 3) rfl (hall 3 (by omega)) (d := (some 61)) rfl (hI.val_ 3 _ (hall 3 (by omega)) rfl), putAll_step (n := 2) rfl (hall 2 (by omega)) (d := (some 60)) rfl (hI.val_ 2 _ (hall 2 (by omega)) rfl), putAll_step (n := 1) rfl (hall 1 (by omega)) (d := (some 59)) rfl (hI.val_ 1 _ (hall 1 (by omega)) rfl), putAll_step (n := 0) rfl (hall 0 (by omega)) (d := (some 58)) rfl (hI.val_ 0 _ (hall 0 (by omega)) rfl), putAll_zero]
      have hbase := hI.base
      clear hI hall hBC e13
      go_frame
      obtain ⟨hK, h0, h1, hq, hsz⟩ := hbase
      have HZ0 := Lib.hid (fun w => l01Zero_c FA hFA w)
      have HZ1 := Lib.hid (fun w => l01Zero_c FB hFB w)
      have HZ2 := Lib.hid (fun w => l01Zero_c FC hFC w)
      have HN : Hid (nzB (cat3 FA FB FC) = (!zeroB FA && !zeroB FB && !zeroB FC)) := Lib.hid (by unfold nzB; rw [segm_a hFA.len, segm_b hFA.len hFB.len, segm_c hFA.len hFB.len hFC.len])
      have m27 : 27 ≤ (cat3 FA FB FC).length := by rw [hmb.len]; exact Nat.le_refl _
      have t0 := segm_a (B := FB) (C := FC) hFA.len
      have t1 := segm_b (C := FC) hFA.len hFB.len
      have t2 := segm_c hFA.len hFB.len hFC.len
      clear hq Hcj HA HB HC naw
      go_wp2_with (refine wpList_load_u8s rfl 47 _ rfl b13 0 rfl _ (cat3 FA FB FC) _ 9 h13 Try.underlying47 rfl (by kernel_rfl) (by omega) ?_; rw [t0])
      refine (HZ0.out _).mono ?_
      rintro e w4 ⟨rfl, b4⟩
      replace hK := hK.after b4
      replace h0 := h0.after b4
      replace h1 := h1.after b4
      replace h13 := h13.after b4
      clear b4
      cases z0 : zeroB FA with
      | true =>
        have HQ : Hid (nzB (cat3 FA FB FC) = false) := Lib.hid (by rw [HN.out, z0]; rfl)
        clear z0
        go_wp2_with fail
        exact ⟨⟨j + 1, v, by omega, by go_num, by rw [HF.out, HQ.out]; simpa using hK, h0, h1⟩, by simp [intOf]; omega⟩
      | false =>
        have Z0 := Lib.hid z0
        clear z0
        go_wp2_with (refine wpList_want_exec rfl (exec_load_seg 47 _ rfl b13 9 rfl _ (cat3 FA FB FC) _ 9 h13 Try.underlying47 rfl (by kernel_rfl) (by omega) _ t1) ?_)
        refine (HZ1.out _).mono ?_
        rintro e w5 ⟨rfl, b4⟩
        replace hK := hK.after b4
        replace h0 := h0.after b4
        replace h1 := h1.after b4
        replace h13 := h13.after b4
        clear b4
        cases z1 : zeroB FB with
        | true =>
          have HQ : Hid (nzB (cat3 FA FB FC) = false) := Lib.hid (by rw [HN.out, Z0.out, z1]; rfl)
          clear z1
          go_wp2_with fail
          exact ⟨⟨j + 1, v, by omega, by go_num, by rw [HF.out, HQ.out]; simpa using hK, h0, h1⟩, by simp [intOf]; omega⟩
        | false =>
          have Z1 := Lib.hid z1
          clear z1
          go_wp2_with (refine wpList_want_exec rfl (exec_load_seg 47 _ rfl b13 18 rfl _ (cat3 FA FB FC) _ 9 h13 Try.underlying47 rfl (by kernel_rfl) (by omega) _ t2) ?_)
          refine (HZ2.out _).mono ?_
          rintro e w6 ⟨rfl, b4⟩
          replace hK := hK.after b4
          replace h0 := h0.after b4
          replace h1 := h1.after b4
          replace h13 := h13.after b4
          clear b4
          cases z2 : zeroB FC with
          | true =>
            have HQ : Hid (nzB (cat3 FA FB FC) = false) := Lib.hid (by rw [HN.out, Z0.out, Z1.out, z2]; rfl)
            clear z2
            go_wp2_with fail
            exact ⟨⟨j + 1, v, by omega, by go_num, by rw [HF.out, HQ.out]; simpa using hK, h0, h1⟩, by simp [intOf]; omega⟩
          | false =>
            have HQ : Hid (nzB (cat3 FA FB FC) = true) := Lib.hid (by rw [HN.out, Z0.out, Z1.out, z2]; rfl)
            clear z2
            have c4 := hK.c4
            go_wp2_with (first | (refine wpList_load_all rfl 49 _ rfl b13 rfl _ _ _ h13 Try.underlying49 rfl 27 (by kernel_rfl) ((u8s_size _).trans hmb.len) ?_) | (refine wpList_buildSlice1 rfl _ 49 _ rfl (cat3 FA FB FC) rfl Try.underlying26 infoProd hmb.len ?_; intro W7 n7; replace hK := hK.new n7; replace h0 := n7.old h0; replace h1 := n7.old h1; have hRq := Rd.one n7 hmb; have lW := hK.box.lt) | (at_builtin; refine wpList_append_rd rfl _ rfl _ _ rfl v F [cat3 FA FB FC] rfl hK.own (some ⟨_, 0, none⟩) 1 rfl hRq (by simp) (by simp; omega) (by omega) ?_; intro v1 W8 ho8 gr8; have G := hK.grow2 gr8 ho8; have hv1 := ho8.shp.cells; replace h0 := h0.grown gr8 (hK.own.off h0 (by decide)); replace h1 := h1.grown gr8 (hK.own.off h1 (by decide)); clear gr8) | (refine wpList_store_one rfl 26 _ _ rfl rfl w2.heap.size 4 rfl v1 rfl hv1.1 hv1.2 _ _ G.2.2 (by kernel_rfl) (by simp) ?_; intro W9 p9; replace h0 := p9.other h0 (by omega); replace h1 := p9.other h1 (by omega)))
            exact ⟨⟨j + 1, v1, by omega, by go_num, by rw [HF.out, HQ.out]; exact KB.put G (by omega) (by omega) (by exact p9), h0, h1⟩, by simp [intOf]; omega⟩
    · obtain rfl : j = qs.length := by omega
      rw [← hpl, List.take_length] at hK
      have hv := hK.own.shp.cells
      have n1 := hK.own.off h1 (by decide)
      go_wp2_with (first | (refine wpList_load_all rfl 28 _ rfl w2.heap.size rfl _ _ _ hK.box Try.underlying28 rfl 5 (by kernel_rfl) rfl ?_) | (refine wpList_store_all rfl 28 _ _ rfl rfl (w.heap.size + 1) rfl _ rfl _ _ h1 5 (by kernel_rfl) rfl rfl (by intro x hx; simp at hx; rcases hx with rfl | rfl | rfl | rfl | rfl <;> first | rfl | exact hv.2) ?_; intro w3 p3))
      refine bodyPost_ret (results_at2 rfl _ _ (w.heap.size + 1) _ _ _ rfl _ rfl p3.at_ Try.underlying28 rfl 5 (by kernel_rfl) rfl) rfl ?_
      exact ⟨v, rfl, (hK.own.put p3 n1).mono (by omega), p3.below hK.below (by omega)⟩
theorem rs_cases {p n m k : Int} {qs : List (List Nat)} {a b c : Int} (h : rsCode p n m k qs a b c = 0) : ∃ N M K x y z : Nat, n = N ∧ m = M ∧ k = K ∧ a = x ∧ b = y ∧ c = z ∧ schemeB p n m k qs = true ∧ (1 ≤ N ∧ N ≤ 3) ∧ (1 ≤ M ∧ M ≤ 3) ∧ (1 ≤ K ∧ K ≤ 3) ∧ (1 ≤ x ∧ x ≤ N) ∧ (1 ≤ y ∧ y ≤ M) ∧ (1 ≤ z ∧ z ≤ K) := by
  unfold rsCode at h
  split at h
  · rename_i hs
    split at h
    · rename_i hin
      simp only [inR, Bool.and_eq_true, decide_eq_true_eq] at hin
      have h3 := sizesB_parts (schemeB_sizes hs)
      simp only [sizeB, Bool.and_eq_true, decide_eq_true_eq] at h3
      exact ⟨n.toNat, m.toNat, k.toNat, a.toNat, b.toNat, c.toNat, by omega, by omega, by omega, by omega, by omega, by omega, hs, by omega, by omega, by omega, by omega, by omega, by omega⟩
    · simp at h
  · simp at h
theorem specRestrictScheme_c (p n m k : Int) (A : Option Addr) (cap : Nat) (qs : List (List Nat)) (a b c : Int) (w : World) (hr : Rd w A qs) (hlen : qs.length ≤ 1048576) :
    Calls Try.prog 19 #[.agg #[.int .i64 p, .int .i64 n, .int .i64 m, .int .i64 k, .slice A qs.length cap], .int .i64 a, .int .i64 b, .int .i64 c] w (ResS w (rsZ p n m k qs a b c p) (rsZ p n m k qs a b c a) (rsZ p n m k qs a b c b) (rsZ p n m k qs a b c c) (rsR p n m k qs a b c) (rsCode p n m k qs a b c)) := by
  by_cases h0 : rsCode p n m k qs a b c = 0
  · have hz : ∀ x, rsZ p n m k qs a b c x = x := fun x => by simp [rsZ, h0]
    rw [hz, hz, hz, hz, h0]
    unfold rsR
    rw [if_pos h0]
    obtain ⟨N, M, K, x, y, z, rfl, rfl, rfl, rfl, rfl, rfl, hs, h1, h2, h3, h4, h5, h6⟩ := rs_cases h0
    simp only [Int.toNat_natCast]
    exact specRestrictScheme_yes p N M K x y z A cap qs w hr hs h1 h2 h3 h4 h5 h6
  · exact specRestrictScheme_no p n m k A cap qs a b c w hr hlen h0
end Go.Proofs.Ytelicajipilhjaa
