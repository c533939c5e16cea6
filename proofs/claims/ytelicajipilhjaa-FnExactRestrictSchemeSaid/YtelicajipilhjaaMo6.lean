/-
  impl.RestrictScheme. (Made by mkmo6.py.)
-/
import Derived.Test.YtelicajipilhjaaMo4
import Derived.Test.YtelicajipilhjaaMo5
namespace Go.Proofs.Ytelicajipilhjaa
open Go.RowKit
set_option maxRecDepth 100000
theorem exec_index_val {P : Program} {o : Oper} {a : Act} {w : World} (ty e : TypeId) (x i : Operand) (ho : o.op = .index ty x i) (n k : Nat) (cs : Array Value) (v : Value) (hx : a.eval x = .agg cs) (hi : a.eval i = .int .i64 k)
    (hu : P.underlying ty = some (.array n e)) (d : TypeDesc) (he : P.underlying e = some d) (hd : (match d with | .struct _ | .array _ _ => true | _ => false) = false) (hs : (P.info? e).map (·.size) = some 1) (hk : k < n) (hv : cs[k]? = some v) :
    (execOp a.eval o).run P w = .ok (.value v) w := by
  obtain ⟨ie, hie, hse⟩ := Option.map_eq_some_iff.1 hs
  have hagg : (isAgg e).run P w = .ok false w := by
    unfold isAgg
    rw [Sem.run_bind, run_underlying he w]
    cases d <;> simp_all
  have h1 : (0 : Int) ≤ k ∧ (k : Int) < n := ⟨by omega, by omega⟩
  unfold execOp
  simp [ho, hx, hi, Instr.index, asIntOf, run_underlying hu, h1, sizeOf, typeInfo, hie, hse, part, hagg, hk, hv]
set_option maxHeartbeats 6400000 in
theorem implRestrictScheme_c (p n m k : Int) (g cap : Nat) (qs : List (List Nat)) (a b c : Int) (w : World) (hr : Rd w (some ⟨g, 0, none⟩) qs) (hlen : qs.length ≤ 1048576) :
    Calls Try.prog 20 #[.agg #[.int .i64 p, .int .i64 n, .int .i64 m, .int .i64 k, .slice (some ⟨g, 0, none⟩) qs.length cap], .int .i64 a, .int .i64 b, .int .i64 c] w (ResS w (rsZ p n m k qs a b c p) (rsZ p n m k qs a b c a) (rsZ p n m k qs a b c b) (rsZ p n m k qs a b c c) (rsR p n m k qs a b c) (rsCode p n m k qs a b c)) := by
  have HI := Lib.hid (fun w hr => implIsScheme_c p n m k (some ⟨g, 0, none⟩) cap qs w hr hlen)
  cases hs : schemeB p n m k qs with
  | false =>
    have Hs := Lib.hid hs
    have Hcd : Hid (rsCode p n m k qs a b c = 1) := Lib.hid (by unfold rsCode; rw [hs]; rfl)
    have Hz : Hid (∀ x, rsZ p n m k qs a b c x = 0) := Lib.hid (fun x => by simp [rsZ, Hcd.out])
    have Hr : Hid (rsR p n m k qs a b c = []) := Lib.hid (by simp [rsR, Hcd.out])
    clear hs
    go_enter Try.func20, Try.ntmps20
    go_wp2_with (first | (refine wpList_abs2 ?_; intro W hsz hB h0 h1) | (refine wpList_load_all rfl 28 _ rfl w.heap.size rfl _ _ _ h0 Try.underlying28 rfl 5 (by kernel_rfl) rfl ?_))
    refine (HI.out _ (hr.keep hB)).mono ?_
    rintro e w1 ⟨rfl, b1⟩
    rw [Hs.out]
    replace h1 := h1.after b1
    replace hB := below_after hB b1
    clear b1 hsz h0
    go_wp2_with (refine wpList_store_all rfl 28 _ _ rfl rfl (w.heap.size + 1) rfl _ rfl _ _ h1 5 (by kernel_rfl) rfl rfl (by simp [Value.oneCell']) ?_; intro W2 p2)
    refine bodyPost_ret (results_at2 rfl _ _ (w.heap.size + 1) _ _ _ rfl _ rfl p2.at_ Try.underlying28 rfl 5 (by kernel_rfl) rfl) rfl ?_
    exact ⟨.slice none 0 0, by rw [Hz.out, Hz.out, Hz.out, Hz.out, Hcd.out]; rfl, by rw [Hr.out]; exact Own.nil _ _, p2.below hB (by omega)⟩
  | true =>
    have Hs := Lib.hid hs
    clear hs
    go_enter Try.func20, Try.ntmps20
    go_wp2_with (first | (refine wpList_abs2 ?_; intro W hsz hB h0 h1) | (refine wpList_load_all rfl 28 _ rfl w.heap.size rfl _ _ _ h0 Try.underlying28 rfl 5 (by kernel_rfl) rfl ?_))
    refine (HI.out _ (hr.keep hB)).mono ?_
    rintro e w1 ⟨rfl, b1⟩
    rw [Hs.out]
    have z1 : w.heap.size + 1 + 1 ≤ w1.heap.size := size_after (Nat.le_of_eq hsz.symm) b1
    replace h0 := h0.after b1
    replace h1 := h1.after b1
    replace hB := below_after hB b1
    clear b1 hsz
    have bt := below1 w1 (.cells #[.int .i64 a, .int .i64 b, .int .i64 c] 53 (0, 0))
    have ht := al1_0 w1 (.cells #[.int .i64 a, .int .i64 b, .int .i64 c] 53 (0, 0))
    replace h0 := h0.after bt
    replace h1 := h1.after bt
    replace hB := below_after hB bt
    clear bt
    go_wp2_with (refine wpList_load_all rfl 28 _ rfl w.heap.size rfl _ _ _ h0 Try.underlying28 rfl 5 (by kernel_rfl) rfl ?_)
    refine (sizesOf_c p n m k _ _).mono ?_
    rintro e w2 ⟨rfl, b1⟩
    replace h0 := h0.after b1
    replace h1 := h1.after b1
    replace ht := At.after ht b1
    replace hB := below_after hB b1
    clear b1
    generalize w1.heap.size = gt at *
    go_wp2_with fail
    go_loopw [23] (fun i wr => Below w.heap.size w wr ∧ At wr w.heap.size (.cells #[.int .i64 p, .int .i64 n, .int .i64 m, .int .i64 k, .slice (some ⟨g, 0, none⟩) qs.length cap] 28 (0, 0)) ∧ At wr (w.heap.size + 1) (.cells #[.int .i64 0, .int .i64 0, .int .i64 0, .int .i64 0, .slice none 0 0] 28 (0, 0)) ∧ At wr gt (.cells #[.int .i64 a, .int .i64 b, .int .i64 c] 53 (0, 0)) ∧ (i = .int .i64 0 ∨ (i = .int .i64 1 ∧ inR a n = true) ∨ (i = .int .i64 2 ∧ inR a n = true ∧ inR b m = true) ∨ (i = .int .i64 3 ∧ inR a n = true ∧ inR b m = true ∧ inR c k = true))) (fun i _ => 3 - (intOf i).toNat)
    case atStart => exact ⟨hB, h0, h1, ht, .inl rfl⟩
    case round =>
      clear hB h0 h1 ht
      obtain ⟨hB, h0, h1, ht, rfl | ⟨rfl, hin⟩ | ⟨rfl, hin⟩ | ⟨rfl, hin⟩⟩ := hrel
      ·
        have ct : wr.cell? ⟨gt, 0, none⟩ = some (.int .i64 a) := ht.at_ 0
        have l1 := h1.lt
        have HX : Hid (∀ {o : Oper} {a : Act} {w : World} (x i : Operand), o.op = .index 53 x i → a.eval x = .agg #[.int .i64 n, .int .i64 m, .int .i64 k] → a.eval i = .int .i64 0 → (execOp a.eval o).run Try.prog w = .ok (.value (.int .i64 n)) w) := Lib.hid (fun x i ho hx hi => exec_index_val 53 2 x i ho 3 0 _ _ hx hi Try.underlying53 _ Try.underlying2 rfl (by kernel_rfl) (by omega) rfl)
        by_cases d1 : a < 1
        · have hi : inR a n = false := by simp [inR]; omega
          have Hcd : Hid (rsCode p n m k qs a b c = 2) := Lib.hid (by unfold rsCode; rw [Hs.out, hi]; simp)
          have Hz : Hid (∀ x, rsZ p n m k qs a b c x = 0) := Lib.hid (fun x => by simp [rsZ, Hcd.out])
          have Hr : Hid (rsR p n m k qs a b c = []) := Lib.hid (by simp [rsR, Hcd.out])
          have dd : decide (a < 1) = true := by simp; omega
          clear hi d1
          go_wp2_with (first | (refine wpList_of_exec rfl (HX.out _ _ rfl rfl rfl) ?_) | (refine wpList_store_all rfl 28 _ _ rfl rfl (w.heap.size + 1) rfl _ rfl _ _ h1 5 (by kernel_rfl) rfl rfl (by simp [Value.oneCell']) ?_; intro W2 p2))
          refine bodyPost_ret (results_at2 rfl _ _ (w.heap.size + 1) _ _ _ rfl _ rfl p2.at_ Try.underlying28 rfl 5 (by kernel_rfl) rfl) rfl ?_
          exact ⟨.slice none 0 0, by rw [Hz.out, Hz.out, Hz.out, Hz.out, Hcd.out]; rfl, by rw [Hr.out]; exact Own.nil _ _, p2.below hB (by omega)⟩
        · have dd : decide (a < 1) = false := by simp; omega
          by_cases d2 : n < a
          · have hi : inR a n = false := by simp [inR]; omega
            have Hcd : Hid (rsCode p n m k qs a b c = 2) := Lib.hid (by unfold rsCode; rw [Hs.out, hi]; simp)
            have Hz : Hid (∀ x, rsZ p n m k qs a b c x = 0) := Lib.hid (fun x => by simp [rsZ, Hcd.out])
            have Hr : Hid (rsR p n m k qs a b c = []) := Lib.hid (by simp [rsR, Hcd.out])
            have dd2 : decide (n < a) = true := by simp; omega
            clear hi d1 d2
            go_wp2_with (first | (refine wpList_of_exec rfl (HX.out _ _ rfl rfl rfl) ?_) | (refine wpList_store_all rfl 28 _ _ rfl rfl (w.heap.size + 1) rfl _ rfl _ _ h1 5 (by kernel_rfl) rfl rfl (by simp [Value.oneCell']) ?_; intro W2 p2))
            refine bodyPost_ret (results_at2 rfl _ _ (w.heap.size + 1) _ _ _ rfl _ rfl p2.at_ Try.underlying28 rfl 5 (by kernel_rfl) rfl) rfl ?_
            exact ⟨.slice none 0 0, by rw [Hz.out, Hz.out, Hz.out, Hz.out, Hcd.out]; rfl, by rw [Hr.out]; exact Own.nil _ _, p2.below hB (by omega)⟩
          · have hi : inR a n = true := by simp [inR]; omega
            have dd2 : decide (n < a) = false := by simp; omega
            clear d1 d2
            go_wp2_with (refine wpList_of_exec rfl (HX.out _ _ rfl rfl rfl) ?_)
            go_roundw
            case rel => exact ⟨hB, h0, h1, ht, .inr (.inl ⟨rfl, hi⟩)⟩
            case measure => simp [intOf]
      ·
        have Hi := Lib.hid hin
        clear hin
        have ct : wr.cell? ⟨gt, 1, none⟩ = some (.int .i64 b) := ht.at_ 1
        have l1 := h1.lt
        have HX : Hid (∀ {o : Oper} {a : Act} {w : World} (x i : Operand), o.op = .index 53 x i → a.eval x = .agg #[.int .i64 n, .int .i64 m, .int .i64 k] → a.eval i = .int .i64 1 → (execOp a.eval o).run Try.prog w = .ok (.value (.int .i64 m)) w) := Lib.hid (fun x i ho hx hi => exec_index_val 53 2 x i ho 3 1 _ _ hx hi Try.underlying53 _ Try.underlying2 rfl (by kernel_rfl) (by omega) rfl)
        by_cases d1 : b < 1
        · have hi : inR b m = false := by simp [inR]; omega
          have Hcd : Hid (rsCode p n m k qs a b c = 2) := Lib.hid (by unfold rsCode; rw [Hs.out, Hi.out, hi]; simp)
          have Hz : Hid (∀ x, rsZ p n m k qs a b c x = 0) := Lib.hid (fun x => by simp [rsZ, Hcd.out])
          have Hr : Hid (rsR p n m k qs a b c = []) := Lib.hid (by simp [rsR, Hcd.out])
          have dd : decide (b < 1) = true := by simp; omega
          clear hi d1
          go_wp2_with (first | (refine wpList_of_exec rfl (HX.out _ _ rfl rfl rfl) ?_) | (refine wpList_store_all rfl 28 _ _ rfl rfl (w.heap.size + 1) rfl _ rfl _ _ h1 5 (by kernel_rfl) rfl rfl (by simp [Value.oneCell']) ?_; intro W2 p2))
          refine bodyPost_ret (results_at2 rfl _ _ (w.heap.size + 1) _ _ _ rfl _ rfl p2.at_ Try.underlying28 rfl 5 (by kernel_rfl) rfl) rfl ?_
          exact ⟨.slice none 0 0, by rw [Hz.out, Hz.out, Hz.out, Hz.out, Hcd.out]; rfl, by rw [Hr.out]; exact Own.nil _ _, p2.below hB (by omega)⟩
        · have dd : decide (b < 1) = false := by simp; omega
          by_cases d2 : m < b
          · have hi : inR b m = false := by simp [inR]; omega
            have Hcd : Hid (rsCode p n m k qs a b c = 2) := Lib.hid (by unfold rsCode; rw [Hs.out, Hi.out, hi]; simp)
            have Hz : Hid (∀ x, rsZ p n m k qs a b c x = 0) := Lib.hid (fun x => by simp [rsZ, Hcd.out])
            have Hr : Hid (rsR p n m k qs a b c = []) := Lib.hid (by simp [rsR, Hcd.out])
            have dd2 : decide (m < b) = true := by simp; omega
            clear hi d1 d2
            go_wp2_with (first | (refine wpList_of_exec rfl (HX.out _ _ rfl rfl rfl) ?_) | (refine wpList_store_all rfl 28 _ _ rfl rfl (w.heap.size + 1) rfl _ rfl _ _ h1 5 (by kernel_rfl) rfl rfl (by simp [Value.oneCell']) ?_; intro W2 p2))
            refine bodyPost_ret (results_at2 rfl _ _ (w.heap.size + 1) _ _ _ rfl _ rfl p2.at_ Try.underlying28 rfl 5 (by kernel_rfl) rfl) rfl ?_
            exact ⟨.slice none 0 0, by rw [Hz.out, Hz.out, Hz.out, Hz.out, Hcd.out]; rfl, by rw [Hr.out]; exact Own.nil _ _, p2.below hB (by omega)⟩
          · have hi : inR b m = true := by simp [inR]; omega
            have dd2 : decide (m < b) = false := by simp; omega
            clear d1 d2
            go_wp2_with (refine wpList_of_exec rfl (HX.out _ _ rfl rfl rfl) ?_)
            go_roundw
            case rel => exact ⟨hB, h0, h1, ht, .inr (.inr (.inl ⟨rfl, Hi.out, hi⟩))⟩
            case measure => simp [intOf]
      ·
        have Hi := Lib.hid hin
        clear hin
        have ct : wr.cell? ⟨gt, 2, none⟩ = some (.int .i64 c) := ht.at_ 2
        have l1 := h1.lt
        have HX : Hid (∀ {o : Oper} {a : Act} {w : World} (x i : Operand), o.op = .index 53 x i → a.eval x = .agg #[.int .i64 n, .int .i64 m, .int .i64 k] → a.eval i = .int .i64 2 → (execOp a.eval o).run Try.prog w = .ok (.value (.int .i64 k)) w) := Lib.hid (fun x i ho hx hi => exec_index_val 53 2 x i ho 3 2 _ _ hx hi Try.underlying53 _ Try.underlying2 rfl (by kernel_rfl) (by omega) rfl)
        by_cases d1 : c < 1
        · have hi : inR c k = false := by simp [inR]; omega
          have Hcd : Hid (rsCode p n m k qs a b c = 2) := Lib.hid (by unfold rsCode; rw [Hs.out, Hi.out.1, Hi.out.2, hi]; simp)
          have Hz : Hid (∀ x, rsZ p n m k qs a b c x = 0) := Lib.hid (fun x => by simp [rsZ, Hcd.out])
          have Hr : Hid (rsR p n m k qs a b c = []) := Lib.hid (by simp [rsR, Hcd.out])
          have dd : decide (c < 1) = true := by simp; omega
          clear hi d1
          go_wp2_with (first | (refine wpList_of_exec rfl (HX.out _ _ rfl rfl rfl) ?_) | (refine wpList_store_all rfl 28 _ _ rfl rfl (w.heap.size + 1) rfl _ rfl _ _ h1 5 (by kernel_rfl) rfl rfl (by simp [Value.oneCell']) ?_; intro W2 p2))
          refine bodyPost_ret (results_at2 rfl _ _ (w.heap.size + 1) _ _ _ rfl _ rfl p2.at_ Try.underlying28 rfl 5 (by kernel_rfl) rfl) rfl ?_
          exact ⟨.slice none 0 0, by rw [Hz.out, Hz.out, Hz.out, Hz.out, Hcd.out]; rfl, by rw [Hr.out]; exact Own.nil _ _, p2.below hB (by omega)⟩
        · have dd : decide (c < 1) = false := by simp; omega
          by_cases d2 : k < c
          · have hi : inR c k = false := by simp [inR]; omega
            have Hcd : Hid (rsCode p n m k qs a b c = 2) := Lib.hid (by unfold rsCode; rw [Hs.out, Hi.out.1, Hi.out.2, hi]; simp)
            have Hz : Hid (∀ x, rsZ p n m k qs a b c x = 0) := Lib.hid (fun x => by simp [rsZ, Hcd.out])
            have Hr : Hid (rsR p n m k qs a b c = []) := Lib.hid (by simp [rsR, Hcd.out])
            have dd2 : decide (k < c) = true := by simp; omega
            clear hi d1 d2
            go_wp2_with (first | (refine wpList_of_exec rfl (HX.out _ _ rfl rfl rfl) ?_) | (refine wpList_store_all rfl 28 _ _ rfl rfl (w.heap.size + 1) rfl _ rfl _ _ h1 5 (by kernel_rfl) rfl rfl (by simp [Value.oneCell']) ?_; intro W2 p2))
            refine bodyPost_ret (results_at2 rfl _ _ (w.heap.size + 1) _ _ _ rfl _ rfl p2.at_ Try.underlying28 rfl 5 (by kernel_rfl) rfl) rfl ?_
            exact ⟨.slice none 0 0, by rw [Hz.out, Hz.out, Hz.out, Hz.out, Hcd.out]; rfl, by rw [Hr.out]; exact Own.nil _ _, p2.below hB (by omega)⟩
          · have hi : inR c k = true := by simp [inR]; omega
            have dd2 : decide (k < c) = false := by simp; omega
            clear d1 d2
            go_wp2_with (refine wpList_of_exec rfl (HX.out _ _ rfl rfl rfl) ?_)
            go_roundw
            case rel => exact ⟨hB, h0, h1, ht, .inr (.inr (.inr ⟨rfl, Hi.out.1, Hi.out.2, hi⟩))⟩
            case measure => simp [intOf]
      · have Hcd : Hid (rsCode p n m k qs a b c = 0) := Lib.hid (by unfold rsCode; rw [Hs.out, hin.1, hin.2.1, hin.2.2]; rfl)
        have Hz : Hid (∀ x, rsZ p n m k qs a b c x = x) := Lib.hid (fun x => by simp [rsZ, Hcd.out])
        have HRg := rsR_good (p := p) (n := n) (m := m) (k := k) (a := a) (b := b) (c := c) hr.good hlen
        obtain ⟨R, HR⟩ : ∃ R, Hid (rsR p n m k qs a b c = R) := ⟨_, Lib.hid rfl⟩
        rw [HR.out] at HRg
        have HRb := Lib.hid HRg.1
        have HM : Hid (∀ w, Rd w (some ⟨g, 0, none⟩) qs → Calls Try.prog 37 #[.agg #[.int .i64 p, .int .i64 n, .int .i64 m, .int .i64 k, .slice (some ⟨g, 0, none⟩) qs.length cap], .agg #[.int .i64 a, .int .i64 b, .int .i64 c], .agg #[.int .i64 0, .int .i64 0, .int .i64 0]] w fun e w' => ∃ v, e = .returned v ∧ Own w' w.heap.size v R ∧ Below w.heap.size w w') := Lib.hid (fun w hr => by
          have hR := HR.out
          unfold rsR at hR
          rw [if_pos Hcd.out] at hR
          obtain ⟨N, M, K, x, y, z, rfl, rfl, rfl, rfl, rfl, rfl, hs, h1, h2, h3, h4, h5, h6⟩ := rs_cases Hcd.out
          simp only [Int.toNat_natCast] at hR
          rw [← hR]
          exact movedProducts_c p N M K x y z 0 0 0 (some ⟨g, 0, none⟩) cap qs w hr hs h1 h2 h3 ⟨h4.1, by omega⟩ ⟨h5.1, by omega⟩ ⟨h6.1, by omega⟩ (by omega) (by omega) (by omega))
        have l1 := h1.lt
        clear HRg hin
        go_wp2_with fail
        refine wp_region_held (S := fun w' => At w' w.heap.size (.cells #[.int .i64 p, .int .i64 n, .int .i64 m, .int .i64 k, .slice (some ⟨g, 0, none⟩) qs.length cap] 28 (0, 0)) ∧ At w' gt (.cells #[.int .i64 a, .int .i64 b, .int .i64 c] 53 (0, 0))) (by kernel_rfl) ?_
        change wpAnyH _ _ _ _ _ _ _ _ (World.drew _)
        generalize hwdc : World.drew _ = wdc
        replace hB : Below w.heap.size w wdc := by rw [← hwdc]; exact hB.drew
        replace h0 : At wdc w.heap.size (.cells #[.int .i64 p, .int .i64 n, .int .i64 m, .int .i64 k, .slice (some ⟨g, 0, none⟩) qs.length cap] 28 (0, 0)) := by rw [← hwdc]; exact h0
        replace h1 : At wdc (w.heap.size + 1) (.cells #[.int .i64 0, .int .i64 0, .int .i64 0, .int .i64 0, .slice none 0 0] 28 (0, 0)) := by rw [← hwdc]; exact h1
        replace ht : At wdc gt (.cells #[.int .i64 a, .int .i64 b, .int .i64 c] 53 (0, 0)) := by rw [← hwdc]; exact ht
        clear hwdc
        refine held_yield 0 (some 40) (.pointer (some ⟨w.heap.size, 0, none⟩)) rfl (by kernel_rfl) (by kernel_rfl) (by kernel_rfl) (fun _ _ _ h => h) rfl rfl ⟨h0, ht⟩ (fun w' h' => exec_fieldAddr 28 _ 0 rfl _ (by kernel_rfl)) ?_
        go_frame
        refine held_yield 1 (some 41) (.int .i64 p) rfl (by kernel_rfl) (by kernel_rfl) (by kernel_rfl) (fun _ _ _ h => h) rfl rfl ⟨h0, ht⟩ (fun w' h' => exec_load_one 2 _ rfl w.heap.size 0 rfl _ _ Try.underlying2 rfl (h'.1.at_ 0)) ?_
        go_frame
        refine held_yield 2 (some 42) (.agg #[.int .i64 a, .int .i64 b, .int .i64 c]) rfl (by kernel_rfl) (by kernel_rfl) (by kernel_rfl) (fun _ _ _ h => h) rfl rfl ⟨h0, ht⟩ (fun w' h' => exec_load_all 53 _ rfl gt rfl _ _ _ h'.2 Try.underlying53 rfl 3 (by kernel_rfl) rfl) ?_
        go_frame
        refine held_yield 3 (some 43) (.agg #[.int .i64 p, .int .i64 n, .int .i64 m, .int .i64 k, .slice (some ⟨g, 0, none⟩) qs.length cap]) rfl (by kernel_rfl) (by kernel_rfl) (by kernel_rfl) (fun _ _ _ h => h) rfl rfl ⟨h0, ht⟩ (fun w' h' => exec_load_all 28 _ rfl w.heap.size rfl _ _ _ h'.1 Try.underlying28 rfl 5 (by kernel_rfl) rfl) ?_
        go_frame
        refine held_yield 4 (some 44) (.agg #[.int .i64 a, .int .i64 b, .int .i64 c]) rfl (by kernel_rfl) (by kernel_rfl) (by kernel_rfl) (fun _ _ _ h => h) rfl rfl ⟨h0, ht⟩ (fun w' h' => exec_load_all 53 _ rfl gt rfl _ _ _ h'.2 Try.underlying53 rfl 3 (by kernel_rfl) rfl) ?_
        go_frame
        refine held_yield 5 (some 45) (.agg #[.int .i64 0, .int .i64 0, .int .i64 0]) rfl (by kernel_rfl) (by kernel_rfl) (by kernel_rfl) (fun _ _ _ h => h) rfl rfl ⟨h0, ht⟩ (fun w' h' => exec_build_nil 53 rfl _ (by kernel_rfl)) ?_
        go_frame
        refine held_oper 6 (by kernel_rfl) rfl rfl (fun K' hK' => ?_)
        have hs1 := hB.size
        refine wp_call3 (some 46) rfl 37 _ _ _ _ rfl (fun args w => by kernel_rfl) _ _ _ rfl rfl rfl _ (HM.out _ (hr.keep hB)) (fun e wnc1 h => ?_)
        obtain ⟨v, rfl, ho, bc2⟩ := h
        replace hB := below_after hB bc2
        replace h0 := h0.after bc2
        replace h1 := h1.after bc2
        replace ht := ht.after bc2
        replace ho := ho.mono hs1
        obtain ⟨A1, c1, rfl, _⟩ := ho.rd HRb.out
        clear bc2
        refine ⟨_, rfl, hK' _ _ ⟨h0, ht⟩ ?_⟩
        clear hK' K'
        go_frame
        refine held_oper 7 (by kernel_rfl) rfl rfl (fun K' hK' => ?_)
        refine wp_call3 (some 47) rfl 36 _ _ _ _ rfl (fun args w => by kernel_rfl) _ _ _ rfl rfl rfl _ (schemeFor_c p a b c A1 R.length c1 _) (fun e wnc3 h => ?_)
        obtain ⟨rfl, bc4⟩ := h
        replace hB := below_after hB bc4
        replace h0 := h0.after bc4
        replace h1 := h1.after bc4
        replace ht := ht.after bc4
        replace ho := ho.below bc4
        clear bc4
        refine ⟨_, rfl, hK' _ _ ⟨h0, ht⟩ ?_⟩
        clear hK' K'
        go_frame
        refine held_oper 8 (by kernel_rfl) rfl rfl (fun K' hK' => ?_)
        have n1 := ho.off h1 (by decide)
        refine wp_store_all 28 _ _ rfl rfl (w.heap.size + 1) rfl _ rfl _ _ h1 5 (by kernel_rfl) rfl rfl (one5 _ _ _ _ _ _ _) (fun wsc5 pc6 => ?_)
        replace hB := pc6.below hB (by omega)
        replace h0 := pc6.other h0 (by omega)
        replace ht := pc6.other ht (by omega)
        replace ho := ho.put pc6 n1
        replace h1 := pc6.at_
        clear pc6
        refine hK' _ _ ⟨h0, ht⟩ ?_
        clear hK' K'
        refine held_yield 9 (some 9) (.int .i64 0) rfl (by kernel_rfl) (by kernel_rfl) (by kernel_rfl) (fun _ _ _ h => h) rfl rfl ⟨h0, ht⟩ (fun w' h' => exec_assign _ rfl (.int .i64 0) rfl) ?_
        go_frame
        refine wpAnyH_done (by kernel_rfl) ?_ _
        go_wp2_with fail
        refine bodyPost_ret (results_at2 rfl _ _ (w.heap.size + 1) _ _ _ rfl _ rfl h1 Try.underlying28 rfl 5 (by kernel_rfl) rfl) rfl ?_
        exact ⟨_, by rw [Hz.out, Hz.out, Hz.out, Hz.out, Hcd.out]; rfl, by rw [HR.out]; exact ho, hB⟩
end Go.Proofs.Ytelicajipilhjaa
