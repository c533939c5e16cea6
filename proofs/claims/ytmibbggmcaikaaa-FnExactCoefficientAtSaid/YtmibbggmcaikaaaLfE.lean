/-
  Left and right sides of equations: Right1, Right2, Left1, Left2 in one. (Made by mklfe.py.)
-/
import Derived.Test.YtmibbggmcaikaaaImplIs
import Derived.BigRegion
namespace Go.Proofs.Ytmibbggmcaikaaa
section
open Go.RowKit
set_option maxRecDepth 100000
def inB (a N : Int) : Bool := decide (0 ≤ a) && decide (a < N)
def wantI (m k a b c : Int) : Int := if a % m = b / k ∧ a / m = c / k ∧ b % k = c % k then 1 else 0
theorem isIndex_c (a N : Int) (w : World) : Calls Try.prog 38 #[.int .i64 a, .int .i64 N] w fun e w' => e = .returned (.bool (inB a N)) ∧ w = w' := by
  by_cases h : 0 ≤ a
  · have Hr : Hid (inB a N = decide (a < N)) := Lib.hid (by simp [inB, h])
    have h1 : decide (0 ≤ a) = true := by simp [h]
    go_enter Try.func38, Try.ntmps38
    go_wp2_with fail
    go_ret
    exact ⟨by rw [Hr.out]; rfl, rfl⟩
  · have Hr : Hid (inB a N = false) := Lib.hid (by simp [inB, h])
    have h1 : decide (0 ≤ a) = false := by simp [h]
    go_enter Try.func38, Try.ntmps38
    go_wp2_with fail
    go_ret
    exact ⟨by rw [Hr.out]; rfl, rfl⟩
def unitL (j : Nat) : List Nat := (List.replicate 9 0).set j 1
theorem unitL_len (j : Nat) : (unitL j).length = 9 := by simp [unitL]
def rightL (m k a b : Int) : List Nat := if a % m = b / k then unitL (a / m * k + b % k).toNat else List.replicate 9 0
theorem place_bounds {n m k a b : Int} (hn : 1 ≤ n ∧ n ≤ 3) (hm : 1 ≤ m ∧ m ≤ 3) (hk : 1 ≤ k ∧ k ≤ 3) (ha : 0 ≤ a ∧ a < n * m) : 0 ≤ a / m * k ∧ a / m * k ≤ 6 ∧ 0 ≤ a / m * k + b % k ∧ a / m * k + b % k < 9 := by
  have hn' : n = 1 ∨ n = 2 ∨ n = 3 := by omega
  have hm' : m = 1 ∨ m = 2 ∨ m = 3 := by omega
  have hk' : k = 1 ∨ k = 2 ∨ k = 3 := by omega
  rcases hn' with rfl | rfl | rfl <;> rcases hm' with rfl | rfl | rfl <;> rcases hk' with rfl | rfl | rfl <;> omega
end
section
open Go.RowKit
set_option maxRecDepth 100000
def eqnB (n m k a b c : Int) : Bool := inB a (n * m) && inB b (m * k) && inB c (n * k)
def codeI (p n m k : Int) (qs : List (List Nat)) (a b c : Int) : Int := if schemeB p n m k qs then (if eqnB n m k a b c then 0 else 2) else 1
theorem inB_le (a N : Int) : (decide (0 ≤ a) && decide (a ≤ N - 1)) = inB a N := by
  unfold inB
  congr 1
  simp only [decide_eq_decide]
  omega
theorem l01In_ix (a N : Int) (w : World) : Calls Try.prog 26 #[.int .i64 a, .int .i64 0, .int .i64 (N - 1)] w fun e w' => e = .returned (.bool (inB a N)) ∧ w = w' := by
  have := l01In_c a 0 (N - 1) w
  rw [inB_le] at this
  exact this
theorem sizesB_mul {p n m k : Int} (h : sizesB p n m k = true) : (1 ≤ n * m ∧ n * m ≤ 9) ∧ (1 ≤ m * k ∧ m * k ≤ 9) ∧ 1 ≤ n * k ∧ n * k ≤ 9 := by
  obtain ⟨_, hn, hm, hk⟩ := sizesB_parts h
  simp only [sizeB, Bool.and_eq_true, decide_eq_true_eq] at hn hm hk
  exact ⟨mul_bounds hn.1 hn.2 hm.1 hm.2, mul_bounds hm.1 hm.2 hk.1 hk.2, mul_bounds hn.1 hn.2 hk.1 hk.2⟩
theorem codeI_cases (p n m k : Int) (qs : List (List Nat)) (a b c : Int) : codeI p n m k qs a b c = 1 ∨ codeI p n m k qs a b c = 2 ∨ (codeI p n m k qs a b c = 0 ∧ schemeB p n m k qs = true ∧ eqnB n m k a b c = true) := by
  unfold codeI
  cases schemeB p n m k qs <;> cases eqnB n m k a b c <;> simp
theorem sizes_bounds {p n m k : Int} (h : sizesB p n m k = true) : (1 ≤ n ∧ n ≤ 3) ∧ (1 ≤ m ∧ m ≤ 3) ∧ 1 ≤ k ∧ k ≤ 3 := by
  obtain ⟨_, hn, hm, hk⟩ := sizesB_parts h
  simp only [sizeB, Bool.and_eq_true, decide_eq_true_eq] at hn hm hk
  exact ⟨hn, hm, hk⟩
theorem eqnB_bounds {n m k a b c : Int} (h : eqnB n m k a b c = true) : (0 ≤ a ∧ a < n * m) ∧ (0 ≤ b ∧ b < m * k) ∧ 0 ≤ c ∧ c < n * k := by
  simp only [eqnB, inB, Bool.and_eq_true, decide_eq_true_eq] at h
  exact ⟨h.1.1, h.1.2, h.2⟩
def sideI (want : Int) (code : Int) : Int := if code = 0 then want else 0
set_option maxHeartbeats 800000 in
theorem isEquation_c (p n m k a b c : Int) (v : Value) (w : World) (hn : sizeB n = true) (hm : sizeB m = true) (hk : sizeB k = true) :
    Calls Try.prog 30 #[.agg #[.int .i64 p, .int .i64 n, .int .i64 m, .int .i64 k, v], .int .i64 a, .int .i64 b, .int .i64 c] w fun e w' => e = .returned (.bool (eqnB n m k a b c)) ∧ Below w.heap.size w w' := by
  have H1 := Lib.hid (fun w => places_c n m w hn hm)
  have H2 := Lib.hid (fun w => places_c m k w hm hk)
  have H3 := Lib.hid (fun w => places_c n k w hn hk)
  clear hn hm hk
  go_enter Try.func30, Try.ntmps30
  go_wp2_with (first | (refine wpList_abs1 ?_; intro W hsz hB h0) | (refine wpList_load_all rfl 36 _ rfl w.heap.size rfl _ _ _ h0 Try.underlying36 rfl 5 (by kernel_rfl) rfl ?_))
  refine (shapesOf_c p n m k v _).mono ?_
  rintro e w1 ⟨rfl, c1⟩
  replace hB := below_after hB c1
  clear c1 h0 hsz
  have lB := hB.size
  go_wp2_with (first | (refine wpList_abs1 ?_; intro W2 hsz2 hB2 s2; replace hB := below_after hB hB2) | (refine wpList_store_all rfl 90 _ _ rfl rfl w1.heap.size rfl _ rfl _ _ s2 6 (by kernel_rfl) rfl rfl (by simp [Value.oneCell']) ?_; intro W3 p3; replace hB := p3.below hB (by omega); have s3 := p3.at_) | (refine wpList_of_exec rfl (exec_load_lit 89 _ rfl w1.heap.size 0 rfl _ _ _ 2 s3 Try.underlying89 rfl (by kernel_rfl) (by simp) #[.int .i64 n, .int .i64 m] rfl) ?_))
  refine (H1.out _).mono ?_
  rintro e w4 ⟨rfl, c1⟩
  replace s3 := s3.after c1
  replace hB := below_after hB c1
  clear c1 p3 s2 hsz2 hB2
  go_wp2_with fail
  refine (isIndex_c a (n * m) _).mono ?_
  rintro e w5 ⟨rfl, rfl⟩
  cases e1 : inB a (n * m) with
  | false =>
    have He : Hid (eqnB n m k a b c = false) := Lib.hid (by simp [eqnB, e1])
    clear e1
    go_wp2_with fail
    go_ret
    exact ⟨by rw [He.out]; rfl, hB⟩
  | true =>
    have E1 := Lib.hid e1
    clear e1
    go_wp2_with (refine wpList_want_exec rfl (exec_load_lit 89 _ rfl w1.heap.size 2 rfl _ _ _ 2 s3 Try.underlying89 rfl (by kernel_rfl) (by simp) #[.int .i64 m, .int .i64 k] rfl) ?_)
    refine (H2.out _).mono ?_
    rintro e w6 ⟨rfl, c1⟩
    replace s3 := s3.after c1
    replace hB := below_after hB c1
    clear c1
    go_wp2_with fail
    refine (isIndex_c b (m * k) _).mono ?_
    rintro e w7 ⟨rfl, rfl⟩
    cases e2 : inB b (m * k) with
    | false =>
      have He : Hid (eqnB n m k a b c = false) := Lib.hid (by simp [eqnB, e2])
      clear e2
      go_wp2_with fail
      go_ret
      exact ⟨by rw [He.out]; rfl, hB⟩
    | true =>
      have E2 := Lib.hid e2
      clear e2
      go_wp2_with (refine wpList_want_exec rfl (exec_load_lit 89 _ rfl w1.heap.size 4 rfl _ _ _ 2 s3 Try.underlying89 rfl (by kernel_rfl) (by simp) #[.int .i64 n, .int .i64 k] rfl) ?_)
      refine (H3.out _).mono ?_
      rintro e w8 ⟨rfl, c1⟩
      replace hB := below_after hB c1
      clear c1 s3
      go_wp2_with fail
      refine (isIndex_c c (n * k) _).mono ?_
      rintro e w9 ⟨rfl, rfl⟩
      have He : Hid (eqnB n m k a b c = inB c (n * k)) := Lib.hid (by simp [eqnB, E1.out, E2.out])
      go_wp2_with fail
      go_ret
      exact ⟨by rw [He.out]; rfl, hB⟩
end
section
open Go.RowKit
set_option maxRecDepth 100000
def termN (q : List Nat) (a b c : Nat) : Nat := (q[a]?.getD 0) * (q[9 + b]?.getD 0) * (q[18 + c]?.getD 0)
def sumN : List (List Nat) → Nat → Nat → Nat → Nat
  | [], _, _, _ => 0
  | q :: qs, a, b, c => sumN qs a b c + termN q a b c
theorem sumN_append (xs ys : List (List Nat)) (a b c : Nat) : sumN (xs ++ ys) a b c = sumN xs a b c + sumN ys a b c := by
  induction xs with
  | nil => simp [sumN]
  | cons q xs ih => simp only [List.cons_append, sumN, ih]; omega
theorem sumN_step {qs : List (List Nat)} {j : Nat} (h : j < qs.length) (a b c : Nat) : sumN (qs.take (j + 1)) a b c = sumN (qs.take j) a b c + termN qs[j] a b c := by
  rw [List.take_succ_eq_append_getElem h, sumN_append]
  simp [sumN]
theorem mul3_le {x y z : Nat} (hx : x < 256) (hy : y < 256) (hz : z < 256) : x * y ≤ 65025 ∧ x * y * z ≤ 16581375 := by
  have h1 : x * y ≤ 255 * 255 := Nat.mul_le_mul (by omega) (by omega)
  have h2 : x * y * z ≤ 255 * 255 * 255 := Nat.mul_le_mul h1 (by omega)
  exact ⟨by omega, by omega⟩
theorem sumN_le {qs : List (List Nat)} (h : ∀ q ∈ qs, Bytes 27 q) (a b c : Nat) : sumN qs a b c ≤ qs.length * 16581375 := by
  induction qs with
  | nil => simp [sumN]
  | cons q qs ih =>
    have h1 := ih (fun x hx => h x (by simp [hx]))
    have hq := h q (by simp)
    have h2 := (mul3_le (hq.lt a) (hq.lt (9 + b)) (hq.lt (18 + c))).2
    simp only [sumN, List.length_cons, termN]
    omega
def SumRel (w : World) (p n m k : Int) (A : Option Addr) (cap : Nat) (qs : List (List Nat)) (a b c : Nat) (s i : Value) (wr : World) : Prop :=
  ∃ j : Nat, j ≤ qs.length ∧ i = .int .i64 j ∧ s = .int .i64 (sumN (qs.take j) a b c : Nat) ∧ Below w.heap.size w wr ∧ At wr w.heap.size (.cells #[.int .i64 p, .int .i64 n, .int .i64 m, .int .i64 k, .slice A qs.length cap] 36 (0, 0))
end
section
open Go.RowKit
set_option maxRecDepth 100000
attribute [local irreducible] wpStill
def sidesL (p : Nat) (qs : List (List Nat)) (a b : Nat) : List Nat := (List.range 9).map fun c => sumN qs a b c % p
theorem sidesL_bytes {p : Nat} (qs : List (List Nat)) (a b : Nat) (h0 : 0 < p) (h : p ≤ 256) : Bytes 9 (sidesL p qs a b) := by
  refine ⟨by simp [sidesL], fun n hn => ?_⟩
  obtain ⟨c, _, rfl⟩ := List.mem_map.1 hn
  have := Nat.mod_lt (sumN qs a b c) h0
  omega
theorem sidesL_get {p : Nat} (qs : List (List Nat)) (a b c : Nat) (hc : c < 9) : (sidesL p qs a b)[c]?.getD 0 = sumN qs a b c % p := by simp [sidesL, hc]
/-- The first 'c' elements of one list, the rest of another. -/
def mixL (new old : List Nat) (c : Nat) : List Nat := new.take c ++ old.drop c
theorem mixL_len {new old : List Nat} {c : Nat} (hn : new.length = 9) (ho : old.length = 9) (hc : c ≤ 9) : (mixL new old c).length = 9 := by simp [mixL, hn, ho]; omega
theorem mixL_get {new old : List Nat} {c : Nat} (hn : new.length = 9) (hc : c < 9) : (mixL new old c)[c]?.getD 0 = old[c]?.getD 0 := by
  unfold mixL
  rw [List.getElem?_append_right (by simp; omega)]
  simp [hn, Nat.min_eq_left (Nat.le_of_lt hc)]
theorem mixL_set {new old : List Nat} {c : Nat} (hn : new.length = 9) (ho : old.length = 9) (hc : c < 9) : (mixL new old c).set c (new[c]?.getD 0) = mixL new old (c + 1) := by
  unfold mixL
  have hl : (new.take c).length = c := by simp [hn]; omega
  rw [List.set_append_right _ _ (by omega), hl, Nat.sub_self, List.drop_eq_getElem_cons (by omega), List.set_cons_zero, List.take_succ_eq_append_getElem (by omega), List.append_assoc]
  simp [hn, hc]
theorem mixL_all {new old : List Nat} (hn : new.length = 9) (ho : old.length = 9) : mixL new old 9 = new := by
  rw [mixL, List.take_of_length_le (by omega), List.drop_eq_nil_of_le (by omega), List.append_nil]
theorem mixL_none (new old : List Nat) : mixL new old 0 = old := by simp [mixL]
def OuterRel (w : World) (p : Nat) (n m k : Int) (A : Option Addr) (cap : Nat) (qs : List (List Nat)) (a b : Nat) (i : Value) (wr : World) : Prop :=
  ∃ j : Nat, j ≤ qs.length ∧ i = .int .i64 j ∧ Below w.heap.size w wr ∧ At wr w.heap.size (.cells #[.int .i64 p, .int .i64 n, .int .i64 m, .int .i64 k, .slice A qs.length cap] 36 (0, 0)) ∧
    At wr (w.heap.size + 1) (.cells (u8s (List.replicate 9 0)) 56 (0, 0)) ∧ At wr (w.heap.size + 1 + 1) (.cells (u8s (sidesL p (qs.take j) a b)) 56 (0, 0))
def InnerRel (w : World) (p : Nat) (n m k : Int) (A : Option Addr) (cap : Nat) (qs : List (List Nat)) (old new : List Nat) (i : Value) (wr : World) : Prop :=
  ∃ c : Nat, c ≤ 9 ∧ i = .int .i64 c ∧ Below w.heap.size w wr ∧ At wr w.heap.size (.cells #[.int .i64 p, .int .i64 n, .int .i64 m, .int .i64 k, .slice A qs.length cap] 36 (0, 0)) ∧
    At wr (w.heap.size + 1) (.cells (u8s (List.replicate 9 0)) 56 (0, 0)) ∧ At wr (w.heap.size + 1 + 1) (.cells (u8s (mixL new old c)) 56 (0, 0))
set_option maxHeartbeats 1600000 in
theorem leftSides_c (p : Nat) (n m k : Int) (A : Option Addr) (cap : Nat) (qs : List (List Nat)) (a b : Nat) (w : World) (hp : 0 < p) (hp5 : p ≤ 5) (hr : Rd w A qs) (h30 : qs.length ≤ 1000000) (ha : a < 9) (hb : b < 9) :
    Calls Try.prog 33 #[.agg #[.int .i64 p, .int .i64 n, .int .i64 m, .int .i64 k, .slice A qs.length cap], .int .i64 a, .int .i64 b] w fun e w' => e = .returned (.agg (u8s (sidesL p qs a b))) ∧ Below w.heap.size w w' := by
  go_enter Try.func33, Try.ntmps33
  go_wp2_with fail
  go_loopw [16] (fun i wr => OuterRel w p n m k A cap qs a b i wr) (fun i _ => qs.length - (intOf i).toNat)
  case atStart => exact ⟨0, by omega, rfl, below3 _ _ _ _, al3_0 _ _ _ _, al3_1 _ _ _ _, al3_2 _ _ _ _⟩
  case round =>
    obtain ⟨j, hj, rfl, hB, h0, h1, h2⟩ := hrel
    by_cases hlt : j < qs.length
    · obtain ⟨bb, off, hA0, hcs⟩ := (hr.keep hB).at_ hlt
      have g1 := hr.good qs[j] (List.getElem_mem hlt)
      have Hc := Lib.hid hcs
      clear hcs
      subst hA0
      have lB := hB.size
      have l2 := h2.lt
      have ho := (sidesL_bytes (p := p) (qs.take j) a b hp (by omega)).len
      have hn9 := (sidesL_bytes (p := p) (qs.take (j + 1)) a b hp (by omega)).len
      have hmod : ∀ c, c < 9 → (sidesL p (qs.take (j + 1)) a b)[c]?.getD 0 = ((sidesL p (qs.take j) a b)[c]?.getD 0 + termN qs[j] a b c) % p := fun c hc => by
        rw [sidesL_get _ _ _ _ hc, sidesL_get _ _ _ _ hc, sumN_step hlt, Nat.mod_add_mod]
      have hob := (sidesL_bytes (p := p) (qs.take j) a b hp (by omega))
      generalize hnw : sidesL p (qs.take (j + 1)) a b = new at *
      have Hnw := Lib.hid hnw
      clear hnw
      generalize sidesL p (qs.take j) a b = old at *
      have Hmod := Lib.hid hmod
      have Ho := Lib.hid ho
      have Hn9 := Lib.hid hn9
      clear hmod ho hn9
      go_wp2_with (first | (refine wpList_load_cells rfl 68 _ rfl bb (off + j * 27) rfl qs[j] _ 27 Hc.out Try.underlying68 rfl (by kernel_rfl) g1.len ?_) | (refine wpList_abs1 ?_; intro W2 hsz2 hB2 s2; replace s2 : At W2 wr.heap.size (.cells (u8s (List.replicate 27 0)) 68 (0, 0)) := s2; replace h0 := h0.after hB2; replace h1 := h1.after hB2; replace h2 := h2.after hB2; replace hB := below_after hB hB2) | (refine wpList_store_u8s rfl 68 _ _ rfl rfl wr.heap.size 0 rfl _ rfl _ _ s2 27 (by kernel_rfl) g1.len (by simp) ?_; intro W3 p3; replace h0 := p3.other h0 (by omega); replace h1 := p3.other h1 (by omega); replace h2 := p3.other h2 (by omega); replace hB := p3.below hB (by omega); have s3 := p3.at_; rw [over_all (by rw [g1.len]; simp)] at s3))
      have x0 := s3.cell (i := a) (by rw [g1.len]; omega)
      have y0 := s3.cell (i := 9 + b) (by rw [g1.len]; omega)
      have hx := g1.lt a
      have hy := g1.lt (9 + b)
      have Ht : ∀ c, termN qs[j] a b c = qs[j][a]?.getD 0 * qs[j][9 + b]?.getD 0 * qs[j][18 + c]?.getD 0 := fun c => rfl
      generalize qs[j][a]?.getD 0 = x at *
      generalize qs[j][9 + b]?.getD 0 = y at *
      have HT := Lib.hid Ht
      clear Ht
      have e1 : IntKind.i64.wrap ((x : Int) * (y : Int)) = (x : Int) * (y : Int) := IntWalk.i64_in _ (by have := (mul3_le hx hy hx).1; rw [← Int.natCast_mul]; omega)
      go_quiet (fail)
      replace h0 := h0.drewN nq
      replace h1 := h1.drewN nq
      replace h2 := h2.drewN nq
      replace hB := below_drawn hB nq
      replace s3 := s3.drewN nq
      generalize W3.drewN nq = W4 at *
      go_wp2_with (refine wpList_load_u8s rfl 56 _ rfl wr.heap.size 18 rfl _ qs[j] _ 9 s3 Try.underlying56 rfl (by kernel_rfl) (by rw [g1.len]; omega) ?_)
      clear hsz2 hB2 s2 p3 x0 y0 lB l2
      have hseg := segm_bytes (a := 18) (n := 9) g1 (by omega)
      go_wp2_with fail
      go_loopw [33] (fun i wr => InnerRel w p n m k (some ⟨bb, off, none⟩) cap qs old new i wr) (fun i _ => 9 - (intOf i).toNat)
      case atStart => exact ⟨0, by omega, rfl, hB, h0, h1, by rw [mixL_none]; exact h2⟩
      case round =>
        clear hB h0 h1 h2 s3
        obtain ⟨c, hc, rfl, hB, h0, h1, h2⟩ := hrel
        by_cases hc9 : c < 9
        · have hz := hseg.lt c
          have hzq : (segm qs[j] 18 9)[c]?.getD 0 = qs[j][18 + c]?.getD 0 := by
            unfold segm
            rw [List.getElem?_take, if_pos hc9, List.getElem?_drop]
          have hv := hob.lt c
          have v0 := h2.cell (i := c) (by rw [mixL_len Hn9.out Ho.out hc]; exact hc9)
          rw [mixL_get Hn9.out hc9] at v0
          have f0 := h2.free c
          have k0 : wr.cell? ⟨w.heap.size, 0, none⟩ = some (.int .i64 p) := h0.at_ 0
          have Hnew : Hid (new[c]?.getD 0 = (old[c]?.getD 0 + x * y * (segm qs[j] 18 9)[c]?.getD 0) % p) := Lib.hid (by rw [Hmod.out c hc9, HT.out, hzq])
          clear hzq
          go_wp2_with (refine wpList_of_exec rfl (exec_index_u8s 56 5 _ _ rfl 9 c (segm qs[j] 18 9) rfl rfl Try.underlying56 Try.underlying5 (by kernel_rfl) hseg.len hc9) ?_)
          generalize (segm qs[j] 18 9)[c]?.getD 0 = z at *
          generalize old[c]?.getD 0 = vv at *
          obtain ⟨m1, m2⟩ := mul3_le hx hy hz
          have e2 : IntKind.i64.wrap ((x : Int) * (y : Int) * (z : Int)) = (x : Int) * (y : Int) * (z : Int) := IntWalk.i64_in _ (by rw [← Int.natCast_mul, ← Int.natCast_mul]; omega)
          have e3 : IntKind.i64.wrap ((vv : Int) + (x : Int) * (y : Int) * (z : Int)) = (vv : Int) + (x : Int) * (y : Int) * (z : Int) := IntWalk.i64_in _ (by rw [← Int.natCast_mul, ← Int.natCast_mul]; omega)
          have zp : ((p : Int) == 0) = false := by simp; omega
          have hval : ((vv : Int) + (x : Int) * (y : Int) * (z : Int)).tmod (p : Int) % 256 = ((new[c]?.getD 0 : Nat) : Int) := by
            rw [Hnew.out, ← Int.natCast_mul, ← Int.natCast_mul, ← Int.natCast_add, ← Int.ofNat_tmod]
            have := Nat.mod_lt (vv + x * y * z) hp
            omega
          have Hval := Lib.hid hval
          clear hval
          go_region
          go_wp2_with fail
          rw [Hval.out]
          have pp := Put.set (i := c) h2 (new[c]?.getD 0)
          rw [mixL_set Hn9.out Ho.out hc9] at pp
          exact ⟨⟨c + 1, by omega, by go_num, (pp.below hB (by omega)).drew, (pp.other h0 (by omega)).drewN 1, (pp.other h1 (by omega)).drewN 1, pp.at_.drewN 1⟩, by simp [intOf]; omega⟩
        · obtain rfl : c = 9 := by omega
          rw [mixL_all Hn9.out Ho.out] at h2
          go_wp2_with fail
          exact ⟨⟨j + 1, by omega, by go_num, hB, h0, h1, by rw [Hnw.out]; exact h2⟩, by simp [intOf]; omega⟩
    · obtain rfl : j = qs.length := by omega
      rw [List.take_length] at h2
      have hbs := (sidesL_bytes (p := p) qs a b hp (by omega)).len
      go_wp2_with (first | (refine wpList_load_all rfl 56 _ rfl (w.heap.size + 1 + 1) rfl _ _ _ h2 Try.underlying56 rfl 9 (by kernel_rfl) ((u8s_size _).trans hbs) ?_) | (refine wpList_store_u8s rfl 56 _ _ rfl rfl (w.heap.size + 1) 0 rfl _ rfl _ _ h1 9 (by kernel_rfl) hbs (by simp) ?_; intro w2 p2))
      rw [over_all (by simp [hbs])] at p2
      refine bodyPost_ret (results_at rfl _ _ (w.heap.size + 1) _ _ _ rfl p2.at_ Try.underlying56 rfl 9 (by kernel_rfl) ((u8s_size _).trans hbs)) rfl ?_
      exact ⟨rfl, p2.below hB (by omega)⟩
end
end Go.Proofs.Ytmibbggmcaikaaa
