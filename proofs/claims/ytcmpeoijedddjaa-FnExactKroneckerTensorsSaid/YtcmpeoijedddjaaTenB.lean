/-
  The function literals of AddTensors, KroneckerTensors and DirectSum. (Made by mktenb.py.)
-/
import Derived.Test.YtcmpeoijedddjaaTenA
namespace Go.Proofs.Ytcmpeoijedddjaa
open Go.RowKit
set_option maxRecDepth 100000
theorem wrap_quo (i d : Nat) (hi : i ≤ 1000) : IntKind.i64.wrap ((i : Int).tdiv (d : Int)) = ((i / d : Nat) : Int) := by
  rw [← Int.ofNat_tdiv]
  have := Nat.div_le_self i d
  generalize i / d = q at *
  exact IntWalk.i64_in _ (by omega)
theorem nat_rem (i d : Nat) : (i : Int).tmod (d : Int) = ((i % d : Nat) : Int) := (Int.ofNat_tmod i d).symm
theorem mul_small {a b p : Int} (ha : 0 ≤ a ∧ a < p) (hb : 0 ≤ b ∧ b < p) (hp : p ≤ 5) : 0 ≤ a * b ∧ a * b ≤ 25 := by
  refine ⟨Int.mul_nonneg ha.1 hb.1, ?_⟩
  have h1 : a * b ≤ 5 * b := Int.mul_le_mul_of_nonneg_right (by omega) hb.1
  omega
def addF (n1 n2 : Nat) (kk : Int) (xs ys : List Int) (i j l : Nat) : Int := at3 n1 n2 xs i j l + kk * at3 n1 n2 ys i j l
def kroF (n1 n2 d0 d1 d2 : Nat) (xs ys : List Int) (i j k : Nat) : Int := at3 n1 n2 xs (i / d0) (j / d1) (k / d2) * at3 d1 d2 ys (i % d0) (j % d1) (k % d2)
set_option maxHeartbeats 3200000 in
theorem kro1_c (p : Int) (n0 n1 n2 : Nat) (A : Option Addr) (cap : Nat) (xs : List Int) (B : Option Addr) (cap2 : Nat) (ys : List Int) (d0 d1 d2 : Nat) (i j k gt gu : Nat) (w : World) (hr : RdI w A xs) (hs : RdI w B ys) (hl : xs.length = n0 * n1 * n2) (h0 : n0 ≤ 9) (h1 : n1 ≤ 9) (h2 : n2 ≤ 9) (hg : At w gt (.cells #[.int .i64 p, .int .i64 n0, .int .i64 n1, .int .i64 n2, .slice A xs.length cap] 26 (0, 0))) (hg2 : At w gu (.cells #[.int .i64 p, .int .i64 d0, .int .i64 d1, .int .i64 d2, .slice B ys.length cap2] 26 (0, 0))) (hl2 : ys.length = d0 * d1 * d2) (e0 : 1 ≤ d0 ∧ d0 ≤ 9) (e1 : 1 ≤ d1 ∧ d1 ≤ 9) (e2 : 1 ≤ d2 ∧ d2 ≤ 9) (hx : numsB p xs = true) (hy : numsB p ys = true) (hp : 2 ≤ p ∧ p ≤ 5) (hi : i < n0 * d0) (hj : j < n1 * d1) (hk : k < n2 * d2) :
    Calls Try.prog 33 #[.int .i64 i, .int .i64 j, .int .i64 k, .pointer (some ⟨gt, 0, none⟩), .pointer (some ⟨gu, 0, none⟩)] w fun e w' => e = .returned (.int .i64 (kroF n1 n2 d0 d1 d2 xs ys i j k)) ∧ Below w.heap.size w w' := by
  have hB := Below.refl w.heap.size w
  have q0 : i / d0 < n0 := Nat.div_lt_of_lt_mul (by rw [Nat.mul_comm]; exact hi)
  have q1 : j / d1 < n1 := Nat.div_lt_of_lt_mul (by rw [Nat.mul_comm]; exact hj)
  have q2 : k / d2 < n2 := Nat.div_lt_of_lt_mul (by rw [Nat.mul_comm]; exact hk)
  have m0 : n0 * d0 ≤ 81 := Nat.mul_le_mul h0 e0.2
  have m1 : n1 * d1 ≤ 81 := Nat.mul_le_mul h1 e1.2
  have m2 : n2 * d2 ≤ 81 := Nat.mul_le_mul h2 e2.2
  have r0 : i % d0 < d0 := Nat.mod_lt _ (by omega)
  have r1 : j % d1 < d1 := Nat.mod_lt _ (by omega)
  have r2 : k % d2 < d2 := Nat.mod_lt _ (by omega)
  have HN1 := Lib.hid (fun w' (hb : Below w.heap.size w w') => numberAt_n p n0 n1 n2 A cap xs (i / d0) (j / d1) (k / d2) w' (hr.keep hb) hl h0 h1 h2 q0 q1 q2)
  have HN2 := Lib.hid (fun w' (hb : Below w.heap.size w w') => numberAt_n p d0 d1 d2 B cap2 ys (i % d0) (j % d1) (k % d2) w' (hs.keep hb) hl2 e0.2 e1.2 e2.2 r0 r1 r2)
  have bx : 0 ≤ at3 n1 n2 xs (i / d0) (j / d1) (k / d2) ∧ at3 n1 n2 xs (i / d0) (j / d1) (k / d2) < p := numsB_nth hx (by omega) _
  have by_ : 0 ≤ at3 d1 d2 ys (i % d0) (j % d1) (k % d2) ∧ at3 d1 d2 ys (i % d0) (j % d1) (k % d2) < p := numsB_nth hy (by omega) _
  have bm := mul_small bx by_ hp.2
  unfold kroF
  have HQ0 := Lib.hid (wrap_quo i d0 (by omega))
  have HQ1 := Lib.hid (wrap_quo j d1 (by omega))
  have HQ2 := Lib.hid (wrap_quo k d2 (by omega))
  have HR0 := Lib.hid (nat_rem i d0)
  have HR1 := Lib.hid (nat_rem j d1)
  have HR2 := Lib.hid (nat_rem k d2)
  generalize at3 n1 n2 xs (i / d0) (j / d1) (k / d2) = X at *
  generalize at3 d1 d2 ys (i % d0) (j % d1) (k % d2) = Y at *
  generalize i / d0 = Q0 at *
  generalize j / d1 = Q1 at *
  generalize k / d2 = Q2 at *
  generalize i % d0 = R0 at *
  generalize j % d1 = R1 at *
  generalize k % d2 = R2 at *
  clear hr hs hl hl2 hx hy h0 h1 h2 hi hj hk m0 m1 m2
  have h1 := hg
  have h2 := hg2
  clear hg hg2
  go_enter Try.func33, Try.ntmps33
  go_upto_region 0 with (fail)
  refine wp_region_lit ?_
  refine ls_ex (some 8) (.int .i64 0) rfl rfl (exec_assign _ rfl (.int .i64 0) rfl) ?_
  go_frame
  refine wpList_nil ?_
  go_upto_region 1 with (fail)
  refine wp_region_y (zs := []) (S := fun w' => Below w.heap.size w w' ∧ At w' gt (.cells #[.int .i64 p, .int .i64 n0, .int .i64 n1, .int .i64 n2, .slice A xs.length cap] 26 (0, 0)) ∧ At w' gu (.cells #[.int .i64 p, .int .i64 d0, .int .i64 d1, .int .i64 d2, .slice B ys.length cap2] 26 (0, 0))) (S2 := fun w' => True) (by kernel_rfl) ?_
  change wpAnyY _ _ _ _ _ _ _ _ _ _ (World.drew _)
  generalize hwdz1 : World.drew _ = wdz1
  replace hB : Below w.heap.size w wdz1 := by rw [← hwdz1]; exact hB.drew
  replace h1 : At wdz1 gt (.cells #[.int .i64 p, .int .i64 n0, .int .i64 n1, .int .i64 n2, .slice A xs.length cap] 26 (0, 0)) := by rw [← hwdz1]; exact h1
  replace h2 : At wdz1 gu (.cells #[.int .i64 p, .int .i64 d0, .int .i64 d1, .int .i64 d2, .slice B ys.length cap2] 26 (0, 0)) := by rw [← hwdz1]; exact h2
  clear hwdz1
  refine y_yield 0 (some 9) (.agg #[.int .i64 p, .int .i64 n0, .int .i64 n1, .int .i64 n2, .slice A xs.length cap]) rfl (by kernel_rfl) (by kernel_rfl) (by kernel_rfl) (fun _ _ _ h => h) rfl rfl ⟨hB, h1, h2⟩ (fun w' h' => exec_load_all 26 _ rfl gt rfl _ _ _ h'.2.1 Try.underlying26 rfl 5 (by kernel_rfl) rfl) ?_
  go_frame
  refine y_yield 1 (some 10) (.int .i64 i) rfl (by kernel_rfl) (by kernel_rfl) (by kernel_rfl) (fun _ _ _ h => h) rfl rfl ⟨hB, h1, h2⟩ (fun w' h' => exec_move _ rfl (.int .i64 i) rfl) ?_
  go_frame
  refine y_yield 2 (some 11) (.pointer (some ⟨gu, 1, none⟩)) rfl (by kernel_rfl) (by kernel_rfl) (by kernel_rfl) (fun _ _ _ h => h) rfl rfl ⟨hB, h1, h2⟩ (fun w' h' => exec_fieldAddr 26 _ 1 rfl _ (by kernel_rfl)) ?_
  go_frame
  refine y_yield 3 (some 12) (.int .i64 d0) rfl (by kernel_rfl) (by kernel_rfl) (by kernel_rfl) (fun _ _ _ h => h) rfl rfl ⟨hB, h1, h2⟩ (fun w' h' => exec_load_one 2 _ rfl gu 1 rfl (.int .i64 d0) _ Try.underlying2 rfl (h'.2.2.at_ 1)) ?_
  go_frame
  refine y_yield 4 (some 13) (.int .i64 Q0) rfl (by kernel_rfl) (by kernel_rfl) (by kernel_rfl) (fun _ _ _ h => h) rfl rfl ⟨hB, h1, h2⟩ (fun w' h' => exec_quo _ _ _ _ rfl i d0 Q0 rfl rfl (by omega) HQ0.out) ?_
  go_frame
  refine y_yield 5 (some 14) (.int .i64 j) rfl (by kernel_rfl) (by kernel_rfl) (by kernel_rfl) (fun _ _ _ h => h) rfl rfl ⟨hB, h1, h2⟩ (fun w' h' => exec_move _ rfl (.int .i64 j) rfl) ?_
  go_frame
  refine y_yield 6 (some 15) (.pointer (some ⟨gu, 2, none⟩)) rfl (by kernel_rfl) (by kernel_rfl) (by kernel_rfl) (fun _ _ _ h => h) rfl rfl ⟨hB, h1, h2⟩ (fun w' h' => exec_fieldAddr 26 _ 2 rfl _ (by kernel_rfl)) ?_
  go_frame
  refine y_yield 7 (some 16) (.int .i64 d1) rfl (by kernel_rfl) (by kernel_rfl) (by kernel_rfl) (fun _ _ _ h => h) rfl rfl ⟨hB, h1, h2⟩ (fun w' h' => exec_load_one 2 _ rfl gu 2 rfl (.int .i64 d1) _ Try.underlying2 rfl (h'.2.2.at_ 2)) ?_
  go_frame
  refine y_yield 8 (some 17) (.int .i64 Q1) rfl (by kernel_rfl) (by kernel_rfl) (by kernel_rfl) (fun _ _ _ h => h) rfl rfl ⟨hB, h1, h2⟩ (fun w' h' => exec_quo _ _ _ _ rfl j d1 Q1 rfl rfl (by omega) HQ1.out) ?_
  go_frame
  refine y_yield 9 (some 18) (.int .i64 k) rfl (by kernel_rfl) (by kernel_rfl) (by kernel_rfl) (fun _ _ _ h => h) rfl rfl ⟨hB, h1, h2⟩ (fun w' h' => exec_move _ rfl (.int .i64 k) rfl) ?_
  go_frame
  refine y_yield 10 (some 19) (.pointer (some ⟨gu, 3, none⟩)) rfl (by kernel_rfl) (by kernel_rfl) (by kernel_rfl) (fun _ _ _ h => h) rfl rfl ⟨hB, h1, h2⟩ (fun w' h' => exec_fieldAddr 26 _ 3 rfl _ (by kernel_rfl)) ?_
  go_frame
  refine y_yield 11 (some 20) (.int .i64 d2) rfl (by kernel_rfl) (by kernel_rfl) (by kernel_rfl) (fun _ _ _ h => h) rfl rfl ⟨hB, h1, h2⟩ (fun w' h' => exec_load_one 2 _ rfl gu 3 rfl (.int .i64 d2) _ Try.underlying2 rfl (h'.2.2.at_ 3)) ?_
  go_frame
  refine y_yield 12 (some 21) (.int .i64 Q2) rfl (by kernel_rfl) (by kernel_rfl) (by kernel_rfl) (fun _ _ _ h => h) rfl rfl ⟨hB, h1, h2⟩ (fun w' h' => exec_quo _ _ _ _ rfl k d2 Q2 rfl rfl (by omega) HQ2.out) ?_
  go_frame
  refine y_yield 14 (some 23) (.agg #[.int .i64 p, .int .i64 d0, .int .i64 d1, .int .i64 d2, .slice B ys.length cap2]) rfl (by kernel_rfl) (by kernel_rfl) (by kernel_rfl) (fun _ _ _ h => h) rfl rfl ⟨hB, h1, h2⟩ (fun w' h' => exec_load_all 26 _ rfl gu rfl _ _ _ h'.2.2 Try.underlying26 rfl 5 (by kernel_rfl) rfl) ?_
  go_frame
  refine y_yield 15 (some 24) (.int .i64 i) rfl (by kernel_rfl) (by kernel_rfl) (by kernel_rfl) (fun _ _ _ h => h) rfl rfl ⟨hB, h1, h2⟩ (fun w' h' => exec_move _ rfl (.int .i64 i) rfl) ?_
  go_frame
  refine y_yield 16 (some 25) (.pointer (some ⟨gu, 1, none⟩)) rfl (by kernel_rfl) (by kernel_rfl) (by kernel_rfl) (fun _ _ _ h => h) rfl rfl ⟨hB, h1, h2⟩ (fun w' h' => exec_fieldAddr 26 _ 1 rfl _ (by kernel_rfl)) ?_
  go_frame
  refine y_yield 17 (some 26) (.int .i64 d0) rfl (by kernel_rfl) (by kernel_rfl) (by kernel_rfl) (fun _ _ _ h => h) rfl rfl ⟨hB, h1, h2⟩ (fun w' h' => exec_load_one 2 _ rfl gu 1 rfl (.int .i64 d0) _ Try.underlying2 rfl (h'.2.2.at_ 1)) ?_
  go_frame
  refine y_yield 18 (some 27) (.int .i64 R0) rfl (by kernel_rfl) (by kernel_rfl) (by kernel_rfl) (fun _ _ _ h => h) rfl rfl ⟨hB, h1, h2⟩ (fun w' h' => exec_rem _ _ _ _ rfl i d0 R0 rfl rfl (by omega) HR0.out) ?_
  go_frame
  refine y_yield 19 (some 28) (.int .i64 j) rfl (by kernel_rfl) (by kernel_rfl) (by kernel_rfl) (fun _ _ _ h => h) rfl rfl ⟨hB, h1, h2⟩ (fun w' h' => exec_move _ rfl (.int .i64 j) rfl) ?_
  go_frame
  refine y_yield 20 (some 29) (.pointer (some ⟨gu, 2, none⟩)) rfl (by kernel_rfl) (by kernel_rfl) (by kernel_rfl) (fun _ _ _ h => h) rfl rfl ⟨hB, h1, h2⟩ (fun w' h' => exec_fieldAddr 26 _ 2 rfl _ (by kernel_rfl)) ?_
  go_frame
  refine y_yield 21 (some 30) (.int .i64 d1) rfl (by kernel_rfl) (by kernel_rfl) (by kernel_rfl) (fun _ _ _ h => h) rfl rfl ⟨hB, h1, h2⟩ (fun w' h' => exec_load_one 2 _ rfl gu 2 rfl (.int .i64 d1) _ Try.underlying2 rfl (h'.2.2.at_ 2)) ?_
  go_frame
  refine y_yield 22 (some 31) (.int .i64 R1) rfl (by kernel_rfl) (by kernel_rfl) (by kernel_rfl) (fun _ _ _ h => h) rfl rfl ⟨hB, h1, h2⟩ (fun w' h' => exec_rem _ _ _ _ rfl j d1 R1 rfl rfl (by omega) HR1.out) ?_
  go_frame
  refine y_yield 23 (some 32) (.int .i64 k) rfl (by kernel_rfl) (by kernel_rfl) (by kernel_rfl) (fun _ _ _ h => h) rfl rfl ⟨hB, h1, h2⟩ (fun w' h' => exec_move _ rfl (.int .i64 k) rfl) ?_
  go_frame
  refine y_yield 24 (some 33) (.pointer (some ⟨gu, 3, none⟩)) rfl (by kernel_rfl) (by kernel_rfl) (by kernel_rfl) (fun _ _ _ h => h) rfl rfl ⟨hB, h1, h2⟩ (fun w' h' => exec_fieldAddr 26 _ 3 rfl _ (by kernel_rfl)) ?_
  go_frame
  refine y_yield 25 (some 34) (.int .i64 d2) rfl (by kernel_rfl) (by kernel_rfl) (by kernel_rfl) (fun _ _ _ h => h) rfl rfl ⟨hB, h1, h2⟩ (fun w' h' => exec_load_one 2 _ rfl gu 3 rfl (.int .i64 d2) _ Try.underlying2 rfl (h'.2.2.at_ 3)) ?_
  go_frame
  refine y_yield 26 (some 35) (.int .i64 R2) rfl (by kernel_rfl) (by kernel_rfl) (by kernel_rfl) (fun _ _ _ h => h) rfl rfl ⟨hB, h1, h2⟩ (fun w' h' => exec_rem _ _ _ _ rfl k d2 R2 rfl rfl (by omega) HR2.out) ?_
  go_frame
  refine y_oper 13 (by kernel_rfl) rfl rfl (fun K' hK' => ?_)
  have lz4 := hB.size
  have lz5 := h1.lt
  have lz6 := h2.lt
  refine wp_call4 (some 22) rfl 34 _ _ _ _ _ rfl (fun args w => by kernel_rfl) _ _ _ _ rfl rfl rfl rfl _ (HN1.out _ hB) (fun e Wz2 h => ?_)
  obtain ⟨rfl, bz3⟩ := h
  replace hB := below_after hB bz3
  replace h1 := h1.after bz3
  replace h2 := h2.after bz3
  clear bz3
  refine ⟨_, rfl, ?_⟩
  refine hK' _ _ ⟨hB, h1, h2⟩ (fun _ => trivial) ?_
  clear hK' K'
  go_frame
  refine y_oper 27 (by kernel_rfl) rfl rfl (fun K' hK' => ?_)
  have lz9 := hB.size
  have lz10 := h1.lt
  have lz11 := h2.lt
  refine wp_call4 (some 36) rfl 34 _ _ _ _ _ rfl (fun args w => by kernel_rfl) _ _ _ _ rfl rfl rfl rfl _ (HN2.out _ hB) (fun e Wz7 h => ?_)
  obtain ⟨rfl, bz8⟩ := h
  replace hB := below_after hB bz8
  replace h1 := h1.after bz8
  replace h2 := h2.after bz8
  clear bz8
  refine ⟨_, rfl, ?_⟩
  refine hK' _ _ ⟨hB, h1, h2⟩ (fun _ => trivial) ?_
  clear hK' K'
  go_frame
  refine y_yield 28 (some 37) (.int .i64 (X * Y)) rfl (by kernel_rfl) (by kernel_rfl) (by kernel_rfl) (fun _ _ _ h => h) rfl rfl ⟨hB, h1, h2⟩ (fun w' h' => exec_mul _ _ _ _ rfl X Y (X * Y) rfl rfl (IntWalk.i64_in _ (by omega))) ?_
  go_frame
  refine y_oper 29 (by kernel_rfl) rfl rfl (fun K' hK' => ?_)
  refine wp_exec (some 8) rfl (.int .i64 (X * Y)) (exec_assign _ rfl (.int .i64 (X * Y)) rfl) ?_
  refine hK' _ _ ⟨hB, h1, h2⟩ (fun _ => trivial) ?_
  clear hK' K'
  go_frame
  refine y_done (by kernel_rfl) ?_ _
  go_wp2_with fail
  go_ret
  exact ⟨rfl, hB⟩
def dsF (n0 n1 n2 d0 d1 d2 : Nat) (xs ys : List Int) (i j k : Nat) : Int :=
  if hasB n0 n1 n2 i j k = true then at3 n1 n2 xs i j k else if hasB d0 d1 d2 ((i : Int) - n0) ((j : Int) - n1) ((k : Int) - n2) = true then nthI ys ((((i : Int) - n0) * d1 + ((j : Int) - n1)) * d2 + ((k : Int) - n2)) else 0
set_option maxHeartbeats 3200000 in
theorem ds1a_c (p : Int) (n0 n1 n2 : Nat) (A : Option Addr) (cap : Nat) (xs : List Int) (B : Option Addr) (cap2 : Nat) (ys : List Int) (d0 d1 d2 : Nat) (i j k gt gu : Nat) (w : World) (hr : RdI w A xs) (_hs : RdI w B ys) (hl : xs.length = n0 * n1 * n2) (h0 : n0 ≤ 9) (h1 : n1 ≤ 9) (h2 : n2 ≤ 9) (hg : At w gt (.cells #[.int .i64 p, .int .i64 n0, .int .i64 n1, .int .i64 n2, .slice A xs.length cap] 26 (0, 0))) (hg2 : At w gu (.cells #[.int .i64 p, .int .i64 d0, .int .i64 d1, .int .i64 d2, .slice B ys.length cap2] 26 (0, 0))) (_hl2 : ys.length = d0 * d1 * d2) (_e0 : 1 ≤ d0 ∧ d0 ≤ 9) (_e1 : 1 ≤ d1 ∧ d1 ≤ 9) (_e2 : 1 ≤ d2 ∧ d2 ≤ 9) (_hx : numsB p xs = true) (_hy : numsB p ys = true) (_hp : 2 ≤ p ∧ p ≤ 5) (_hi : i ≤ 100) (_hj : j ≤ 100) (_hk : k ≤ 100) (hc : hasB n0 n1 n2 i j k = true) :
    Calls Try.prog 40 #[.int .i64 i, .int .i64 j, .int .i64 k, .pointer (some ⟨gt, 0, none⟩), .pointer (some ⟨gu, 0, none⟩)] w fun e w' => e = .returned (.int .i64 (dsF n0 n1 n2 d0 d1 d2 xs ys i j k)) ∧ Below w.heap.size w w' := by
  have hB := Below.refl w.heap.size w
  have hh := hasB_in hc
  have HN1 := Lib.hid (fun w' (hb : Below w.heap.size w w') => numberAt_n p n0 n1 n2 A cap xs i j k w' (hr.keep hb) hl h0 h1 h2 (by omega) (by omega) (by omega))
  have HV : Hid (dsF n0 n1 n2 d0 d1 d2 xs ys i j k = at3 n1 n2 xs i j k) := Lib.hid (by simp [dsF, hc])
  generalize at3 n1 n2 xs i j k = X at *
  have HH1 := Lib.hid hc
  clear hc hh
  have h1 := hg
  have h2 := hg2
  clear hg hg2
  go_enter Try.func40, Try.ntmps40
  go_upto_region 0 with (fail)
  refine wp_region_lit ?_
  refine ls_ex (some 8) (.int .i64 0) rfl rfl (exec_assign _ rfl (.int .i64 0) rfl) ?_
  go_frame
  refine wpList_nil ?_
  go_upto_region 1 with (fail)
  refine wp_region_lit ?_
  refine ls_ex (some 9) (.agg #[.int .i64 p, .int .i64 n0, .int .i64 n1, .int .i64 n2, .slice A xs.length cap]) rfl rfl (exec_load_all 26 _ rfl gt rfl _ _ _ h1 Try.underlying26 rfl 5 (by kernel_rfl) rfl) ?_
  go_frame
  refine ls_op rfl (fun K' hK' => ?_)
  have lz3 := hB.size
  have lz4 := h1.lt
  have lz5 := h2.lt
  refine wp_call1 (some 10) rfl 29 _ _ rfl (fun args w => by kernel_rfl) _ rfl _ (boxOf_c p n0 n1 n2 _ _) (fun e Wz1 h => ?_)
  obtain ⟨rfl, bz2⟩ := h
  replace hB := below_after hB bz2
  replace h1 := h1.after bz2
  replace h2 := h2.after bz2
  clear bz2
  refine ⟨_, rfl, ?_⟩
  refine hK' _ _ ?_
  clear hK' K'
  go_frame
  refine ls_ex (some 11) (.int .i64 i) rfl rfl (exec_move _ rfl (.int .i64 i) rfl) ?_
  go_frame
  refine ls_ex (some 12) (.int .i64 j) rfl rfl (exec_move _ rfl (.int .i64 j) rfl) ?_
  go_frame
  refine ls_ex (some 13) (.int .i64 k) rfl rfl (exec_move _ rfl (.int .i64 k) rfl) ?_
  go_frame
  refine ls_op rfl (fun K' hK' => ?_)
  have lz8 := hB.size
  have lz9 := h1.lt
  have lz10 := h2.lt
  refine wp_call4 (some 14) rfl 41 _ _ _ _ _ rfl (fun args w => by kernel_rfl) _ _ _ _ rfl rfl rfl rfl _ (has_c n0 n1 n2 i j k _) (fun e Wz6 h => ?_)
  obtain ⟨rfl, bz7⟩ := h
  replace hB := below_after hB bz7
  replace h1 := h1.after bz7
  replace h2 := h2.after bz7
  rw [HH1.out]
  clear bz7
  refine ⟨_, rfl, ?_⟩
  refine hK' _ _ ?_
  clear hK' K'
  go_frame
  refine wpList_nil ?_
  go_upto_region 2 with (fail)
  refine wp_region_lit ?_
  refine ls_ex (some 15) (.agg #[.int .i64 p, .int .i64 n0, .int .i64 n1, .int .i64 n2, .slice A xs.length cap]) rfl rfl (exec_load_all 26 _ rfl gt rfl _ _ _ h1 Try.underlying26 rfl 5 (by kernel_rfl) rfl) ?_
  go_frame
  refine ls_ex (some 16) (.int .i64 i) rfl rfl (exec_move _ rfl (.int .i64 i) rfl) ?_
  go_frame
  refine ls_ex (some 17) (.int .i64 j) rfl rfl (exec_move _ rfl (.int .i64 j) rfl) ?_
  go_frame
  refine ls_ex (some 18) (.int .i64 k) rfl rfl (exec_move _ rfl (.int .i64 k) rfl) ?_
  go_frame
  refine ls_op rfl (fun K' hK' => ?_)
  have lz13 := hB.size
  have lz14 := h1.lt
  have lz15 := h2.lt
  refine wp_call4 (some 19) rfl 34 _ _ _ _ _ rfl (fun args w => by kernel_rfl) _ _ _ _ rfl rfl rfl rfl _ (HN1.out _ hB) (fun e Wz11 h => ?_)
  obtain ⟨rfl, bz12⟩ := h
  replace hB := below_after hB bz12
  replace h1 := h1.after bz12
  replace h2 := h2.after bz12
  clear bz12
  refine ⟨_, rfl, ?_⟩
  refine hK' _ _ ?_
  clear hK' K'
  go_frame
  refine ls_ex (some 8) (.int .i64 X) rfl rfl (exec_assign _ rfl (.int .i64 X) rfl) ?_
  go_frame
  refine wpList_nil ?_
  go_wp2_with fail
  go_ret
  exact ⟨by rw [HV.out]; rfl, hB⟩
set_option maxHeartbeats 3200000 in
theorem ds1b_c (p : Int) (n0 n1 n2 : Nat) (A : Option Addr) (cap : Nat) (xs : List Int) (B : Option Addr) (cap2 : Nat) (ys : List Int) (d0 d1 d2 : Nat) (i j k gt gu : Nat) (w : World) (_hr : RdI w A xs) (hs : RdI w B ys) (_hl : xs.length = n0 * n1 * n2) (h0 : n0 ≤ 9) (h1 : n1 ≤ 9) (h2 : n2 ≤ 9) (hg : At w gt (.cells #[.int .i64 p, .int .i64 n0, .int .i64 n1, .int .i64 n2, .slice A xs.length cap] 26 (0, 0))) (hg2 : At w gu (.cells #[.int .i64 p, .int .i64 d0, .int .i64 d1, .int .i64 d2, .slice B ys.length cap2] 26 (0, 0))) (hl2 : ys.length = d0 * d1 * d2) (e0 : 1 ≤ d0 ∧ d0 ≤ 9) (e1 : 1 ≤ d1 ∧ d1 ≤ 9) (e2 : 1 ≤ d2 ∧ d2 ≤ 9) (_hx : numsB p xs = true) (_hy : numsB p ys = true) (_hp : 2 ≤ p ∧ p ≤ 5) (hi : i ≤ 100) (hj : j ≤ 100) (hk : k ≤ 100) (hc : hasB n0 n1 n2 i j k = false) (hc2 : hasB d0 d1 d2 ((i : Int) - n0) ((j : Int) - n1) ((k : Int) - n2) = true) :
    Calls Try.prog 40 #[.int .i64 i, .int .i64 j, .int .i64 k, .pointer (some ⟨gt, 0, none⟩), .pointer (some ⟨gu, 0, none⟩)] w fun e w' => e = .returned (.int .i64 (dsF n0 n1 n2 d0 d1 d2 xs ys i j k)) ∧ Below w.heap.size w w' := by
  have hB := Below.refl w.heap.size w
  have hh := hasB_in hc2
  have HN2 := Lib.hid (fun w' (hb : Below w.heap.size w w') => numberAt_c p d0 d1 d2 B cap2 ys ((i : Int) - n0) ((j : Int) - n1) ((k : Int) - n2) w' (hs.keep hb) (by rw [hl2]; simp) (by omega) (by omega) (by omega) (by omega) (by omega) (by omega) (by omega) (by omega) (by omega))
  have HV : Hid (dsF n0 n1 n2 d0 d1 d2 xs ys i j k = nthI ys ((((i : Int) - n0) * d1 + ((j : Int) - n1)) * d2 + ((k : Int) - n2))) := Lib.hid (by simp [dsF, hc, hc2])
  generalize nthI ys ((((i : Int) - n0) * d1 + ((j : Int) - n1)) * d2 + ((k : Int) - n2)) = Y at *
  have HH1 := Lib.hid hc
  have HH2 := Lib.hid hc2
  clear hc hc2 hh
  have h1 := hg
  have h2 := hg2
  clear hg hg2
  go_enter Try.func40, Try.ntmps40
  go_upto_region 0 with (fail)
  refine wp_region_lit ?_
  refine ls_ex (some 8) (.int .i64 0) rfl rfl (exec_assign _ rfl (.int .i64 0) rfl) ?_
  go_frame
  refine wpList_nil ?_
  go_upto_region 1 with (fail)
  refine wp_region_lit ?_
  refine ls_ex (some 9) (.agg #[.int .i64 p, .int .i64 n0, .int .i64 n1, .int .i64 n2, .slice A xs.length cap]) rfl rfl (exec_load_all 26 _ rfl gt rfl _ _ _ h1 Try.underlying26 rfl 5 (by kernel_rfl) rfl) ?_
  go_frame
  refine ls_op rfl (fun K' hK' => ?_)
  have lz3 := hB.size
  have lz4 := h1.lt
  have lz5 := h2.lt
  refine wp_call1 (some 10) rfl 29 _ _ rfl (fun args w => by kernel_rfl) _ rfl _ (boxOf_c p n0 n1 n2 _ _) (fun e Wz1 h => ?_)
  obtain ⟨rfl, bz2⟩ := h
  replace hB := below_after hB bz2
  replace h1 := h1.after bz2
  replace h2 := h2.after bz2
  clear bz2
  refine ⟨_, rfl, ?_⟩
  refine hK' _ _ ?_
  clear hK' K'
  go_frame
  refine ls_ex (some 11) (.int .i64 i) rfl rfl (exec_move _ rfl (.int .i64 i) rfl) ?_
  go_frame
  refine ls_ex (some 12) (.int .i64 j) rfl rfl (exec_move _ rfl (.int .i64 j) rfl) ?_
  go_frame
  refine ls_ex (some 13) (.int .i64 k) rfl rfl (exec_move _ rfl (.int .i64 k) rfl) ?_
  go_frame
  refine ls_op rfl (fun K' hK' => ?_)
  have lz8 := hB.size
  have lz9 := h1.lt
  have lz10 := h2.lt
  refine wp_call4 (some 14) rfl 41 _ _ _ _ _ rfl (fun args w => by kernel_rfl) _ _ _ _ rfl rfl rfl rfl _ (has_c n0 n1 n2 i j k _) (fun e Wz6 h => ?_)
  obtain ⟨rfl, bz7⟩ := h
  replace hB := below_after hB bz7
  replace h1 := h1.after bz7
  replace h2 := h2.after bz7
  rw [HH1.out]
  clear bz7
  refine ⟨_, rfl, ?_⟩
  refine hK' _ _ ?_
  clear hK' K'
  go_frame
  refine wpList_nil ?_
  go_upto_region 3 with (fail)
  refine wp_region_y (zs := []) (S := fun w' => Below w.heap.size w w' ∧ At w' gu (.cells #[.int .i64 p, .int .i64 d0, .int .i64 d1, .int .i64 d2, .slice B ys.length cap2] 26 (0, 0)) ∧ At w' gt (.cells #[.int .i64 p, .int .i64 n0, .int .i64 n1, .int .i64 n2, .slice A xs.length cap] 26 (0, 0))) (S2 := fun w' => True) (by kernel_rfl) ?_
  change wpAnyY _ _ _ _ _ _ _ _ _ _ (World.drew _)
  generalize hwdz11 : World.drew _ = wdz11
  replace hB : Below w.heap.size w wdz11 := by rw [← hwdz11]; exact hB.drew
  replace h1 : At wdz11 gt (.cells #[.int .i64 p, .int .i64 n0, .int .i64 n1, .int .i64 n2, .slice A xs.length cap] 26 (0, 0)) := by rw [← hwdz11]; exact h1
  replace h2 : At wdz11 gu (.cells #[.int .i64 p, .int .i64 d0, .int .i64 d1, .int .i64 d2, .slice B ys.length cap2] 26 (0, 0)) := by rw [← hwdz11]; exact h2
  clear hwdz11
  refine y_yield 0 (some 20) (.agg #[.int .i64 p, .int .i64 d0, .int .i64 d1, .int .i64 d2, .slice B ys.length cap2]) rfl (by kernel_rfl) (by kernel_rfl) (by kernel_rfl) (fun _ _ _ h => h) rfl rfl ⟨hB, h2, h1⟩ (fun w' h' => exec_load_all 26 _ rfl gu rfl _ _ _ h'.2.1 Try.underlying26 rfl 5 (by kernel_rfl) rfl) ?_
  go_frame
  refine y_yield 2 (some 22) (.int .i64 i) rfl (by kernel_rfl) (by kernel_rfl) (by kernel_rfl) (fun _ _ _ h => h) rfl rfl ⟨hB, h2, h1⟩ (fun w' h' => exec_move _ rfl (.int .i64 i) rfl) ?_
  go_frame
  refine y_yield 3 (some 23) (.pointer (some ⟨gt, 1, none⟩)) rfl (by kernel_rfl) (by kernel_rfl) (by kernel_rfl) (fun _ _ _ h => h) rfl rfl ⟨hB, h2, h1⟩ (fun w' h' => exec_fieldAddr 26 _ 1 rfl _ (by kernel_rfl)) ?_
  go_frame
  refine y_yield 4 (some 24) (.int .i64 n0) rfl (by kernel_rfl) (by kernel_rfl) (by kernel_rfl) (fun _ _ _ h => h) rfl rfl ⟨hB, h2, h1⟩ (fun w' h' => exec_load_one 2 _ rfl gt 1 rfl (.int .i64 n0) _ Try.underlying2 rfl (h'.2.2.at_ 1)) ?_
  go_frame
  refine y_yield 5 (some 25) (.int .i64 (i - n0)) rfl (by kernel_rfl) (by kernel_rfl) (by kernel_rfl) (fun _ _ _ h => h) rfl rfl ⟨hB, h2, h1⟩ (fun w' h' => exec_sub _ _ _ _ rfl i n0 (i - n0) rfl rfl (IntWalk.i64_in _ (by omega))) ?_
  go_frame
  refine y_yield 6 (some 26) (.int .i64 j) rfl (by kernel_rfl) (by kernel_rfl) (by kernel_rfl) (fun _ _ _ h => h) rfl rfl ⟨hB, h2, h1⟩ (fun w' h' => exec_move _ rfl (.int .i64 j) rfl) ?_
  go_frame
  refine y_yield 7 (some 27) (.pointer (some ⟨gt, 2, none⟩)) rfl (by kernel_rfl) (by kernel_rfl) (by kernel_rfl) (fun _ _ _ h => h) rfl rfl ⟨hB, h2, h1⟩ (fun w' h' => exec_fieldAddr 26 _ 2 rfl _ (by kernel_rfl)) ?_
  go_frame
  refine y_yield 8 (some 28) (.int .i64 n1) rfl (by kernel_rfl) (by kernel_rfl) (by kernel_rfl) (fun _ _ _ h => h) rfl rfl ⟨hB, h2, h1⟩ (fun w' h' => exec_load_one 2 _ rfl gt 2 rfl (.int .i64 n1) _ Try.underlying2 rfl (h'.2.2.at_ 2)) ?_
  go_frame
  refine y_yield 9 (some 29) (.int .i64 (j - n1)) rfl (by kernel_rfl) (by kernel_rfl) (by kernel_rfl) (fun _ _ _ h => h) rfl rfl ⟨hB, h2, h1⟩ (fun w' h' => exec_sub _ _ _ _ rfl j n1 (j - n1) rfl rfl (IntWalk.i64_in _ (by omega))) ?_
  go_frame
  refine y_yield 10 (some 30) (.int .i64 k) rfl (by kernel_rfl) (by kernel_rfl) (by kernel_rfl) (fun _ _ _ h => h) rfl rfl ⟨hB, h2, h1⟩ (fun w' h' => exec_move _ rfl (.int .i64 k) rfl) ?_
  go_frame
  refine y_yield 11 (some 31) (.pointer (some ⟨gt, 3, none⟩)) rfl (by kernel_rfl) (by kernel_rfl) (by kernel_rfl) (fun _ _ _ h => h) rfl rfl ⟨hB, h2, h1⟩ (fun w' h' => exec_fieldAddr 26 _ 3 rfl _ (by kernel_rfl)) ?_
  go_frame
  refine y_yield 12 (some 32) (.int .i64 n2) rfl (by kernel_rfl) (by kernel_rfl) (by kernel_rfl) (fun _ _ _ h => h) rfl rfl ⟨hB, h2, h1⟩ (fun w' h' => exec_load_one 2 _ rfl gt 3 rfl (.int .i64 n2) _ Try.underlying2 rfl (h'.2.2.at_ 3)) ?_
  go_frame
  refine y_yield 13 (some 33) (.int .i64 (k - n2)) rfl (by kernel_rfl) (by kernel_rfl) (by kernel_rfl) (fun _ _ _ h => h) rfl rfl ⟨hB, h2, h1⟩ (fun w' h' => exec_sub _ _ _ _ rfl k n2 (k - n2) rfl rfl (IntWalk.i64_in _ (by omega))) ?_
  go_frame
  refine y_oper 1 (by kernel_rfl) rfl rfl (fun K' hK' => ?_)
  have lz14 := hB.size
  have lz15 := h1.lt
  have lz16 := h2.lt
  refine wp_call1 (some 21) rfl 29 _ _ rfl (fun args w => by kernel_rfl) _ rfl _ (boxOf_c p d0 d1 d2 _ _) (fun e Wz12 h => ?_)
  obtain ⟨rfl, bz13⟩ := h
  replace hB := below_after hB bz13
  replace h1 := h1.after bz13
  replace h2 := h2.after bz13
  clear bz13
  refine ⟨_, rfl, ?_⟩
  refine hK' _ _ ⟨hB, h2, h1⟩ (fun _ => trivial) ?_
  clear hK' K'
  go_frame
  refine y_oper 14 (by kernel_rfl) rfl rfl (fun K' hK' => ?_)
  have lz19 := hB.size
  have lz20 := h1.lt
  have lz21 := h2.lt
  refine wp_call4 (some 34) rfl 41 _ _ _ _ _ rfl (fun args w => by kernel_rfl) _ _ _ _ rfl rfl rfl rfl _ (has_c d0 d1 d2 (i - n0) (j - n1) (k - n2) _) (fun e Wz17 h => ?_)
  obtain ⟨rfl, bz18⟩ := h
  replace hB := below_after hB bz18
  replace h1 := h1.after bz18
  replace h2 := h2.after bz18
  rw [HH2.out]
  clear bz18
  refine ⟨_, rfl, ?_⟩
  refine hK' _ _ ⟨hB, h2, h1⟩ (fun _ => trivial) ?_
  clear hK' K'
  go_frame
  refine y_done (by kernel_rfl) ?_ _
  go_upto_region 4 with (fail)
  refine wp_region_lit ?_
  refine ls_ex (some 35) (.agg #[.int .i64 p, .int .i64 d0, .int .i64 d1, .int .i64 d2, .slice B ys.length cap2]) rfl rfl (exec_load_all 26 _ rfl gu rfl _ _ _ h2 Try.underlying26 rfl 5 (by kernel_rfl) rfl) ?_
  go_frame
  refine ls_ex (some 36) (.int .i64 i) rfl rfl (exec_move _ rfl (.int .i64 i) rfl) ?_
  go_frame
  refine ls_ex (some 37) (.pointer (some ⟨gt, 1, none⟩)) rfl rfl (exec_fieldAddr 26 _ 1 rfl _ (by kernel_rfl)) ?_
  go_frame
  refine ls_ex (some 38) (.int .i64 n0) rfl rfl (exec_load_one 2 _ rfl gt 1 rfl (.int .i64 n0) _ Try.underlying2 rfl (h1.at_ 1)) ?_
  go_frame
  refine ls_ex (some 39) (.int .i64 (i - n0)) rfl rfl (exec_sub _ _ _ _ rfl i n0 (i - n0) rfl rfl (IntWalk.i64_in _ (by omega))) ?_
  go_frame
  refine ls_ex (some 40) (.int .i64 j) rfl rfl (exec_move _ rfl (.int .i64 j) rfl) ?_
  go_frame
  refine ls_ex (some 41) (.pointer (some ⟨gt, 2, none⟩)) rfl rfl (exec_fieldAddr 26 _ 2 rfl _ (by kernel_rfl)) ?_
  go_frame
  refine ls_ex (some 42) (.int .i64 n1) rfl rfl (exec_load_one 2 _ rfl gt 2 rfl (.int .i64 n1) _ Try.underlying2 rfl (h1.at_ 2)) ?_
  go_frame
  refine ls_ex (some 43) (.int .i64 (j - n1)) rfl rfl (exec_sub _ _ _ _ rfl j n1 (j - n1) rfl rfl (IntWalk.i64_in _ (by omega))) ?_
  go_frame
  refine ls_ex (some 44) (.int .i64 k) rfl rfl (exec_move _ rfl (.int .i64 k) rfl) ?_
  go_frame
  refine ls_ex (some 45) (.pointer (some ⟨gt, 3, none⟩)) rfl rfl (exec_fieldAddr 26 _ 3 rfl _ (by kernel_rfl)) ?_
  go_frame
  refine ls_ex (some 46) (.int .i64 n2) rfl rfl (exec_load_one 2 _ rfl gt 3 rfl (.int .i64 n2) _ Try.underlying2 rfl (h1.at_ 3)) ?_
  go_frame
  refine ls_ex (some 47) (.int .i64 (k - n2)) rfl rfl (exec_sub _ _ _ _ rfl k n2 (k - n2) rfl rfl (IntWalk.i64_in _ (by omega))) ?_
  go_frame
  refine ls_op rfl (fun K' hK' => ?_)
  have lz24 := hB.size
  have lz25 := h1.lt
  have lz26 := h2.lt
  refine wp_call4 (some 48) rfl 34 _ _ _ _ _ rfl (fun args w => by kernel_rfl) _ _ _ _ rfl rfl rfl rfl _ (HN2.out _ hB) (fun e Wz22 h => ?_)
  obtain ⟨rfl, bz23⟩ := h
  replace hB := below_after hB bz23
  replace h1 := h1.after bz23
  replace h2 := h2.after bz23
  clear bz23
  refine ⟨_, rfl, ?_⟩
  refine hK' _ _ ?_
  clear hK' K'
  go_frame
  refine ls_ex (some 8) (.int .i64 Y) rfl rfl (exec_assign _ rfl (.int .i64 Y) rfl) ?_
  go_frame
  refine wpList_nil ?_
  go_wp2_with fail
  go_ret
  exact ⟨by rw [HV.out]; rfl, hB⟩
set_option maxHeartbeats 3200000 in
theorem ds1c_c (p : Int) (n0 n1 n2 : Nat) (A : Option Addr) (cap : Nat) (xs : List Int) (B : Option Addr) (cap2 : Nat) (ys : List Int) (d0 d1 d2 : Nat) (i j k gt gu : Nat) (w : World) (_hr : RdI w A xs) (_hs : RdI w B ys) (_hl : xs.length = n0 * n1 * n2) (h0 : n0 ≤ 9) (h1 : n1 ≤ 9) (h2 : n2 ≤ 9) (hg : At w gt (.cells #[.int .i64 p, .int .i64 n0, .int .i64 n1, .int .i64 n2, .slice A xs.length cap] 26 (0, 0))) (hg2 : At w gu (.cells #[.int .i64 p, .int .i64 d0, .int .i64 d1, .int .i64 d2, .slice B ys.length cap2] 26 (0, 0))) (_hl2 : ys.length = d0 * d1 * d2) (_e0 : 1 ≤ d0 ∧ d0 ≤ 9) (_e1 : 1 ≤ d1 ∧ d1 ≤ 9) (_e2 : 1 ≤ d2 ∧ d2 ≤ 9) (_hx : numsB p xs = true) (_hy : numsB p ys = true) (_hp : 2 ≤ p ∧ p ≤ 5) (hi : i ≤ 100) (hj : j ≤ 100) (hk : k ≤ 100) (hc : hasB n0 n1 n2 i j k = false) (hc2 : hasB d0 d1 d2 ((i : Int) - n0) ((j : Int) - n1) ((k : Int) - n2) = false) :
    Calls Try.prog 40 #[.int .i64 i, .int .i64 j, .int .i64 k, .pointer (some ⟨gt, 0, none⟩), .pointer (some ⟨gu, 0, none⟩)] w fun e w' => e = .returned (.int .i64 (dsF n0 n1 n2 d0 d1 d2 xs ys i j k)) ∧ Below w.heap.size w w' := by
  have hB := Below.refl w.heap.size w
  have HV : Hid (dsF n0 n1 n2 d0 d1 d2 xs ys i j k = 0) := Lib.hid (by simp [dsF, hc, hc2])
  have HH1 := Lib.hid hc
  have HH2 := Lib.hid hc2
  clear hc hc2
  have h1 := hg
  have h2 := hg2
  clear hg hg2
  go_enter Try.func40, Try.ntmps40
  go_upto_region 0 with (fail)
  refine wp_region_lit ?_
  refine ls_ex (some 8) (.int .i64 0) rfl rfl (exec_assign _ rfl (.int .i64 0) rfl) ?_
  go_frame
  refine wpList_nil ?_
  go_upto_region 1 with (fail)
  refine wp_region_lit ?_
  refine ls_ex (some 9) (.agg #[.int .i64 p, .int .i64 n0, .int .i64 n1, .int .i64 n2, .slice A xs.length cap]) rfl rfl (exec_load_all 26 _ rfl gt rfl _ _ _ h1 Try.underlying26 rfl 5 (by kernel_rfl) rfl) ?_
  go_frame
  refine ls_op rfl (fun K' hK' => ?_)
  have lz3 := hB.size
  have lz4 := h1.lt
  have lz5 := h2.lt
  refine wp_call1 (some 10) rfl 29 _ _ rfl (fun args w => by kernel_rfl) _ rfl _ (boxOf_c p n0 n1 n2 _ _) (fun e Wz1 h => ?_)
  obtain ⟨rfl, bz2⟩ := h
  replace hB := below_after hB bz2
  replace h1 := h1.after bz2
  replace h2 := h2.after bz2
  clear bz2
  refine ⟨_, rfl, ?_⟩
  refine hK' _ _ ?_
  clear hK' K'
  go_frame
  refine ls_ex (some 11) (.int .i64 i) rfl rfl (exec_move _ rfl (.int .i64 i) rfl) ?_
  go_frame
  refine ls_ex (some 12) (.int .i64 j) rfl rfl (exec_move _ rfl (.int .i64 j) rfl) ?_
  go_frame
  refine ls_ex (some 13) (.int .i64 k) rfl rfl (exec_move _ rfl (.int .i64 k) rfl) ?_
  go_frame
  refine ls_op rfl (fun K' hK' => ?_)
  have lz8 := hB.size
  have lz9 := h1.lt
  have lz10 := h2.lt
  refine wp_call4 (some 14) rfl 41 _ _ _ _ _ rfl (fun args w => by kernel_rfl) _ _ _ _ rfl rfl rfl rfl _ (has_c n0 n1 n2 i j k _) (fun e Wz6 h => ?_)
  obtain ⟨rfl, bz7⟩ := h
  replace hB := below_after hB bz7
  replace h1 := h1.after bz7
  replace h2 := h2.after bz7
  rw [HH1.out]
  clear bz7
  refine ⟨_, rfl, ?_⟩
  refine hK' _ _ ?_
  clear hK' K'
  go_frame
  refine wpList_nil ?_
  go_upto_region 3 with (fail)
  refine wp_region_y (zs := []) (S := fun w' => Below w.heap.size w w' ∧ At w' gu (.cells #[.int .i64 p, .int .i64 d0, .int .i64 d1, .int .i64 d2, .slice B ys.length cap2] 26 (0, 0)) ∧ At w' gt (.cells #[.int .i64 p, .int .i64 n0, .int .i64 n1, .int .i64 n2, .slice A xs.length cap] 26 (0, 0))) (S2 := fun w' => True) (by kernel_rfl) ?_
  change wpAnyY _ _ _ _ _ _ _ _ _ _ (World.drew _)
  generalize hwdz11 : World.drew _ = wdz11
  replace hB : Below w.heap.size w wdz11 := by rw [← hwdz11]; exact hB.drew
  replace h1 : At wdz11 gt (.cells #[.int .i64 p, .int .i64 n0, .int .i64 n1, .int .i64 n2, .slice A xs.length cap] 26 (0, 0)) := by rw [← hwdz11]; exact h1
  replace h2 : At wdz11 gu (.cells #[.int .i64 p, .int .i64 d0, .int .i64 d1, .int .i64 d2, .slice B ys.length cap2] 26 (0, 0)) := by rw [← hwdz11]; exact h2
  clear hwdz11
  refine y_yield 0 (some 20) (.agg #[.int .i64 p, .int .i64 d0, .int .i64 d1, .int .i64 d2, .slice B ys.length cap2]) rfl (by kernel_rfl) (by kernel_rfl) (by kernel_rfl) (fun _ _ _ h => h) rfl rfl ⟨hB, h2, h1⟩ (fun w' h' => exec_load_all 26 _ rfl gu rfl _ _ _ h'.2.1 Try.underlying26 rfl 5 (by kernel_rfl) rfl) ?_
  go_frame
  refine y_yield 2 (some 22) (.int .i64 i) rfl (by kernel_rfl) (by kernel_rfl) (by kernel_rfl) (fun _ _ _ h => h) rfl rfl ⟨hB, h2, h1⟩ (fun w' h' => exec_move _ rfl (.int .i64 i) rfl) ?_
  go_frame
  refine y_yield 3 (some 23) (.pointer (some ⟨gt, 1, none⟩)) rfl (by kernel_rfl) (by kernel_rfl) (by kernel_rfl) (fun _ _ _ h => h) rfl rfl ⟨hB, h2, h1⟩ (fun w' h' => exec_fieldAddr 26 _ 1 rfl _ (by kernel_rfl)) ?_
  go_frame
  refine y_yield 4 (some 24) (.int .i64 n0) rfl (by kernel_rfl) (by kernel_rfl) (by kernel_rfl) (fun _ _ _ h => h) rfl rfl ⟨hB, h2, h1⟩ (fun w' h' => exec_load_one 2 _ rfl gt 1 rfl (.int .i64 n0) _ Try.underlying2 rfl (h'.2.2.at_ 1)) ?_
  go_frame
  refine y_yield 5 (some 25) (.int .i64 (i - n0)) rfl (by kernel_rfl) (by kernel_rfl) (by kernel_rfl) (fun _ _ _ h => h) rfl rfl ⟨hB, h2, h1⟩ (fun w' h' => exec_sub _ _ _ _ rfl i n0 (i - n0) rfl rfl (IntWalk.i64_in _ (by omega))) ?_
  go_frame
  refine y_yield 6 (some 26) (.int .i64 j) rfl (by kernel_rfl) (by kernel_rfl) (by kernel_rfl) (fun _ _ _ h => h) rfl rfl ⟨hB, h2, h1⟩ (fun w' h' => exec_move _ rfl (.int .i64 j) rfl) ?_
  go_frame
  refine y_yield 7 (some 27) (.pointer (some ⟨gt, 2, none⟩)) rfl (by kernel_rfl) (by kernel_rfl) (by kernel_rfl) (fun _ _ _ h => h) rfl rfl ⟨hB, h2, h1⟩ (fun w' h' => exec_fieldAddr 26 _ 2 rfl _ (by kernel_rfl)) ?_
  go_frame
  refine y_yield 8 (some 28) (.int .i64 n1) rfl (by kernel_rfl) (by kernel_rfl) (by kernel_rfl) (fun _ _ _ h => h) rfl rfl ⟨hB, h2, h1⟩ (fun w' h' => exec_load_one 2 _ rfl gt 2 rfl (.int .i64 n1) _ Try.underlying2 rfl (h'.2.2.at_ 2)) ?_
  go_frame
  refine y_yield 9 (some 29) (.int .i64 (j - n1)) rfl (by kernel_rfl) (by kernel_rfl) (by kernel_rfl) (fun _ _ _ h => h) rfl rfl ⟨hB, h2, h1⟩ (fun w' h' => exec_sub _ _ _ _ rfl j n1 (j - n1) rfl rfl (IntWalk.i64_in _ (by omega))) ?_
  go_frame
  refine y_yield 10 (some 30) (.int .i64 k) rfl (by kernel_rfl) (by kernel_rfl) (by kernel_rfl) (fun _ _ _ h => h) rfl rfl ⟨hB, h2, h1⟩ (fun w' h' => exec_move _ rfl (.int .i64 k) rfl) ?_
  go_frame
  refine y_yield 11 (some 31) (.pointer (some ⟨gt, 3, none⟩)) rfl (by kernel_rfl) (by kernel_rfl) (by kernel_rfl) (fun _ _ _ h => h) rfl rfl ⟨hB, h2, h1⟩ (fun w' h' => exec_fieldAddr 26 _ 3 rfl _ (by kernel_rfl)) ?_
  go_frame
  refine y_yield 12 (some 32) (.int .i64 n2) rfl (by kernel_rfl) (by kernel_rfl) (by kernel_rfl) (fun _ _ _ h => h) rfl rfl ⟨hB, h2, h1⟩ (fun w' h' => exec_load_one 2 _ rfl gt 3 rfl (.int .i64 n2) _ Try.underlying2 rfl (h'.2.2.at_ 3)) ?_
  go_frame
  refine y_yield 13 (some 33) (.int .i64 (k - n2)) rfl (by kernel_rfl) (by kernel_rfl) (by kernel_rfl) (fun _ _ _ h => h) rfl rfl ⟨hB, h2, h1⟩ (fun w' h' => exec_sub _ _ _ _ rfl k n2 (k - n2) rfl rfl (IntWalk.i64_in _ (by omega))) ?_
  go_frame
  refine y_oper 1 (by kernel_rfl) rfl rfl (fun K' hK' => ?_)
  have lz14 := hB.size
  have lz15 := h1.lt
  have lz16 := h2.lt
  refine wp_call1 (some 21) rfl 29 _ _ rfl (fun args w => by kernel_rfl) _ rfl _ (boxOf_c p d0 d1 d2 _ _) (fun e Wz12 h => ?_)
  obtain ⟨rfl, bz13⟩ := h
  replace hB := below_after hB bz13
  replace h1 := h1.after bz13
  replace h2 := h2.after bz13
  clear bz13
  refine ⟨_, rfl, ?_⟩
  refine hK' _ _ ⟨hB, h2, h1⟩ (fun _ => trivial) ?_
  clear hK' K'
  go_frame
  refine y_oper 14 (by kernel_rfl) rfl rfl (fun K' hK' => ?_)
  have lz19 := hB.size
  have lz20 := h1.lt
  have lz21 := h2.lt
  refine wp_call4 (some 34) rfl 41 _ _ _ _ _ rfl (fun args w => by kernel_rfl) _ _ _ _ rfl rfl rfl rfl _ (has_c d0 d1 d2 (i - n0) (j - n1) (k - n2) _) (fun e Wz17 h => ?_)
  obtain ⟨rfl, bz18⟩ := h
  replace hB := below_after hB bz18
  replace h1 := h1.after bz18
  replace h2 := h2.after bz18
  rw [HH2.out]
  clear bz18
  refine ⟨_, rfl, ?_⟩
  refine hK' _ _ ⟨hB, h2, h1⟩ (fun _ => trivial) ?_
  clear hK' K'
  go_frame
  refine y_done (by kernel_rfl) ?_ _
  go_upto_region 5 with (fail)
  refine wp_region_lit ?_
  refine ls_ex (some 8) (.int .i64 0) rfl rfl (exec_assign _ rfl (.int .i64 0) rfl) ?_
  go_frame
  refine wpList_nil ?_
  go_wp2_with fail
  go_ret
  exact ⟨by rw [HV.out]; rfl, hB⟩
theorem ds1_c (p : Int) (n0 n1 n2 : Nat) (A : Option Addr) (cap : Nat) (xs : List Int) (B : Option Addr) (cap2 : Nat) (ys : List Int) (d0 d1 d2 : Nat) (i j k gt gu : Nat) (w : World) (hr : RdI w A xs) (hs : RdI w B ys) (hl : xs.length = n0 * n1 * n2) (h0 : n0 ≤ 9) (h1 : n1 ≤ 9) (h2 : n2 ≤ 9) (hg : At w gt (.cells #[.int .i64 p, .int .i64 n0, .int .i64 n1, .int .i64 n2, .slice A xs.length cap] 26 (0, 0))) (hg2 : At w gu (.cells #[.int .i64 p, .int .i64 d0, .int .i64 d1, .int .i64 d2, .slice B ys.length cap2] 26 (0, 0))) (hl2 : ys.length = d0 * d1 * d2) (e0 : 1 ≤ d0 ∧ d0 ≤ 9) (e1 : 1 ≤ d1 ∧ d1 ≤ 9) (e2 : 1 ≤ d2 ∧ d2 ≤ 9) (hx : numsB p xs = true) (hy : numsB p ys = true) (hp : 2 ≤ p ∧ p ≤ 5) (hi : i ≤ 100) (hj : j ≤ 100) (hk : k ≤ 100) :
    Calls Try.prog 40 #[.int .i64 i, .int .i64 j, .int .i64 k, .pointer (some ⟨gt, 0, none⟩), .pointer (some ⟨gu, 0, none⟩)] w fun e w' => e = .returned (.int .i64 (dsF n0 n1 n2 d0 d1 d2 xs ys i j k)) ∧ Below w.heap.size w w' := by
  cases hc : hasB n0 n1 n2 i j k with
  | true => exact ds1a_c p n0 n1 n2 A cap xs B cap2 ys d0 d1 d2 i j k gt gu w hr hs hl h0 h1 h2 hg hg2 hl2 e0 e1 e2 hx hy hp hi hj hk hc
  | false =>
    cases hc2 : hasB d0 d1 d2 ((i : Int) - n0) ((j : Int) - n1) ((k : Int) - n2) with
    | true => exact ds1b_c p n0 n1 n2 A cap xs B cap2 ys d0 d1 d2 i j k gt gu w hr hs hl h0 h1 h2 hg hg2 hl2 e0 e1 e2 hx hy hp hi hj hk hc hc2
    | false => exact ds1c_c p n0 n1 n2 A cap xs B cap2 ys d0 d1 d2 i j k gt gu w hr hs hl h0 h1 h2 hg hg2 hl2 e0 e1 e2 hx hy hp hi hj hk hc hc2
theorem dsF_nonneg {p : Int} {n0 n1 n2 d0 d1 d2 : Nat} {xs ys : List Int} (hx : numsB p xs = true) (hy : numsB p ys = true) (hp : 0 < p) (i j k : Nat) : 0 ≤ dsF n0 n1 n2 d0 d1 d2 xs ys i j k ∧ dsF n0 n1 n2 d0 d1 d2 xs ys i j k < p := by
  unfold dsF
  split
  · exact numsB_nth hx hp _
  · split
    · exact numsB_nth hy hp _
    · exact ⟨Int.le_refl _, hp⟩
theorem kroF_nonneg {p : Int} {n1 n2 d0 d1 d2 : Nat} {xs ys : List Int} (hx : numsB p xs = true) (hy : numsB p ys = true) (hp : 0 < p) (i j k : Nat) : 0 ≤ kroF n1 n2 d0 d1 d2 xs ys i j k := Int.mul_nonneg (numsB_nth hx hp _).1 (numsB_nth hy hp _).1
theorem addF_nonneg {p kk : Int} {n1 n2 : Nat} {xs ys : List Int} (hx : numsB p xs = true) (hy : numsB p ys = true) (hp : 0 < p) (hk : 0 ≤ kk) (i j l : Nat) : 0 ≤ addF n1 n2 kk xs ys i j l := by
  have h1 := (numsB_nth hx hp ((((i * n1 + j) * n2 + l : Nat)) : Int)).1
  have h2 := Int.mul_nonneg hk (numsB_nth hy hp ((((i * n1 + j) * n2 + l : Nat)) : Int)).1
  unfold addF at3
  omega
end Go.Proofs.Ytcmpeoijedddjaa
