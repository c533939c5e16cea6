/-
  The function literals of AddTensors, KroneckerTensors and DirectSum. (Made by mktenb.py.)
-/
import Derived.Test.YtdgaphcpoincpaaTenA
namespace Go.Proofs.Ytdgaphcpoincpaa
open Go.RowKit
set_option maxRecDepth 100000
theorem wrap_quo (i d : Nat) (hi : i ≤ 1000) : IntKind.i64.wrap ((i : Int).tdiv (d : Int)) = ((i / d : Nat) : Int) := by
  rw [← Int.ofNat_tdiv]
  have := Nat.div_le_self i d
  generalize i / d = q at *
  exact IntWalk.i64_in _ (by omega)
theorem nat_rem (i d : Nat) : (i : Int).tmod (d : Int) = ((i % d : Nat) : Int) := (Int.ofNat_tmod i d).symm
theorem mul_small {a b p : Int} (ha : 0 ≤ a ∧ a < p) (hb : 0 ≤ b ∧ b < p) (hp : p ≤ 5) : 0 ≤ a * b ∧ a * b ≤ 25 := by
  refine ⟨Int.mul_nonneg ha.1 hb.1, ?_⟩
  have h1 : a * b ≤ 5 * b := Int.mul_le_mul_of_nonneg_right (by omega) hb.1
  omega
def addF (n1 n2 : Nat) (kk : Int) (xs ys : List Int) (i j l : Nat) : Int := at3 n1 n2 xs i j l + kk * at3 n1 n2 ys i j l
set_option maxHeartbeats 1600000 in
theorem add1_c (p : Int) (n0 n1 n2 : Nat) (A : Option Addr) (cap : Nat) (xs : List Int) (B : Option Addr) (cap2 : Nat) (ys : List Int) (kk : Int) (i j l gt gk gu : Nat) (w : World) (hr : RdI w A xs) (hs : RdI w B ys) (hl : xs.length = n0 * n1 * n2) (h0 : n0 ≤ 9) (h1 : n1 ≤ 9) (h2 : n2 ≤ 9) (hg : At w gt (.cells #[.int .i64 p, .int .i64 n0, .int .i64 n1, .int .i64 n2, .slice A xs.length cap] 27 (0, 0))) (hg2 : At w gu (.cells #[.int .i64 p, .int .i64 n0, .int .i64 n1, .int .i64 n2, .slice B ys.length cap2] 27 (0, 0))) (hgk : At w gk (.cells #[.int .i64 kk] 2 (0, 0))) (hl2 : ys.length = n0 * n1 * n2)
    (hx : numsB p xs = true) (hy : numsB p ys = true) (hp : 2 ≤ p ∧ p ≤ 5) (hk : 0 ≤ kk ∧ kk < p) (hi : i < n0) (hj : j < n1) (hm : l < n2) :
    Calls Try.prog 41 #[.int .i64 i, .int .i64 j, .int .i64 l, .pointer (some ⟨gt, 0, none⟩), .pointer (some ⟨gk, 0, none⟩), .pointer (some ⟨gu, 0, none⟩)] w fun e w' => e = .returned (.int .i64 (addF n1 n2 kk xs ys i j l)) ∧ Below w.heap.size w w' := by
  have hB := Below.refl w.heap.size w
  have HN1 := Lib.hid (fun w' (hb : Below w.heap.size w w') => numberAt_n p n0 n1 n2 A cap xs i j l w' (hr.keep hb) hl h0 h1 h2 hi hj hm)
  have HN2 := Lib.hid (fun w' (hb : Below w.heap.size w w') => numberAt_n p n0 n1 n2 B cap2 ys i j l w' (hs.keep hb) hl2 h0 h1 h2 hi hj hm)
  have bx : 0 ≤ at3 n1 n2 xs i j l ∧ at3 n1 n2 xs i j l < p := numsB_nth hx (by omega) _
  have by_ : 0 ≤ at3 n1 n2 ys i j l ∧ at3 n1 n2 ys i j l < p := numsB_nth hy (by omega) _
  have bm := mul_small hk by_ hp.2
  unfold addF
  generalize at3 n1 n2 xs i j l = X at *
  generalize at3 n1 n2 ys i j l = Y at *
  clear hr hs hl hl2 hx hy h0 h1 h2
  have h1 := hg
  have h2 := hg2
  have h3 := hgk
  clear hg hg2 hgk
  go_enter Try.func41, Try.ntmps41
  go_upto_region 0 with (fail)
  refine wp_region_lit ?_
  refine ls_ex (some 9) (.int .i64 0) rfl rfl (exec_assign _ rfl (.int .i64 0) rfl) ?_
  go_frame
  refine wpList_nil ?_
  go_upto_region 1 with (fail)
  refine wp_region_y (zs := []) (S := fun w' => Below w.heap.size w w' ∧ At w' gt (.cells #[.int .i64 p, .int .i64 n0, .int .i64 n1, .int .i64 n2, .slice A xs.length cap] 27 (0, 0)) ∧ At w' gk (.cells #[.int .i64 kk] 2 (0, 0)) ∧ At w' gu (.cells #[.int .i64 p, .int .i64 n0, .int .i64 n1, .int .i64 n2, .slice B ys.length cap2] 27 (0, 0))) (S2 := fun w' => True) (by kernel_rfl) ?_
  change wpAnyY _ _ _ _ _ _ _ _ _ _ (World.drew _)
  generalize hwdz1 : World.drew _ = wdz1
  replace hB : Below w.heap.size w wdz1 := by rw [← hwdz1]; exact hB.drew
  replace h1 : At wdz1 gt (.cells #[.int .i64 p, .int .i64 n0, .int .i64 n1, .int .i64 n2, .slice A xs.length cap] 27 (0, 0)) := by rw [← hwdz1]; exact h1
  replace h2 : At wdz1 gu (.cells #[.int .i64 p, .int .i64 n0, .int .i64 n1, .int .i64 n2, .slice B ys.length cap2] 27 (0, 0)) := by rw [← hwdz1]; exact h2
  replace h3 : At wdz1 gk (.cells #[.int .i64 kk] 2 (0, 0)) := by rw [← hwdz1]; exact h3
  clear hwdz1
  refine y_yield 0 (some 10) (.agg #[.int .i64 p, .int .i64 n0, .int .i64 n1, .int .i64 n2, .slice A xs.length cap]) rfl (by kernel_rfl) (by kernel_rfl) (by kernel_rfl) (fun _ _ _ h => h) rfl rfl ⟨hB, h1, h3, h2⟩ (fun w' h' => exec_load_all 27 _ rfl gt rfl _ _ _ h'.2.1 Try.underlying27 rfl 5 (by kernel_rfl) rfl) ?_
  go_frame
  refine y_yield 1 (some 11) (.int .i64 i) rfl (by kernel_rfl) (by kernel_rfl) (by kernel_rfl) (fun _ _ _ h => h) rfl rfl ⟨hB, h1, h3, h2⟩ (fun w' h' => exec_move _ rfl (.int .i64 i) rfl) ?_
  go_frame
  refine y_yield 2 (some 12) (.int .i64 j) rfl (by kernel_rfl) (by kernel_rfl) (by kernel_rfl) (fun _ _ _ h => h) rfl rfl ⟨hB, h1, h3, h2⟩ (fun w' h' => exec_move _ rfl (.int .i64 j) rfl) ?_
  go_frame
  refine y_yield 3 (some 13) (.int .i64 l) rfl (by kernel_rfl) (by kernel_rfl) (by kernel_rfl) (fun _ _ _ h => h) rfl rfl ⟨hB, h1, h3, h2⟩ (fun w' h' => exec_move _ rfl (.int .i64 l) rfl) ?_
  go_frame
  refine y_yield 5 (some 15) (.int .i64 kk) rfl (by kernel_rfl) (by kernel_rfl) (by kernel_rfl) (fun _ _ _ h => h) rfl rfl ⟨hB, h1, h3, h2⟩ (fun w' h' => exec_load_one 2 _ rfl gk 0 rfl (.int .i64 kk) _ Try.underlying2 rfl (h'.2.2.1.at_ 0)) ?_
  go_frame
  refine y_yield 6 (some 16) (.agg #[.int .i64 p, .int .i64 n0, .int .i64 n1, .int .i64 n2, .slice B ys.length cap2]) rfl (by kernel_rfl) (by kernel_rfl) (by kernel_rfl) (fun _ _ _ h => h) rfl rfl ⟨hB, h1, h3, h2⟩ (fun w' h' => exec_load_all 27 _ rfl gu rfl _ _ _ h'.2.2.2 Try.underlying27 rfl 5 (by kernel_rfl) rfl) ?_
  go_frame
  refine y_yield 7 (some 17) (.int .i64 i) rfl (by kernel_rfl) (by kernel_rfl) (by kernel_rfl) (fun _ _ _ h => h) rfl rfl ⟨hB, h1, h3, h2⟩ (fun w' h' => exec_move _ rfl (.int .i64 i) rfl) ?_
  go_frame
  refine y_yield 8 (some 18) (.int .i64 j) rfl (by kernel_rfl) (by kernel_rfl) (by kernel_rfl) (fun _ _ _ h => h) rfl rfl ⟨hB, h1, h3, h2⟩ (fun w' h' => exec_move _ rfl (.int .i64 j) rfl) ?_
  go_frame
  refine y_yield 9 (some 19) (.int .i64 l) rfl (by kernel_rfl) (by kernel_rfl) (by kernel_rfl) (fun _ _ _ h => h) rfl rfl ⟨hB, h1, h3, h2⟩ (fun w' h' => exec_move _ rfl (.int .i64 l) rfl) ?_
  go_frame
  refine y_oper 4 (by kernel_rfl) rfl rfl (fun K' hK' => ?_)
  have lz4 := hB.size
  have lz5 := h1.lt
  have lz6 := h2.lt
  have lz7 := h3.lt
  refine wp_call4 (some 14) rfl 32 _ _ _ _ _ rfl (fun args w => by kernel_rfl) _ _ _ _ rfl rfl rfl rfl _ (HN1.out _ hB) (fun e Wz2 h => ?_)
  obtain ⟨rfl, bz3⟩ := h
  replace hB := below_after hB bz3
  replace h1 := h1.after bz3
  replace h2 := h2.after bz3
  replace h3 := h3.after bz3
  clear bz3
  refine ⟨_, rfl, ?_⟩
  refine hK' _ _ ⟨hB, h1, h3, h2⟩ (fun _ => trivial) ?_
  clear hK' K'
  go_frame
  refine y_oper 10 (by kernel_rfl) rfl rfl (fun K' hK' => ?_)
  have lz10 := hB.size
  have lz11 := h1.lt
  have lz12 := h2.lt
  have lz13 := h3.lt
  refine wp_call4 (some 20) rfl 32 _ _ _ _ _ rfl (fun args w => by kernel_rfl) _ _ _ _ rfl rfl rfl rfl _ (HN2.out _ hB) (fun e Wz8 h => ?_)
  obtain ⟨rfl, bz9⟩ := h
  replace hB := below_after hB bz9
  replace h1 := h1.after bz9
  replace h2 := h2.after bz9
  replace h3 := h3.after bz9
  clear bz9
  refine ⟨_, rfl, ?_⟩
  refine hK' _ _ ⟨hB, h1, h3, h2⟩ (fun _ => trivial) ?_
  clear hK' K'
  go_frame
  refine y_yield 11 (some 21) (.int .i64 (kk * Y)) rfl (by kernel_rfl) (by kernel_rfl) (by kernel_rfl) (fun _ _ _ h => h) rfl rfl ⟨hB, h1, h3, h2⟩ (fun w' h' => exec_mul _ _ _ _ rfl kk Y (kk * Y) rfl rfl (IntWalk.i64_in _ (by omega))) ?_
  go_frame
  refine y_yield 12 (some 22) (.int .i64 (X + (kk * Y))) rfl (by kernel_rfl) (by kernel_rfl) (by kernel_rfl) (fun _ _ _ h => h) rfl rfl ⟨hB, h1, h3, h2⟩ (fun w' h' => exec_add _ _ _ _ rfl X ((kk * Y)) (X + (kk * Y)) rfl rfl (IntWalk.i64_in _ (by omega))) ?_
  go_frame
  refine y_oper 13 (by kernel_rfl) rfl rfl (fun K' hK' => ?_)
  refine wp_exec (some 9) rfl (.int .i64 (X + (kk * Y))) (exec_assign _ rfl (.int .i64 (X + (kk * Y))) rfl) ?_
  refine hK' _ _ ⟨hB, h1, h3, h2⟩ (fun _ => trivial) ?_
  clear hK' K'
  go_frame
  refine y_done (by kernel_rfl) ?_ _
  go_wp2_with fail
  go_ret
  exact ⟨rfl, hB⟩
def kroF (n1 n2 d0 d1 d2 : Nat) (xs ys : List Int) (i j k : Nat) : Int := at3 n1 n2 xs (i / d0) (j / d1) (k / d2) * at3 d1 d2 ys (i % d0) (j % d1) (k % d2)
def dsF (n0 n1 n2 d0 d1 d2 : Nat) (xs ys : List Int) (i j k : Nat) : Int :=
  if hasB n0 n1 n2 i j k = true then at3 n1 n2 xs i j k else if hasB d0 d1 d2 ((i : Int) - n0) ((j : Int) - n1) ((k : Int) - n2) = true then nthI ys ((((i : Int) - n0) * d1 + ((j : Int) - n1)) * d2 + ((k : Int) - n2)) else 0
theorem dsF_nonneg {p : Int} {n0 n1 n2 d0 d1 d2 : Nat} {xs ys : List Int} (hx : numsB p xs = true) (hy : numsB p ys = true) (hp : 0 < p) (i j k : Nat) : 0 ≤ dsF n0 n1 n2 d0 d1 d2 xs ys i j k ∧ dsF n0 n1 n2 d0 d1 d2 xs ys i j k < p := by
  unfold dsF
  split
  · exact numsB_nth hx hp _
  · split
    · exact numsB_nth hy hp _
    · exact ⟨Int.le_refl _, hp⟩
theorem kroF_nonneg {p : Int} {n1 n2 d0 d1 d2 : Nat} {xs ys : List Int} (hx : numsB p xs = true) (hy : numsB p ys = true) (hp : 0 < p) (i j k : Nat) : 0 ≤ kroF n1 n2 d0 d1 d2 xs ys i j k := Int.mul_nonneg (numsB_nth hx hp _).1 (numsB_nth hy hp _).1
theorem addF_nonneg {p kk : Int} {n1 n2 : Nat} {xs ys : List Int} (hx : numsB p xs = true) (hy : numsB p ys = true) (hp : 0 < p) (hk : 0 ≤ kk) (i j l : Nat) : 0 ≤ addF n1 n2 kk xs ys i j l := by
  have h1 := (numsB_nth hx hp ((((i * n1 + j) * n2 + l : Nat)) : Int)).1
  have h2 := Int.mul_nonneg hk (numsB_nth hy hp ((((i * n1 + j) * n2 + l : Nat)) : Int)).1
  unfold addF at3
  omega
end Go.Proofs.Ytdgaphcpoincpaa
