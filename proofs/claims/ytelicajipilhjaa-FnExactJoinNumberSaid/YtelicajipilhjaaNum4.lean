/-
  impl.joinNumber; JoinNumber of spec and impl. (Made by mknum4.py.)
-/
import Derived.Test.YtelicajipilhjaaNum2
import Derived.Test.YtelicajipilhjaaNum3
namespace Go.Proofs.Ytelicajipilhjaa
open Go.RowKit
set_option maxRecDepth 100000
set_option maxHeartbeats 3200000 in
theorem joinNumber_c : ∀ (s n m k : Nat), n + m + k ≤ s → (1 ≤ n ∧ n ≤ 3) → (1 ≤ m ∧ m ≤ 3) → (1 ≤ k ∧ k ≤ 3) → ∀ w, Calls Try.prog 41 #[.agg #[.int .i64 n, .int .i64 m, .int .i64 k]] w fun e w' => e = .returned (.int .i64 (jn n m k : Nat)) ∧ Below w.heap.size w w'
  | 0, n, m, k, h, hn, _, _ => by omega
  | s + 1, n, m, k, hs, hn, hm, hk => by
    intro w
    have ih := fun n' m' k' h1 h2 h3 h4 => joinNumber_c s n' m' k' h1 h2 h3 h4
    have HE : Hid (∀ {o : Oper} {a : Act} {w : World} (x y : Operand) (t' : TypeId) (n m k n' m' k' : Int), o.op = .binOp .eql 53 x y t' → a.eval x = .agg #[.int .i64 n, .int .i64 m, .int .i64 k] → a.eval y = .agg #[.int .i64 n', .int .i64 m', .int .i64 k'] → ∀ b, (n == n' && (m == m' && k == k')) = b → (execOp a.eval o).run Try.prog w = .ok (.value (.bool b)) w) := Lib.hid (fun x y t' n m k n' m' k' ho hx hy b hb => exec_eql_three Try.underlying53 (by kernel_rfl) x y t' ho n m k n' m' k' hx hy b hb)
    cases h1 : (n == 1 && (m == 1 && k == 1)) with
    | true =>
      have E1 : Hid (((n : Int) == 1 && ((m : Int) == 1 && (k : Int) == 1)) = true) := Lib.hid (by have := beq3 n m k 1; rw [h1] at this; exact this)
      have HJ : Hid (jn n m k = 1) := Lib.hid (by simp only [Bool.and_eq_true, beq_iff_eq] at h1; rw [h1.1, h1.2.1, h1.2.2]; rfl)
      clear h1 ih
      go_enter Try.func41, Try.ntmps41
      go_wp2_with (refine wpList_of_exec rfl (HE.out _ _ _ n m k 1 1 1 rfl rfl rfl true E1.out) ?_)
      go_ret
      exact ⟨by rw [HJ.out]; rfl, below1 _ _⟩
    | false =>
      have E1 : Hid (((n : Int) == 1 && ((m : Int) == 1 && (k : Int) == 1)) = false) := Lib.hid (by have := beq3 n m k 1; rw [h1] at this; exact this)
      cases h2 : (n == 2 && (m == 2 && k == 2)) with
      | true =>
        have E2 : Hid (((n : Int) == 2 && ((m : Int) == 2 && (k : Int) == 2)) = true) := Lib.hid (by have := beq3 n m k 2; rw [h2] at this; exact this)
        have HJ : Hid (jn n m k = 7) := Lib.hid (by simp only [Bool.and_eq_true, beq_iff_eq] at h2; rw [h2.1, h2.2.1, h2.2.2]; rfl)
        clear h1 h2 ih
        go_enter Try.func41, Try.ntmps41
        go_wp2_with (first | (refine wpList_of_exec rfl (HE.out _ _ _ n m k 1 1 1 rfl rfl rfl false E1.out) ?_) | (refine wpList_of_exec rfl (HE.out _ _ _ n m k 2 2 2 rfl rfl rfl true E2.out) ?_))
        go_ret
        exact ⟨by rw [HJ.out]; rfl, below1 _ _⟩
      | false =>
        have E2 : Hid (((n : Int) == 2 && ((m : Int) == 2 && (k : Int) == 2)) = false) := Lib.hid (by have := beq3 n m k 2; rw [h2] at this; exact this)
        have HD := Lib.hid (leastDivision_of n m k hn hm hk (Lib.hid (jn_bs hn hm hk h1 h2).2) (fun n' m' k' h3 => ih n' m' k' (by omega)))
        clear h1 h2 ih
        have hB := below1 w (.cells #[.int .i64 n, .int .i64 m, .int .i64 k] 53 (0, 0))
        have h0 : At (w.alloc (.cells #[.int .i64 n, .int .i64 m, .int .i64 k] 53 (0, 0))) w.heap.size (.cells #[.int .i64 n, .int .i64 m, .int .i64 k] 53 (0, 0)) := al1_0 _ _
        go_enter Try.func41, Try.ntmps41
        go_wp2_with (first | (refine wpList_of_exec rfl (HE.out _ _ _ n m k 1 1 1 rfl rfl rfl false E1.out) ?_) | (refine wpList_of_exec rfl (HE.out _ _ _ n m k 2 2 2 rfl rfl rfl false E2.out) ?_))
        refine (HD.out _).mono ?_
        rintro e w2 ⟨f0, f1, f2, s0, s1, s2, ov, rfl, b2⟩
        replace hB := below_after hB b2
        clear b2 h0
        have HF : Hid (∀ {o : Oper} {a : Act} {w : World} (x : Operand), o.op = .field 83 x 3 → a.eval x = .agg #[.int .i64 f0, .int .i64 f1, .int .i64 f2, .int .i64 s0, .int .i64 s1, .int .i64 s2, .int .i64 ov, .int .i64 (jn n m k : Nat)] → (execOp a.eval o).run Try.prog w = .ok (.value (.int .i64 (jn n m k : Nat))) w) := Lib.hid (fun x ho hx => by unfold execOp; simp only [ho, hx]; kernel_rfl)
        go_wp2_with (refine wpList_of_exec rfl (HF.out _ rfl rfl) ?_)
        go_ret
        exact ⟨rfl, hB⟩
def jnA (n m k : Int) : Int := if sizeB n && sizeB m && sizeB k then (jn n.toNat m.toNat k.toNat : Nat) else 0
def jnCode (n m k : Int) : Int := if sizeB n && sizeB m && sizeB k then 0 else 2
theorem sizeB_nat' {n : Int} (h : sizeB n = true) : ∃ N : Nat, n = N ∧ 1 ≤ N ∧ N ≤ 3 := by
  simp only [sizeB, Bool.and_eq_true, decide_eq_true_eq] at h
  exact ⟨n.toNat, by omega, by omega, by omega⟩
set_option maxHeartbeats 800000 in
theorem specJoinNumber_c (n m k : Int) (w : World) :
    Calls Try.prog 21 #[.int .i64 n, .int .i64 m, .int .i64 k] w fun e w' => e = .returned (.tuple #[.int .i64 (jnA n m k), .int .i64 (jnCode n m k)]) ∧ Below w.heap.size w w' := by
  have H2 : Hid (sizesB 2 n m k = (sizeB n && sizeB m && sizeB k)) := Lib.hid (by unfold sizesB; rw [show primeB 2 = true from rfl, Bool.true_and])
  cases hs : (sizeB n && sizeB m && sizeB k) with
  | false =>
    have Hr : Hid (jnA n m k = 0 ∧ jnCode n m k = 2) := Lib.hid (by simp [jnA, jnCode, hs])
    have Hs := Lib.hid hs
    clear hs
    go_enter Try.func21, Try.ntmps21
    go_wp2_with fail
    refine (l01Sizes_c 2 n m k _).mono ?_
    rintro e w1 ⟨rfl, rfl⟩
    rw [H2.out, Hs.out]
    go_wp2_with fail
    go_ret2
    exact ⟨by rw [Hr.out.1, Hr.out.2]; rfl, Below.refl _ _⟩
  | true =>
    have Hr : Hid (jnA n m k = (jn n.toNat m.toNat k.toNat : Nat) ∧ jnCode n m k = 0) := Lib.hid (by simp [jnA, jnCode, hs])
    have Hs := Lib.hid hs
    simp only [Bool.and_eq_true] at hs
    obtain ⟨N, rfl, hN⟩ := sizeB_nat' hs.1.1
    obtain ⟨M, rfl, hM⟩ := sizeB_nat' hs.1.2
    obtain ⟨K, rfl, hK⟩ := sizeB_nat' hs.2
    simp only [Int.toNat_natCast] at Hr
    have HN := Lib.hid (l02Number_c (N + M + K) N M K (Nat.le_refl _) hN hM hK)
    clear hs
    go_enter Try.func21, Try.ntmps21
    go_wp2_with fail
    refine (l01Sizes_c 2 N M K _).mono ?_
    rintro e w1 ⟨rfl, rfl⟩
    rw [H2.out, Hs.out]
    go_wp2_with fail
    refine (HN.out _).mono ?_
    rintro e w2 ⟨rfl, b2⟩
    go_wp2_with fail
    go_ret2
    exact ⟨by rw [Hr.out.1, Hr.out.2]; rfl, b2⟩

end Go.Proofs.Ytelicajipilhjaa
