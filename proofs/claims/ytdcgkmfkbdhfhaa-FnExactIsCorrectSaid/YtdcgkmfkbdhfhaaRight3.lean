/-
  impl.sideAt (of rightSides), impl.RightSide; the law laws.FnExactRightSide, walked.
-/
import Derived.Test.YtdcgkmfkbdhfhaaRight2
import Derived.Deep.RegionWith
namespace Go.Proofs.Ytdcgkmfkbdhfhaa
open Go.RowKit
set_option maxRecDepth 100000
theorem zeros_get (n i : Nat) : (List.replicate n (0 : Nat))[i]?.getD 0 = 0 := by
  rw [List.getElem?_replicate]
  split <;> rfl
theorem unitL_get {i j : Nat} (hi : i < 9) : (unitL j)[i]?.getD 0 = if i = j then 1 else 0 := by
  unfold unitL
  rw [List.getElem?_set]
  by_cases h : j = i
  · subst h; simp [hi]
  · have h' : ¬ i = j := fun e => h e.symm
    rw [if_neg h, if_neg h', zeros_get]
theorem right_at {n m k a b : Int} {c : Nat} (hn : 1 ≤ n ∧ n ≤ 3) (hm : 1 ≤ m ∧ m ≤ 3) (hk : 1 ≤ k ∧ k ≤ 3) (ha : 0 ≤ a ∧ a < n * m) (hb : 0 ≤ b ∧ b < m * k) (hc : (c : Int) < n * k) :
    (((rightL m k a b)[c]?.getD 0 : Nat) : Int) = wantI m k a b c := by
  have hb9 := mul_bounds hn.1 hn.2 hk.1 hk.2
  have hc9 : c < 9 := by omega
  obtain ⟨_, _, q3, q4⟩ := place_bounds (b := b) hn hm hk ha
  unfold rightL wantI
  by_cases h1 : a % m = b / k
  · rw [if_pos h1, unitL_get hc9]
    have e : (c = (a / m * k + b % k).toNat) ↔ (a % m = b / k ∧ a / m = (c : Int) / k ∧ b % k = (c : Int) % k) := by
      have hm' : m = 1 ∨ m = 2 ∨ m = 3 := by omega
      have hk' : k = 1 ∨ k = 2 ∨ k = 3 := by omega
      rcases hm' with rfl | rfl | rfl <;> rcases hk' with rfl | rfl | rfl <;> omega
    by_cases h2 : c = (a / m * k + b % k).toNat
    · rw [if_pos h2, if_pos (e.1 h2)]; rfl
    · rw [if_neg h2, if_neg (fun h => h2 (e.2 h))]; rfl
  · rw [if_neg h1, if_neg (fun h => h1 h.1), zeros_get]
    rfl
theorem rightL_bytes (m k a b : Int) : Bytes 9 (rightL m k a b) := by
  unfold rightL
  split
  · exact (Bytes.zeros 9).set _ 1 (by omega)
  · exact Bytes.zeros 9
set_option maxHeartbeats 1600000 in
theorem sideAt_right_c (p n m k a b c : Int) (A : Option Addr) (cap : Nat) (qs : List (List Nat)) (w : World) (hr : Rd w A qs) (hlen : qs.length ≤ 1048576) :
    Calls Try.prog 29 #[.agg #[.int .i64 p, .int .i64 n, .int .i64 m, .int .i64 k, .slice A qs.length cap], .int .i64 a, .int .i64 b, .int .i64 c, .func (.func 33) #[] #[]] w
      fun e w' => e = .returned (.tuple #[.int .i64 (sideI (wantI m k a b c) (codeI p n m k qs a b c)), .int .i64 (codeI p n m k qs a b c)]) ∧ Below w.heap.size w w' := by
  cases hs : schemeB p n m k qs with
  | false =>
    have Hs := Lib.hid hs
    have Hc : Hid (codeI p n m k qs a b c = 1) := Lib.hid (by simp [codeI, hs])
    clear hs
    go_enter Try.func29, Try.ntmps29
    go_wp2_with fail
    refine (implIsScheme_c p n m k A cap qs _ (hr.keep (below1 _ _)) hlen).mono ?_
    rintro e w1 ⟨rfl, c1⟩
    have hB := below_after (below1 _ _) c1
    rw [Hs.out]
    go_wp2_with fail
    go_ret2
    exact ⟨by rw [Hc.out]; rfl, hB⟩
  | true =>
    have Hs := Lib.hid hs
    have Hp := Lib.hid (sizesB_parts (schemeB_sizes hs))
    have Hbd := Lib.hid (sizes_bounds (schemeB_sizes hs))
    have Hmul := Lib.hid (sizesB_mul (schemeB_sizes hs))
    go_enter Try.func29, Try.ntmps29
    have Hc : Hid (codeI p n m k qs a b c = if eqnB n m k a b c then 0 else 2) := Lib.hid (by simp [codeI, hs])
    clear hs
    go_wp2_with fail
    refine (implIsScheme_c p n m k A cap qs _ (hr.keep (below1 _ _)) hlen).mono ?_
    rintro e w1 ⟨rfl, c1⟩
    have hB := below_after (below1 _ _) c1
    have h0 := At.after (al1_0 _ _) c1
    clear c1
    rw [Hs.out]
    go_wp2_with (refine wpList_load_all rfl 30 _ rfl w.heap.size rfl _ _ _ h0 Try.underlying30 rfl 5 (by kernel_rfl) rfl ?_)
    refine (isEquation_c p n m k a b c _ _ Hp.out.2.1 Hp.out.2.2.1 Hp.out.2.2.2).mono ?_
    rintro e w2 ⟨rfl, c1⟩
    replace hB := below_after hB c1
    replace h0 := h0.after c1
    clear c1
    cases he : eqnB n m k a b c with
    | false =>
      have He := Lib.hid he
      clear he
      go_wp2_with fail
      go_ret2
      exact ⟨by rw [Hc.out, He.out]; rfl, hB⟩
    | true =>
      have He := Lib.hid he
      obtain ⟨⟨a1, a2⟩, ⟨b1, b2⟩, c1, c2⟩ := eqnB_bounds he
      obtain ⟨cn, rfl⟩ := Int.eq_ofNat_of_zero_le c1
      have hc9 : cn < 9 := by have := Hmul.out; omega
      have ha9 : a < 9 := by have := Hmul.out; omega
      have hb9 : b < 9 := by have := Hmul.out; omega
      have Hat := Lib.hid (right_at Hbd.out.1 Hbd.out.2.1 Hbd.out.2.2 ⟨a1, a2⟩ ⟨b1, b2⟩ c2)
      have hlt := (rightL_bytes m k a b).lt cn
      have HR := Lib.hid (fun v w => rightSides_c p n m k a b v w Hbd.out.1 Hbd.out.2.1 Hbd.out.2.2 ⟨a1, a2⟩ ha9 ⟨b1, hb9⟩)
      clear he a1 a2 b1 b2 c1 c2 ha9 hb9
      go_wp2_with (refine wpList_load_all rfl 30 _ rfl w.heap.size rfl _ _ _ h0 Try.underlying30 rfl 5 (by kernel_rfl) rfl ?_)
      refine (HR.out _ _).mono ?_
      rintro e w3 ⟨rfl, c1⟩
      replace hB := below_after hB c1
      clear c1
      go_wp2_with (refine wpList_of_exec rfl (exec_index_u8s 58 5 _ _ rfl 9 cn (rightL m k a b) rfl rfl Try.underlying58 Try.underlying5 (by kernel_rfl) (rightL_bytes m k a b).len hc9) ?_)
      go_ret2
      exact ⟨by rw [Hc.out, He.out, ← Hat.out]; rfl, hB⟩
theorem implRightSide_c (p n m k a b c : Int) (A : Option Addr) (cap : Nat) (qs : List (List Nat)) (w : World) (hr : Rd w A qs) (hlen : qs.length ≤ 1048576) :
    Calls Try.prog 14 #[.agg #[.int .i64 p, .int .i64 n, .int .i64 m, .int .i64 k, .slice A qs.length cap], .int .i64 a, .int .i64 b, .int .i64 c] w
      fun e w' => e = .returned (.tuple #[.int .i64 (sideI (wantI m k a b c) (codeI p n m k qs a b c)), .int .i64 (codeI p n m k qs a b c)]) ∧ Below w.heap.size w w' := by
  go_enter Try.func14, Try.ntmps14
  go_wp2_with fail
  refine (sideAt_right_c p n m k a b c A cap qs _ (hr.keep (below1 _ _)) hlen).mono ?_
  rintro e w1 ⟨rfl, c1⟩
  have hB := below_after (below1 _ _) c1
  go_wp2_with fail
  go_ret2
  exact ⟨rfl, hB⟩
end Go.Proofs.Ytdcgkmfkbdhfhaa
