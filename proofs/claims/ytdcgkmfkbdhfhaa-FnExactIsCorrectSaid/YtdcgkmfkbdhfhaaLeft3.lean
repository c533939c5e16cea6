/-
  spec.LeftSide; impl.sideAt (of leftSides), impl.LeftSide.
-/
import Derived.Test.YtdcgkmfkbdhfhaaLeft2
namespace Go.Proofs.Ytdcgkmfkbdhfhaa
open Go.RowKit
set_option maxRecDepth 100000
def leftI (p : Int) (qs : List (List Nat)) (a b c : Int) : Int := (sumN qs a.toNat b.toNat c.toNat : Nat) % p
theorem primeB_bounds {p : Int} (h : primeB p = true) : 2 ≤ p ∧ p ≤ 5 := by
  simp only [primeB, Bool.or_eq_true, beq_iff_eq] at h
  omega
set_option maxHeartbeats 800000 in
theorem specLeftSide_c (p n m k a b c : Int) (A : Option Addr) (cap : Nat) (qs : List (List Nat)) (w : World) (hr : Rd w A qs) (hlen : qs.length ≤ 1048576) :
    Calls Try.prog 9 #[.agg #[.int .i64 p, .int .i64 n, .int .i64 m, .int .i64 k, .slice A qs.length cap], .int .i64 a, .int .i64 b, .int .i64 c] w
      fun e w' => e = .returned (.tuple #[.int .i64 (sideI (leftI p qs a b c) (codeI p n m k qs a b c)), .int .i64 (codeI p n m k qs a b c)]) ∧ Below w.heap.size w w' := by
  rcases codeI_cases p n m k qs a b c with h | h | ⟨h, hs, he⟩
  · have H := Lib.hid h
    clear h
    go_enter Try.func9, Try.ntmps9
    go_wp2_with fail
    refine (l01Places_c p n m k a b c A cap qs _ (hr.keep (below1 _ _)) hlen).mono ?_
    rintro e w1 ⟨rfl, c1⟩
    have hB := below_after (below1 _ _) c1
    rw [H.out]
    go_wp2_with fail
    go_ret2
    exact ⟨by rw [H.out]; rfl, hB⟩
  · have H := Lib.hid h
    clear h
    go_enter Try.func9, Try.ntmps9
    go_wp2_with fail
    refine (l01Places_c p n m k a b c A cap qs _ (hr.keep (below1 _ _)) hlen).mono ?_
    rintro e w1 ⟨rfl, c1⟩
    have hB := below_after (below1 _ _) c1
    rw [H.out]
    go_wp2_with fail
    go_ret2
    exact ⟨by rw [H.out]; rfl, hB⟩
  · have H := Lib.hid h
    have heb := eqnB_bounds he
    have hmul := sizesB_mul (schemeB_sizes hs)
    have hpp := primeB_pos (sizesB_parts (schemeB_sizes hs)).1
    have h30 := schemeB_len hs
    obtain ⟨⟨a1, a2⟩, ⟨b1, b2⟩, d1, d2⟩ := heb
    obtain ⟨an, rfl⟩ := Int.eq_ofNat_of_zero_le a1
    obtain ⟨bn, rfl⟩ := Int.eq_ofNat_of_zero_le b1
    obtain ⟨cn, rfl⟩ := Int.eq_ofNat_of_zero_le d1
    have HW := Lib.hid (fun A c w hr => l01Sum_c p n m k A c qs an bn cn w hpp hr h30 (by omega) (by omega) (by omega))
    clear h hs he a1 a2 b1 b2 d1 d2 hmul hpp h30
    go_enter Try.func9, Try.ntmps9
    go_wp2_with fail
    refine (l01Places_c p n m k an bn cn A cap qs _ (hr.keep (below1 _ _)) hlen).mono ?_
    rintro e w1 ⟨rfl, c1⟩
    have hB := below_after (below1 _ _) c1
    have h0 := At.after (al1_0 _ _) c1
    clear c1
    rw [H.out]
    go_wp2_with (refine wpList_load_all rfl 30 _ rfl w.heap.size rfl _ _ _ h0 Try.underlying30 rfl 5 (by kernel_rfl) rfl ?_)
    refine (HW.out _ _ _ (hr.keep hB)).mono ?_
    rintro e w2 ⟨rfl, c2⟩
    have hB2 := below_after hB c2
    go_wp2_with fail
    go_ret2
    exact ⟨by rw [H.out]; rfl, hB2⟩
set_option maxHeartbeats 1600000 in
theorem sideAt_left_c (p n m k a b c : Int) (A : Option Addr) (cap : Nat) (qs : List (List Nat)) (w : World) (hr : Rd w A qs) (hlen : qs.length ≤ 1048576) :
    Calls Try.prog 29 #[.agg #[.int .i64 p, .int .i64 n, .int .i64 m, .int .i64 k, .slice A qs.length cap], .int .i64 a, .int .i64 b, .int .i64 c, .func (.func 30) #[] #[]] w
      fun e w' => e = .returned (.tuple #[.int .i64 (sideI (leftI p qs a b c) (codeI p n m k qs a b c)), .int .i64 (codeI p n m k qs a b c)]) ∧ Below w.heap.size w w' := by
  cases hs : schemeB p n m k qs with
  | false =>
    have Hs := Lib.hid hs
    have Hc : Hid (codeI p n m k qs a b c = 1) := Lib.hid (by simp [codeI, hs])
    clear hs
    go_enter Try.func29, Try.ntmps29
    go_wp2_with fail
    refine (implIsScheme_c p n m k A cap qs _ (hr.keep (below1 _ _)) hlen).mono ?_
    rintro e w1 ⟨rfl, c1⟩
    have hB := below_after (below1 _ _) c1
    rw [Hs.out]
    go_wp2_with fail
    go_ret2
    exact ⟨by rw [Hc.out]; rfl, hB⟩
  | true =>
    have Hs := Lib.hid hs
    have Hp := Lib.hid (sizesB_parts (schemeB_sizes hs))
    have Hmul := Lib.hid (sizesB_mul (schemeB_sizes hs))
    have H30 := Lib.hid (schemeB_len hs)
    go_enter Try.func29, Try.ntmps29
    have Hc : Hid (codeI p n m k qs a b c = if eqnB n m k a b c then 0 else 2) := Lib.hid (by simp [codeI, hs])
    clear hs
    go_wp2_with fail
    refine (implIsScheme_c p n m k A cap qs _ (hr.keep (below1 _ _)) hlen).mono ?_
    rintro e w1 ⟨rfl, c1⟩
    have hB := below_after (below1 _ _) c1
    have h0 := At.after (al1_0 _ _) c1
    clear c1
    rw [Hs.out]
    go_wp2_with (refine wpList_load_all rfl 30 _ rfl w.heap.size rfl _ _ _ h0 Try.underlying30 rfl 5 (by kernel_rfl) rfl ?_)
    refine (isEquation_c p n m k a b c _ _ Hp.out.2.1 Hp.out.2.2.1 Hp.out.2.2.2).mono ?_
    rintro e w2 ⟨rfl, c1⟩
    replace hB := below_after hB c1
    replace h0 := h0.after c1
    clear c1
    cases he : eqnB n m k a b c with
    | false =>
      have He := Lib.hid he
      clear he
      go_wp2_with fail
      go_ret2
      exact ⟨by rw [Hc.out, He.out]; rfl, hB⟩
    | true =>
      have He := Lib.hid he
      obtain ⟨⟨a1, a2⟩, ⟨b1, b2⟩, c1, c2⟩ := eqnB_bounds he
      obtain ⟨an, rfl⟩ := Int.eq_ofNat_of_zero_le a1
      obtain ⟨bn, rfl⟩ := Int.eq_ofNat_of_zero_le b1
      obtain ⟨cn, rfl⟩ := Int.eq_ofNat_of_zero_le c1
      have hpb := primeB_bounds Hp.out.1
      obtain ⟨pn, rfl⟩ := Int.eq_ofNat_of_zero_le (show 0 ≤ p by omega)
      have hc9 : cn < 9 := by have := Hmul.out; omega
      have ha9 : an < 9 := by have := Hmul.out; omega
      have hb9 : bn < 9 := by have := Hmul.out; omega
      have hby := sidesL_bytes (p := pn) qs an bn (by omega) (by omega)
      have Hat : Hid ((((sidesL pn qs an bn)[cn]?.getD 0 : Nat) : Int) = leftI pn qs an bn cn) := Lib.hid (by rw [sidesL_get _ _ _ _ hc9]; simp [leftI])
      have hlt := hby.lt cn
      have h30 := H30.out
      have HR := Lib.hid (fun A cap w hr => leftSides_c pn n m k A cap qs an bn w (by omega) (by omega) hr (Nat.le_trans h30 (by decide)) ha9 hb9)
      clear he a1 a2 b1 b2 c1 c2 ha9 hb9 hpb h30
      go_wp2_with (refine wpList_load_all rfl 30 _ rfl w.heap.size rfl _ _ _ h0 Try.underlying30 rfl 5 (by kernel_rfl) rfl ?_)
      refine (HR.out _ _ _ (hr.keep hB)).mono ?_
      rintro e w3 ⟨rfl, c1⟩
      replace hB := below_after hB c1
      clear c1
      go_wp2_with (refine wpList_of_exec rfl (exec_index_u8s 58 5 _ _ rfl 9 cn (sidesL pn qs an bn) rfl rfl Try.underlying58 Try.underlying5 (by kernel_rfl) hby.len hc9) ?_)
      go_ret2
      exact ⟨by rw [Hc.out, He.out, ← Hat.out]; rfl, hB⟩
theorem implLeftSide_c (p n m k a b c : Int) (A : Option Addr) (cap : Nat) (qs : List (List Nat)) (w : World) (hr : Rd w A qs) (hlen : qs.length ≤ 1048576) :
    Calls Try.prog 11 #[.agg #[.int .i64 p, .int .i64 n, .int .i64 m, .int .i64 k, .slice A qs.length cap], .int .i64 a, .int .i64 b, .int .i64 c] w
      fun e w' => e = .returned (.tuple #[.int .i64 (sideI (leftI p qs a b c) (codeI p n m k qs a b c)), .int .i64 (codeI p n m k qs a b c)]) ∧ Below w.heap.size w w' := by
  go_enter Try.func11, Try.ntmps11
  go_wp2_with fail
  refine (sideAt_left_c p n m k a b c A cap qs _ (hr.keep (below1 _ _)) hlen).mono ?_
  rintro e w1 ⟨rfl, c1⟩
  have hB := below_after (below1 _ _) c1
  go_wp2_with fail
  go_ret2
  exact ⟨rfl, hB⟩
end Go.Proofs.Ytdcgkmfkbdhfhaa
