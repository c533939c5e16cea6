/-
  spec.l01Correct, CountWrong, IsCorrect.
-/
import Derived.Test.YtdcgkmfkbdhfhaaWrong1
namespace Go.Proofs.Ytdcgkmfkbdhfhaa
open Go.RowKit
set_option maxRecDepth 100000
def wrS (p n m k : Int) (qs : List (List Nat)) : Wst := runA (wrongB p m k qs) (m * k).toNat (n * k).toNat (n * m).toNat
theorem wrS_wf (p n m k : Int) (qs : List (List Nat)) : WF (wrS p n m k qs) := WF.runA _ _ _ _
theorem wrS_le {p n m k : Int} {qs : List (List Nat)} (h : schemeB p n m k qs = true) : (wrS p n m k qs).1 ≤ 729 := by
  obtain ⟨⟨x1, x2⟩, ⟨y1, y2⟩, z1, z2⟩ := sizesB_mul (schemeB_sizes h)
  have h1 := runA_le (wrongB p m k qs) (m * k).toNat (n * k).toNat (n * m).toNat
  have h2 : (m * k).toNat * (n * k).toNat ≤ 9 * 9 := Nat.mul_le_mul (by omega) (by omega)
  have h3 : (n * m).toNat * ((m * k).toNat * (n * k).toNat) ≤ 9 * 81 := Nat.mul_le_mul (by omega) h2
  unfold wrS
  omega
theorem l01WrongS_c (p n m k : Int) (A : Option Addr) (cap : Nat) (qs : List (List Nat)) (w : World) (hr : Rd w A qs) (hs : schemeB p n m k qs = true) :
    Calls Try.prog 35 #[.agg #[.int .i64 p, .int .i64 n, .int .i64 m, .int .i64 k, .slice A qs.length cap]] w
      fun e w' => ∃ v, e = .returned (.tuple #[v, .int .i64 ((wrS p n m k qs).1 : Nat)]) ∧ KW w p n m k A qs.length cap v (fstL (wrS p n m k qs).2) w' := by
  obtain ⟨⟨x1, x2⟩, ⟨y1, y2⟩, z1, z2⟩ := sizesB_mul (schemeB_sizes hs)
  exact l01Wrong_c p n m k A cap qs w hr hs _ _ _ (by omega) (by omega) (by omega) (by omega) (by omega) (by omega)
def sCode (p n m k : Int) (qs : List (List Nat)) : Int := if schemeB p n m k qs then 0 else 1
def cntI (p n m k : Int) (qs : List (List Nat)) : Int := if schemeB p n m k qs then ((wrS p n m k qs).1 : Nat) else 0
set_option maxHeartbeats 800000 in
theorem specCountWrong_c (p n m k : Int) (A : Option Addr) (cap : Nat) (qs : List (List Nat)) (w : World) (hr : Rd w A qs) (hlen : qs.length ≤ 1048576) :
    Calls Try.prog 15 #[.agg #[.int .i64 p, .int .i64 n, .int .i64 m, .int .i64 k, .slice A qs.length cap]] w
      fun e w' => e = .returned (.tuple #[.int .i64 (cntI p n m k qs), .int .i64 (sCode p n m k qs)]) ∧ Below w.heap.size w w' := by
  cases hs : schemeB p n m k qs with
  | false =>
    have Hs := Lib.hid hs
    have Hc : Hid (cntI p n m k qs = 0 ∧ sCode p n m k qs = 1) := Lib.hid (by simp [cntI, sCode, hs])
    clear hs
    go_enter Try.func15, Try.ntmps15
    go_wp2_with fail
    refine (l01Is_c p n m k A cap qs _ (hr.keep (below1 _ _)) hlen).mono ?_
    rintro e w1 ⟨rfl, c1⟩
    have hB := below_after (below1 _ _) c1
    rw [Hs.out]
    go_wp2_with fail
    go_ret2
    exact ⟨by rw [Hc.out.1, Hc.out.2]; rfl, hB⟩
  | true =>
    have Hs := Lib.hid hs
    have Hc : Hid (cntI p n m k qs = ((wrS p n m k qs).1 : Nat) ∧ sCode p n m k qs = 0) := Lib.hid (by simp [cntI, sCode, hs])
    clear hs
    go_enter Try.func15, Try.ntmps15
    go_wp2_with fail
    refine (l01Is_c p n m k A cap qs _ (hr.keep (below1 _ _)) hlen).mono ?_
    rintro e w1 ⟨rfl, c1⟩
    have hB := below_after (below1 _ _) c1
    have h0 := At.after (al1_0 _ _) c1
    clear c1
    rw [Hs.out]
    go_wp2_with (refine wpList_load_all rfl 30 _ rfl w.heap.size rfl _ _ _ h0 Try.underlying30 rfl 5 (by kernel_rfl) rfl ?_)
    refine (l01WrongS_c p n m k _ _ _ _ (hr.keep hB) Hs.out).mono ?_
    rintro e w2 ⟨v, rfl, c2⟩
    have hB2 := below_after hB c2.below
    go_wp2_with fail
    go_ret2
    exact ⟨by rw [Hc.out.1, Hc.out.2]; rfl, hB2⟩
theorem l01Correct_c (p n m k : Int) (A : Option Addr) (cap : Nat) (qs : List (List Nat)) (w : World) (hr : Rd w A qs) (hs : schemeB p n m k qs = true) :
    Calls Try.prog 40 #[.agg #[.int .i64 p, .int .i64 n, .int .i64 m, .int .i64 k, .slice A qs.length cap]] w
      fun e w' => e = .returned (.bool (((wrS p n m k qs).1 : Nat) == (0 : Int))) ∧ Below w.heap.size w w' := by
  go_enter Try.func40, Try.ntmps40
  go_wp2_with fail
  refine (l01WrongS_c p n m k _ _ _ _ (hr.keep (below1 _ _)) hs).mono ?_
  rintro e w2 ⟨v, rfl, c2⟩
  have hB2 := below_after (below1 _ _) c2.below
  go_wp2_with fail
  go_ret
  exact ⟨rfl, hB2⟩
def okB (p n m k : Int) (qs : List (List Nat)) : Bool := schemeB p n m k qs && (((wrS p n m k qs).1 : Nat) == (0 : Int))
set_option maxHeartbeats 800000 in
theorem specIsCorrect_c (p n m k : Int) (A : Option Addr) (cap : Nat) (qs : List (List Nat)) (w : World) (hr : Rd w A qs) (hlen : qs.length ≤ 1048576) :
    Calls Try.prog 17 #[.agg #[.int .i64 p, .int .i64 n, .int .i64 m, .int .i64 k, .slice A qs.length cap]] w
      fun e w' => e = .returned (.tuple #[.bool (okB p n m k qs), .int .i64 (sCode p n m k qs)]) ∧ Below w.heap.size w w' := by
  cases hs : schemeB p n m k qs with
  | false =>
    have Hs := Lib.hid hs
    have Hc : Hid (okB p n m k qs = false ∧ sCode p n m k qs = 1) := Lib.hid (by simp [okB, sCode, hs])
    clear hs
    go_enter Try.func17, Try.ntmps17
    go_wp2_with fail
    refine (l01Is_c p n m k A cap qs _ (hr.keep (below1 _ _)) hlen).mono ?_
    rintro e w1 ⟨rfl, c1⟩
    have hB := below_after (below1 _ _) c1
    rw [Hs.out]
    go_wp2_with fail
    go_ret2
    exact ⟨by rw [Hc.out.1, Hc.out.2]; rfl, hB⟩
  | true =>
    have Hs := Lib.hid hs
    have Hc : Hid (okB p n m k qs = (((wrS p n m k qs).1 : Nat) == (0 : Int)) ∧ sCode p n m k qs = 0) := Lib.hid (by simp [okB, sCode, hs])
    clear hs
    go_enter Try.func17, Try.ntmps17
    go_wp2_with fail
    refine (l01Is_c p n m k A cap qs _ (hr.keep (below1 _ _)) hlen).mono ?_
    rintro e w1 ⟨rfl, c1⟩
    have hB := below_after (below1 _ _) c1
    have h0 := At.after (al1_0 _ _) c1
    clear c1
    rw [Hs.out]
    go_wp2_with (refine wpList_load_all rfl 30 _ rfl w.heap.size rfl _ _ _ h0 Try.underlying30 rfl 5 (by kernel_rfl) rfl ?_)
    refine (l01Correct_c p n m k _ _ _ _ (hr.keep hB) Hs.out).mono ?_
    rintro e w2 ⟨rfl, c2⟩
    have hB2 := below_after hB c2
    go_wp2_with fail
    go_ret2
    exact ⟨by rw [Hc.out.1, Hc.out.2]; rfl, hB2⟩
end Go.Proofs.Ytdcgkmfkbdhfhaa
