/-
  impl.IsCorrect, impl.FirstWrong; spec.FirstWrong.
-/
import Derived.Test.YtdcgkmfkbdhfhaaFst2
namespace Go.Proofs.Ytdcgkmfkbdhfhaa
open Go.RowKit
set_option maxRecDepth 100000
theorem okB_of {p n m k : Int} {qs : List (List Nat)} (h : schemeB p n m k qs = true) : okB p n m k qs = (wrS p n m k qs).2.isNone := by
  have hw := wrS_wf p n m k qs
  unfold okB
  rw [h, Bool.true_and]
  cases h2 : (wrS p n m k qs).2 with
  | none => simp [hw.2 h2]
  | some t =>
    have : (wrS p n m k qs).1 ≠ 0 := fun e => by rw [hw.1 e] at h2; cases h2
    simp; omega
set_option maxHeartbeats 800000 in
theorem implIsCorrect_c (p n m k : Int) (A : Option Addr) (cap : Nat) (qs : List (List Nat)) (w : World) (hr : Rd w A qs) (hlen : qs.length ≤ 1048576) :
    Calls Try.prog 18 #[.agg #[.int .i64 p, .int .i64 n, .int .i64 m, .int .i64 k, .slice A qs.length cap]] w
      fun e w' => e = .returned (.tuple #[.bool (okB p n m k qs), .int .i64 (sCode p n m k qs)]) ∧ Below w.heap.size w w' := by
  cases hs : schemeB p n m k qs with
  | false =>
    have Hs := Lib.hid hs
    have Hc : Hid (okB p n m k qs = false ∧ sCode p n m k qs = 1) := Lib.hid (by simp [okB, sCode, hs])
    clear hs
    go_enter Try.func18, Try.ntmps18
    go_wp2_with fail
    refine (implIsScheme_c p n m k A cap qs _ (hr.keep (below1 _ _)) hlen).mono ?_
    rintro e w1 ⟨rfl, c1⟩
    have hB := below_after (below1 _ _) c1
    rw [Hs.out]
    go_wp2_with fail
    go_ret2
    exact ⟨by rw [Hc.out.1, Hc.out.2]; rfl, hB⟩
  | true =>
    have Hs := Lib.hid hs
    have Hc : Hid (okB p n m k qs = (wrS p n m k qs).2.isNone ∧ sCode p n m k qs = 0) := Lib.hid ⟨okB_of hs, by simp [sCode, hs]⟩
    clear hs
    go_enter Try.func18, Try.ntmps18
    go_wp2_with fail
    refine (implIsScheme_c p n m k A cap qs _ (hr.keep (below1 _ _)) hlen).mono ?_
    rintro e w1 ⟨rfl, c1⟩
    have hB := below_after (below1 _ _) c1
    have h0 := At.after (al1_0 _ _) c1
    clear c1
    rw [Hs.out]
    go_wp2_with (refine wpList_load_all rfl 30 _ rfl w.heap.size rfl _ _ _ h0 Try.underlying30 rfl 5 (by kernel_rfl) rfl ?_)
    refine (firstWrong_c p n m k _ _ _ _ (hr.keep hB) Hs.out).mono ?_
    rintro e w2 ⟨v, rfl, hv, c2⟩
    have hB2 := below_after hB c2
    cases ho : (wrS p n m k qs).2 with
    | none =>
      rw [ho] at hv Hc
      obtain rfl := hv
      clear ho
      go_wp2_with (refine wpList_of_exec rfl (exec_eql_nil 38 _ 2 _ _ rfl Try.underlying38 none 0 0 rfl rfl) ?_)
      go_ret2
      exact ⟨by rw [Hc.out.1, Hc.out.2]; rfl, hB2⟩
    | some t =>
      rw [ho] at hv Hc
      obtain ⟨g0, rfl⟩ := hv.val
      clear ho
      go_wp2_with (refine wpList_of_exec rfl (exec_eql_nil 38 _ 2 _ _ rfl Try.underlying38 (some ⟨g0, 0, none⟩) 3 3 rfl rfl) ?_)
      go_ret2
      exact ⟨by rw [Hc.out.1, Hc.out.2]; rfl, hB2⟩
end Go.Proofs.Ytdcgkmfkbdhfhaa
