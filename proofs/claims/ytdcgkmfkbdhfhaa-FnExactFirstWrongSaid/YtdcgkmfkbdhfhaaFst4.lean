/-
  spec.FirstWrong, impl.FirstWrong.
-/
import Derived.Test.YtdcgkmfkbdhfhaaFst3
import Derived.Test.YtdcgkmfkbdhfhaaLKI
namespace Go.Proofs.Ytdcgkmfkbdhfhaa
open Go.RowKit
set_option maxRecDepth 100000
def fstI : Option (Nat × Nat × Nat) → List Int
  | none => []
  | some (a, b, c) => [a, b, c]
theorem fstL_eq (o : Option (Nat × Nat × Nat)) : fstL o = i64s (fstI o) := by
  rcases o with _ | ⟨a, b, c⟩ <;> rfl
def fwXs (p n m k : Int) (qs : List (List Nat)) : List Int := if schemeB p n m k qs then fstI (wrS p n m k qs).2 else []
def fwCode (p n m k : Int) (qs : List (List Nat)) : Int := if schemeB p n m k qs then (if (wrS p n m k qs).2.isNone then 4 else 0) else 1
theorem fwXs_len (p n m k : Int) (qs : List (List Nat)) : (fwXs p n m k qs).length ≤ 3 := by
  unfold fwXs
  split
  · rcases (wrS p n m k qs).2 with _ | ⟨a, b, c⟩ <;> simp [fstI]
  · simp
theorem OwnI.of_KW {w wr : World} {p n m k : Int} {A : Option Addr} {len cap : Nat} {v : Value} {o : Option (Nat × Nat × Nat)} (h : KW w p n m k A len cap v (fstL o) wr) : OwnI wr (w.heap.size + 1) v (fstI o) := by
  have := h.own
  rw [fstL_eq, i64s_len] at this
  exact this
theorem OwnI.of_first {w wr : World} {v : Value} {t : Nat × Nat × Nat} (h : FirstV w wr v (some t)) : OwnI wr w.heap.size v (fstI (some t)) := by
  obtain ⟨a, b, c⟩ := t
  obtain ⟨g, rfl, hg, hA⟩ := h
  exact ⟨rfl, .inr ⟨g, 3, _, rfl, hg, hA, by simp [fstI], by simp [maxLen], by simp, rfl⟩⟩
set_option maxHeartbeats 800000 in
theorem specFirstWrong_c (p n m k : Int) (A : Option Addr) (cap : Nat) (qs : List (List Nat)) (w : World) (hr : Rd w A qs) (hlen : qs.length ≤ 1048576) :
    Calls Try.prog 19 #[.agg #[.int .i64 p, .int .i64 n, .int .i64 m, .int .i64 k, .slice A qs.length cap]] w (ResI w (fwXs p n m k qs) (fwCode p n m k qs)) := by
  cases hs : schemeB p n m k qs with
  | false =>
    have Hs := Lib.hid hs
    have Hc : Hid (fwXs p n m k qs = [] ∧ fwCode p n m k qs = 1) := Lib.hid (by simp [fwXs, fwCode, hs])
    clear hs
    go_enter Try.func19, Try.ntmps19
    go_wp2_with fail
    refine (l01Is_c p n m k A cap qs _ (hr.keep (below1 _ _)) hlen).mono ?_
    rintro e w1 ⟨rfl, c1⟩
    have hB := below_after (below1 _ _) c1
    rw [Hs.out]
    go_wp2_with fail
    go_ret2
    exact ⟨_, by rw [Hc.out.2]; rfl, by rw [Hc.out.1]; exact OwnI.nil _ _, hB⟩
  | true =>
    have Hs := Lib.hid hs
    have Hc : Hid (fwXs p n m k qs = fstI (wrS p n m k qs).2 ∧ fwCode p n m k qs = if (wrS p n m k qs).2.isNone then 4 else 0) := Lib.hid (by simp [fwXs, fwCode, hs])
    have Hwf := Lib.hid (wrS_wf p n m k qs)
    have hle := wrS_le hs
    clear hs
    go_enter Try.func19, Try.ntmps19
    go_wp2_with fail
    refine (l01Is_c p n m k A cap qs _ (hr.keep (below1 _ _)) hlen).mono ?_
    rintro e w1 ⟨rfl, c1⟩
    have hB := below_after (below1 _ _) c1
    have h0 := At.after (al1_0 _ _) c1
    clear c1
    rw [Hs.out]
    go_wp2_with (refine wpList_load_all rfl 30 _ rfl w.heap.size rfl _ _ _ h0 Try.underlying30 rfl 5 (by kernel_rfl) rfl ?_)
    refine (l01WrongS_c p n m k _ _ _ _ (hr.keep hB) Hs.out).mono ?_
    rintro e w2 ⟨v, rfl, c2⟩
    have hB2 := below_after hB c2.below
    by_cases hz : (wrS p n m k qs).1 = 0
    · have hn := Hwf.out.1 hz
      rw [hn] at Hc
      have hz' : ((((wrS p n m k qs).1 : Nat) : Int) == 0) = true := by simp [hz]
      clear hz hn
      generalize (wrS p n m k qs).1 = z at *
      go_wp2_with fail
      go_ret2
      exact ⟨_, by rw [Hc.out.2]; rfl, by rw [Hc.out.1]; exact OwnI.nil _ _, hB2⟩
    · have hn : (wrS p n m k qs).2.isNone = false := by
        cases h2 : (wrS p n m k qs).2 with
        | none => exact absurd (Hwf.out.2 h2) hz
        | some t => rfl
      rw [hn] at Hc
      have hz' : ((((wrS p n m k qs).1 : Nat) : Int) == 0) = false := by simp; omega
      have ho := OwnI.of_KW c2
      have hsz := hB.size
      clear hz hn c2
      generalize (wrS p n m k qs).1 = z at *
      go_wp2_with fail
      go_ret2
      exact ⟨_, by rw [Hc.out.2]; rfl, by rw [Hc.out.1]; exact ho.mono (by omega), hB2⟩
set_option maxHeartbeats 800000 in
theorem implFirstWrong_c (p n m k : Int) (A : Option Addr) (cap : Nat) (qs : List (List Nat)) (w : World) (hr : Rd w A qs) (hlen : qs.length ≤ 1048576) :
    Calls Try.prog 20 #[.agg #[.int .i64 p, .int .i64 n, .int .i64 m, .int .i64 k, .slice A qs.length cap]] w (ResI w (fwXs p n m k qs) (fwCode p n m k qs)) := by
  cases hs : schemeB p n m k qs with
  | false =>
    have Hs := Lib.hid hs
    have Hc : Hid (fwXs p n m k qs = [] ∧ fwCode p n m k qs = 1) := Lib.hid (by simp [fwXs, fwCode, hs])
    clear hs
    go_enter Try.func20, Try.ntmps20
    go_wp2_with fail
    refine (implIsScheme_c p n m k A cap qs _ (hr.keep (below1 _ _)) hlen).mono ?_
    rintro e w1 ⟨rfl, c1⟩
    have hB := below_after (below1 _ _) c1
    rw [Hs.out]
    go_wp2_with fail
    go_ret2
    exact ⟨_, by rw [Hc.out.2]; rfl, by rw [Hc.out.1]; exact OwnI.nil _ _, hB⟩
  | true =>
    have Hs := Lib.hid hs
    have Hc : Hid (fwXs p n m k qs = fstI (wrS p n m k qs).2 ∧ fwCode p n m k qs = if (wrS p n m k qs).2.isNone then 4 else 0) := Lib.hid (by simp [fwXs, fwCode, hs])
    clear hs
    go_enter Try.func20, Try.ntmps20
    go_wp2_with fail
    refine (implIsScheme_c p n m k A cap qs _ (hr.keep (below1 _ _)) hlen).mono ?_
    rintro e w1 ⟨rfl, c1⟩
    have hB := below_after (below1 _ _) c1
    have h0 := At.after (al1_0 _ _) c1
    clear c1
    rw [Hs.out]
    go_wp2_with (refine wpList_load_all rfl 30 _ rfl w.heap.size rfl _ _ _ h0 Try.underlying30 rfl 5 (by kernel_rfl) rfl ?_)
    refine (firstWrong_c p n m k _ _ _ _ (hr.keep hB) Hs.out).mono ?_
    rintro e w2 ⟨v, rfl, hv, c2⟩
    have hB2 := below_after hB c2
    cases ho : (wrS p n m k qs).2 with
    | none =>
      rw [ho] at hv Hc
      obtain rfl := hv
      clear ho
      go_wp2_with (refine wpList_of_exec rfl (exec_eql_nil 38 _ 2 _ _ rfl Try.underlying38 none 0 0 rfl rfl) ?_)
      go_ret2
      exact ⟨_, by rw [Hc.out.2]; rfl, by rw [Hc.out.1]; exact OwnI.nil _ _, hB2⟩
    | some t =>
      rw [ho] at hv Hc
      have hown := OwnI.of_first hv
      obtain ⟨g0, rfl⟩ := hv.val
      have hsz := hB.size
      clear ho
      go_wp2_with (refine wpList_of_exec rfl (exec_eql_nil 38 _ 2 _ _ rfl Try.underlying38 (some ⟨g0, 0, none⟩) 3 3 rfl rfl) ?_)
      go_ret2
      exact ⟨_, by rw [Hc.out.2]; rfl, by rw [Hc.out.1]; exact hown.mono (by omega), hB2⟩
end Go.Proofs.Ytdcgkmfkbdhfhaa
