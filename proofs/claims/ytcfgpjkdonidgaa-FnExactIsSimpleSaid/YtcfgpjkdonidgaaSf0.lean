/-
  impl.simpleFactors' first number other than 0: slices.IndexFunc.
-/
import Derived.Test.YtcfgpjkdonidgaaTen5
import Derived.Test.YtcfgpjkdonidgaaRK2
namespace Go.Proofs.Ytcfgpjkdonidgaa
open Go.RowKit
set_option maxRecDepth 100000
/-- The first number other than 0 stands at t. -/
def nzP (xs : List Int) (t : Nat) : Prop := t < xs.length ∧ xs[t]?.getD 0 ≠ 0 ∧ ∀ y, y < t → xs[y]?.getD 0 = 0
def nzN (xs : List Int) : Prop := ∀ y, y < xs.length → xs[y]?.getD 0 = 0
theorem nz_cases (xs : List Int) : nzN xs ∨ ∃ t, nzP xs t := by
  by_cases h : nzN xs
  · exact .inl h
  · right
    have h1 : ∃ y, y < xs.length ∧ xs[y]?.getD 0 ≠ 0 := by
      by_cases h2 : ∃ y, y < xs.length ∧ xs[y]?.getD 0 ≠ 0
      · exact h2
      · exact absurd (fun y hy => by
          by_cases h3 : xs[y]?.getD 0 = 0
          · exact h3
          · exact absurd ⟨y, hy, h3⟩ h2) h
    obtain ⟨y, hy⟩ := h1
    induction y using Nat.strongRecOn with
    | ind y ih =>
      by_cases h2 : ∃ z, z < y ∧ xs[z]?.getD 0 ≠ 0
      · obtain ⟨z, hz, hz2⟩ := h2
        exact ih z hz ⟨by omega, hz2⟩
      · refine ⟨y, hy.1, hy.2, fun z hz => ?_⟩
        by_cases h3 : xs[z]?.getD 0 = 0
        · exact h3
        · exact absurd ⟨z, hz, h3⟩ h2
theorem sf1_c (x : Int) (b : Bool) (hb : (x != 0) = b) (w : World) :
    Calls Try.prog 35 #[.int .i64 x] w fun e w' => e = .returned (.bool b) ∧ w = w' := by
  have Hb := Lib.hid hb
  clear hb
  go_enter Try.func35, Try.ntmps35
  go_upto_region 0 with (fail)
  refine wp_region_lit ?_
  refine ls_ex (some 2) (.bool false) rfl rfl (exec_assign _ rfl (.bool false) rfl) ?_
  go_frame
  refine wpList_nil ?_
  go_upto_region 1 with (fail)
  refine wp_region_lit ?_
  refine ls_ex (some 3) (.int .i64 x) rfl rfl (exec_move _ rfl (.int .i64 x) rfl) ?_
  go_frame
  refine ls_ex (some 4) (.bool b) rfl rfl (exec_neq _ _ _ _ rfl x 0 rfl rfl b Hb.out) ?_
  go_frame
  refine ls_ex (some 2) (.bool b) rfl rfl (exec_assign _ rfl (.bool b) rfl) ?_
  go_frame
  refine wpList_nil ?_
  go_wp2_with fail
  go_ret
  exact ⟨rfl, rfl⟩
set_option maxHeartbeats 800000 in
theorem indexSf_c (A : Option Addr) (N c : Nat) (xs : List Int) (w : World) (hr : RdI w A xs) (hN : xs.length = N) (hn : N ≤ 1048576) (r : Int) (hR : (r = -1 ∧ nzN xs) ∨ ∃ t : Nat, r = t ∧ nzP xs t) :
    Calls Try.prog 34 #[.slice A N c, .func (.func 35) #[] #[]] w fun e w' => e = .returned (.int .i64 r) ∧ w = w' := by
  have HR := Lib.hid hR
  have HN := Lib.hid hN
  clear hR hN
  go_enter Try.func34, Try.ntmps34
  go_wp2_with fail
  go_loop [8] (fun v => ∃ a : Nat, a ≤ N ∧ v = .int .i64 a ∧ ∀ y : Nat, y < a → xs[y]?.getD 0 = 0) (fun v => N - (intOf v).toNat)
  case atStart => exact ⟨0, by omega, rfl, by omega⟩
  case round =>
    obtain ⟨a, ha, rfl, hall⟩ := hrel
    have Hall := Lib.hid hall
    clear hall
    by_cases hlt : a < N
    · have hlx : a < xs.length := by rw [HN.out]; exact hlt
      obtain ⟨b, off, rfl, hx0⟩ := hr.at_ hlx
      have e0 : IntKind.i64.wrap ((a : Int) + 1) = (a : Int) + 1 := IntWalk.i64_in _ (by omega)
      have hlt' : (a : Int) < (N : Int) := by omega
      have Hx1 : Hid (∃ x, xs[a] = x) := Lib.hid ⟨_, rfl⟩
      obtain ⟨x, hx⟩ := Hx1.out
      rw [hx] at hx0
      have Hx1 : Hid (xs[a]?.getD 0 = x) := Lib.hid (by rw [List.getElem?_eq_getElem hlx, hx]; rfl)
      clear hx
      by_cases hz : x = 0
      · have HC := Lib.hid (sf1_c x false (by simp [hz]) w)
        have Hstep : Hid (∀ y : Nat, y < a + 1 → xs[y]?.getD 0 = 0) := Lib.hid (fun y hy => by
          by_cases e : y = a
          · subst e; rw [Hx1.out]; exact hz
          · exact Hall.out y (by omega))
        clear hz
        go_wp2_with fail
        refine HC.out.mono ?_
        rintro e w' ⟨rfl, rfl⟩
        go_wp2_with fail
        exact ⟨⟨a + 1, by omega, by go_num, Hstep.out⟩, by simp [intOf]; omega⟩
      · have HC := Lib.hid (sf1_c x true (by simp [hz]) w)
        have Hr : Hid (r = (a : Int)) := Lib.hid (by
          rcases HR.out with ⟨_, h⟩ | ⟨t, h1, h2⟩
          · exact absurd (Hx1.out.symm.trans (h a hlx)) hz
          · have : t = a := by
              rcases Nat.lt_trichotomy t a with h3 | h3 | h3
              · exact absurd (Hall.out t h3) h2.2.1
              · exact h3
              · exact absurd (Hx1.out.symm.trans (h2.2.2 a h3)) hz
            rw [h1, this])
        clear hz
        go_wp2_with fail
        refine HC.out.mono ?_
        rintro e w' ⟨rfl, rfl⟩
        go_wp2_with fail
        go_ret
        exact ⟨by rw [Hr.out]; rfl, rfl⟩
    · have Hr : Hid (r = -1) := Lib.hid (by
        rcases HR.out with ⟨h, _⟩ | ⟨t, h1, h2⟩
        · exact h
        · exact absurd (Hall.out t (by have := h2.1; rw [HN.out] at this; omega)) h2.2.1)
      go_wp2_with fail
      go_ret
      exact ⟨by rw [Hr.out]; rfl, rfl⟩
end Go.Proofs.Ytcfgpjkdonidgaa
