/-
  spec.l02Joined and spec.JoinCols. (Made by mkjn3.py.)
-/
import Derived.Test.YtelicajipilhjaaJn2
namespace Go.Proofs.Ytelicajipilhjaa
open Go.RowKit
set_option maxRecDepth 100000
def joCode2 (p n m k : Int) (xq : List (List Nat)) (p' n' m' k' : Int) (yq : List (List Nat)) : Int :=
  if schemeB p n m k xq then (if schemeB p' n' m' k' yq then (if p = p' ∧ n = n' ∧ m = m' then (if k + k' ≤ 3 ∧ xq.length + yq.length ≤ 30 then 0 else 3) else 2) else 1) else 1
def joZ2 (p n m k : Int) (xq : List (List Nat)) (p' n' m' k' : Int) (yq : List (List Nat)) (x : Int) : Int := if joCode2 p n m k xq p' n' m' k' yq = 0 then x else 0
def joR2 (p n m k : Int) (xq : List (List Nat)) (p' n' m' k' : Int) (yq : List (List Nat)) : List (List Nat) :=
  if joCode2 p n m k xq p' n' m' k' yq = 0 then xq.map (mvQ n.toNat m.toNat k.toNat n.toNat m.toNat (k + k').toNat 0 0 0) ++ yq.map (mvQ n'.toNat m'.toNat k'.toNat n.toNat m.toNat (k + k').toNat 0 0 k.toNat) else []
theorem joR2_good {p n m k : Int} {xq : List (List Nat)} {p' n' m' k' : Int} {yq : List (List Nat)} (hx : ∀ q ∈ xq, Bytes 27 q) (hy : ∀ q ∈ yq, Bytes 27 q) : (∀ r ∈ joR2 p n m k xq p' n' m' k' yq, Bytes 27 r) ∧ (joR2 p n m k xq p' n' m' k' yq).length ≤ 60 := by
  unfold joR2
  split
  · rename_i h
    refine ⟨fun r hr => ?_, ?_⟩
    · rcases List.mem_append.1 hr with hr | hr
      · obtain ⟨q, hm, rfl⟩ := List.mem_map.1 hr
        exact mvQ_bytes (hx q hm)
      · obtain ⟨q, hm, rfl⟩ := List.mem_map.1 hr
        exact mvQ_bytes (hy q hm)
    · unfold joCode2 at h
      split at h
      · split at h
        · rename_i h1 h2
          have := schemeB_len h1
          have := schemeB_len h2
          simp; omega
        · simp at h
      · simp at h
  · simp
set_option maxHeartbeats 6400000 in
theorem l02Joined_2 (p n m k : Int) (xA : Option Addr) (xc : Nat) (xq : List (List Nat)) (p' n' m' k' : Int) (yA : Option Addr) (yc : Nat) (yq : List (List Nat)) (w : World) (hrx : Rd w xA xq) (hry : Rd w yA yq) (hlx : xq.length ≤ 1048576) (hly : yq.length ≤ 1048576) :
    Calls Try.prog 24 #[.agg #[.int .i64 p, .int .i64 n, .int .i64 m, .int .i64 k, .slice xA xq.length xc], .agg #[.int .i64 p', .int .i64 n', .int .i64 m', .int .i64 k', .slice yA yq.length yc], .int .i64 2] w (ResS w (joZ2 p n m k xq p' n' m' k' yq p) (joZ2 p n m k xq p' n' m' k' yq n) (joZ2 p n m k xq p' n' m' k' yq m) (joZ2 p n m k xq p' n' m' k' yq (k + k')) (joR2 p n m k xq p' n' m' k' yq) (joCode2 p n m k xq p' n' m' k' yq)) := by
  have HIx := Lib.hid (fun w hr => l01Is_c p n m k xA xc xq w hr hlx)
  have HIy := Lib.hid (fun w hr => l01Is_c p' n' m' k' yA yc yq w hr hly)
  cases hs : schemeB p n m k xq with
  | false =>
    have Hs := Lib.hid hs
    have Hc : Hid (joCode2 p n m k xq p' n' m' k' yq = 1) := Lib.hid (by unfold joCode2; simp [hs])
    have Hz : Hid (∀ x, joZ2 p n m k xq p' n' m' k' yq x = 0) := Lib.hid (fun x => by simp [joZ2, Hc.out])
    have Hr : Hid (joR2 p n m k xq p' n' m' k' yq = []) := Lib.hid (by simp [joR2, Hc.out])
    clear hs
    go_enter Try.func24, Try.ntmps24
    go_wp2_with (first | (refine wpList_abs3 ?_; intro W hsz hB h0 h1 h2) | (refine wpList_load_all rfl 28 _ rfl w.heap.size rfl _ _ _ h0 Try.underlying28 rfl 5 (by kernel_rfl) rfl ?_))
    refine (HIx.out _ (hrx.keep hB)).mono ?_
    rintro e w1 ⟨rfl, b1⟩
    rw [Hs.out]
    replace h0 := h0.after b1
    replace h1 := h1.after b1
    replace h2 := h2.after b1
    replace hB := below_after hB b1
    clear b1 hsz
    go_wp2_with (first | (refine wpList_load_all rfl 28 _ rfl w.heap.size rfl _ _ _ h0 Try.underlying28 rfl 5 (by kernel_rfl) rfl ?_) | (refine wpList_store_all rfl 28 _ _ rfl rfl (w.heap.size + 1 + 1) rfl _ rfl _ _ h2 5 (by kernel_rfl) rfl rfl (by simp [Value.oneCell']) ?_; intro W2 p2))
    refine bodyPost_ret (results_at2 rfl _ _ (w.heap.size + 1 + 1) _ _ _ rfl _ rfl p2.at_ Try.underlying28 rfl 5 (by kernel_rfl) rfl) rfl ?_
    exact ⟨.slice none 0 0, by rw [Hz.out, Hz.out, Hz.out, Hz.out, Hc.out]; rfl, by rw [Hr.out]; exact Own.nil _ _, p2.below hB (by omega)⟩
  | true =>
    have Hs := Lib.hid hs
    cases ht : schemeB p' n' m' k' yq with
    | false =>
      have Ht := Lib.hid ht
      have Hc : Hid (joCode2 p n m k xq p' n' m' k' yq = 1) := Lib.hid (by unfold joCode2; simp [hs, ht])
      have Hz : Hid (∀ x, joZ2 p n m k xq p' n' m' k' yq x = 0) := Lib.hid (fun x => by simp [joZ2, Hc.out])
      have Hr : Hid (joR2 p n m k xq p' n' m' k' yq = []) := Lib.hid (by simp [joR2, Hc.out])
      clear hs ht
      go_enter Try.func24, Try.ntmps24
      go_wp2_with (first | (refine wpList_abs3 ?_; intro W hsz hB h0 h1 h2) | (refine wpList_load_all rfl 28 _ rfl w.heap.size rfl _ _ _ h0 Try.underlying28 rfl 5 (by kernel_rfl) rfl ?_))
      refine (HIx.out _ (hrx.keep hB)).mono ?_
      rintro e w1 ⟨rfl, b1⟩
      rw [Hs.out]
      replace h0 := h0.after b1
      replace h1 := h1.after b1
      replace h2 := h2.after b1
      replace hB := below_after hB b1
      clear b1 hsz
      go_wp2_with (refine wpList_want_exec rfl (exec_load_all 28 _ rfl (w.heap.size + 1) rfl _ _ _ h1 Try.underlying28 rfl 5 (by kernel_rfl) rfl) ?_)
      refine (HIy.out _ (hry.keep hB)).mono ?_
      rintro e w2 ⟨rfl, b1⟩
      rw [Ht.out]
      replace h0 := h0.after b1
      replace h1 := h1.after b1
      replace h2 := h2.after b1
      replace hB := below_after hB b1
      clear b1
      go_wp2_with (first | (refine wpList_load_all rfl 28 _ rfl w.heap.size rfl _ _ _ h0 Try.underlying28 rfl 5 (by kernel_rfl) rfl ?_) | (refine wpList_store_all rfl 28 _ _ rfl rfl (w.heap.size + 1 + 1) rfl _ rfl _ _ h2 5 (by kernel_rfl) rfl rfl (by simp [Value.oneCell']) ?_; intro W2 p2))
      refine bodyPost_ret (results_at2 rfl _ _ (w.heap.size + 1 + 1) _ _ _ rfl _ rfl p2.at_ Try.underlying28 rfl 5 (by kernel_rfl) rfl) rfl ?_
      exact ⟨.slice none 0 0, by rw [Hz.out, Hz.out, Hz.out, Hz.out, Hc.out]; rfl, by rw [Hr.out]; exact Own.nil _ _, p2.below hB (by omega)⟩
    | true =>
      have Ht := Lib.hid ht
      have hx30 := schemeB_len hs
      have hy30 := schemeB_len ht
      have hz1 := sizesB_parts (schemeB_sizes hs)
      have hz2 := sizesB_parts (schemeB_sizes ht)
      by_cases hp : p = p'
      · subst hp
        by_cases ho1 : n = n'
        · subst ho1
          by_cases ho2 : m = m'
          · subst ho2
            simp only [sizeB, Bool.and_eq_true, decide_eq_true_eq] at hz1 hz2
            obtain ⟨z0, hs0⟩ : ∃ z, z = n + n := ⟨_, rfl⟩
            obtain ⟨z1, hs1⟩ : ∃ z, z = m + m := ⟨_, rfl⟩
            obtain ⟨z2, hs2⟩ : ∃ z, z = k + k' := ⟨_, rfl⟩
            have hw0 : IntKind.i64.wrap (n + n) = z0 := by rw [hs0]; exact IntWalk.i64_in _ (by omega)
            have hw1 : IntKind.i64.wrap (m + m) = z1 := by rw [hs1]; exact IntWalk.i64_in _ (by omega)
            have hw2 : IntKind.i64.wrap (k + k') = z2 := by rw [hs2]; exact IntWalk.i64_in _ (by omega)
            obtain ⟨zl, hsl⟩ : ∃ z : Int, z = (xq.length : Int) + (yq.length : Int) := ⟨_, rfl⟩
            have hwl : IntKind.i64.wrap ((xq.length : Int) + (yq.length : Int)) = zl := by rw [hsl]; exact IntWalk.i64_in _ (by omega)
            by_cases h3 : k + k' ≤ 3
            · by_cases h30 : xq.length + yq.length ≤ 30
              · have d3 : decide (3 < z2) = false := by simp; omega
                have d30 : decide (30 < zl) = false := by simp; omega
                have Hc : Hid (joCode2 p n m k xq p n m k' yq = 0) := Lib.hid (by unfold joCode2; simp [hs, ht, h3, h30])
                have Hz : Hid (∀ x, joZ2 p n m k xq p n m k' yq x = x) := Lib.hid (fun x => by simp [joZ2, Hc.out])
                have HJ : Hid (∀ w, Rd w xA xq → Rd w yA yq → Calls Try.prog 42 #[.agg #[.int .i64 p, .int .i64 n, .int .i64 m, .int .i64 k, .slice xA xq.length xc], .agg #[.int .i64 p, .int .i64 n, .int .i64 m, .int .i64 k', .slice yA yq.length yc], .int .i64 2] w fun e w' => ∃ v, e = .returned (.agg #[.int .i64 p, .int .i64 n, .int .i64 m, .int .i64 (k + k'), v]) ∧ Own w' w.heap.size v (joR2 p n m k xq p n m k' yq) ∧ Below w.heap.size w w') := Lib.hid (fun w hx hy => by
                  unfold joR2
                  rw [if_pos Hc.out]
                  have g := l02Join_2 p p n.toNat m.toNat k.toNat k'.toNat (k + k').toNat xA xc xq yA yc yq w hx hy (by omega) (by omega) (by omega) (by omega) (by omega) (by omega) h30
                  rw [show ((n.toNat : Nat) : Int) = n by omega, show ((m.toNat : Nat) : Int) = m by omega, show ((k.toNat : Nat) : Int) = k by omega, show ((k'.toNat : Nat) : Int) = k' by omega, show (((k + k').toNat : Nat) : Int) = k + k' by omega] at g
                  exact g)
                have HRb := Lib.hid (joR2_good (p := p) (n := n) (m := m) (k := k) (p' := p) (n' := n) (m' := m) (k' := k') hrx.good hry.good).1
                generalize joR2 p n m k xq p n m k' yq = R at *

                clear hs ht hs0 hs1 hs2 hsl
                go_enter Try.func24, Try.ntmps24
                go_wp2_with (first | (refine wpList_abs3 ?_; intro W hsz hB h0 h1 h2) | (refine wpList_load_all rfl 28 _ rfl w.heap.size rfl _ _ _ h0 Try.underlying28 rfl 5 (by kernel_rfl) rfl ?_))
                refine (HIx.out _ (hrx.keep hB)).mono ?_
                rintro e w1 ⟨rfl, b1⟩
                rw [Hs.out]
                replace h0 := h0.after b1
                replace h1 := h1.after b1
                replace h2 := h2.after b1
                replace hB := below_after hB b1
                clear b1 hsz
                go_wp2_with (refine wpList_want_exec rfl (exec_load_all 28 _ rfl (w.heap.size + 1) rfl _ _ _ h1 Try.underlying28 rfl 5 (by kernel_rfl) rfl) ?_)
                refine (HIy.out _ (hry.keep hB)).mono ?_
                rintro e w2 ⟨rfl, b1⟩
                rw [Ht.out]
                replace h0 := h0.after b1
                replace h1 := h1.after b1
                replace h2 := h2.after b1
                replace hB := below_after hB b1
                clear b1
                have x0 : w2.cell? ⟨w.heap.size, 0, none⟩ = some (.int .i64 p) := h0.at_ 0
                have y0 : w2.cell? ⟨w.heap.size + 1, 0, none⟩ = some (.int .i64 p) := h1.at_ 0
                have x1 : w2.cell? ⟨w.heap.size, 1, none⟩ = some (.int .i64 n) := h0.at_ 1
                have y1 : w2.cell? ⟨w.heap.size + 1, 1, none⟩ = some (.int .i64 n) := h1.at_ 1
                have x2 : w2.cell? ⟨w.heap.size, 2, none⟩ = some (.int .i64 m) := h0.at_ 2
                have y2 : w2.cell? ⟨w.heap.size + 1, 2, none⟩ = some (.int .i64 m) := h1.at_ 2
                have x3 : w2.cell? ⟨w.heap.size, 3, none⟩ = some (.int .i64 k) := h0.at_ 3
                have y3 : w2.cell? ⟨w.heap.size + 1, 3, none⟩ = some (.int .i64 k') := h1.at_ 3
                have x4 : w2.cell? ⟨w.heap.size, 4, none⟩ = some (.slice xA xq.length xc) := h0.at_ 4
                have y4 : w2.cell? ⟨w.heap.size + 1, 4, none⟩ = some (.slice yA yq.length yc) := h1.at_ 4
                go_upto_region 6 with (fail)
                have bx := below1 w2 (.cells #[.int .i64 z0, .int .i64 z1, .int .i64 z2] 2 (0, 0))
                replace h0 := h0.after bx
                replace h1 := h1.after bx
                replace h2 := h2.after bx
                replace hB := below_after hB bx
                have x4' : (w2.alloc (.cells #[.int .i64 z0, .int .i64 z1, .int .i64 z2] 2 (0, 0))).cell? ⟨w.heap.size, 4, none⟩ = some (.slice xA xq.length xc) := h0.at_ 4
                have y4' : (w2.alloc (.cells #[.int .i64 z0, .int .i64 z1, .int .i64 z2] 2 (0, 0))).cell? ⟨w.heap.size + 1, 4, none⟩ = some (.slice yA yq.length yc) := h1.at_ 4
                clear bx
                clear h3 h30
                go_wp2_with (first | (refine wpList_load_all rfl 28 _ rfl w.heap.size rfl _ _ _ h0 Try.underlying28 rfl 5 (by kernel_rfl) rfl ?_) | (refine wpList_load_all rfl 28 _ rfl (w.heap.size + 1) rfl _ _ _ h1 Try.underlying28 rfl 5 (by kernel_rfl) rfl ?_))
                refine (HJ.out _ (hrx.keep hB) (hry.keep hB)).mono ?_
                rintro e w4 ⟨v, rfl, ho, b4⟩
                have hs1 := hB.size
                replace h2 := h2.after b4
                replace hB := below_after hB b4
                replace ho := ho.mono hs1
                obtain ⟨A1, c1, rfl, _⟩ := ho.rd HRb.out
                have n2 := ho.off h2 (by decide)
                clear b4 h0 h1
                go_wp2_with (refine wpList_store_all rfl 28 _ _ rfl rfl (w.heap.size + 1 + 1) rfl _ rfl _ _ h2 5 (by kernel_rfl) rfl rfl (one5 _ _ _ _ _ _ _) ?_; intro W2 p2)
                refine bodyPost_ret (results_at2 rfl _ _ (w.heap.size + 1 + 1) _ _ _ rfl _ rfl p2.at_ Try.underlying28 rfl 5 (by kernel_rfl) rfl) rfl ?_
                exact ⟨_, by rw [Hz.out, Hz.out, Hz.out, Hz.out, Hc.out]; rfl, ho.put p2 n2, p2.below hB (by omega)⟩
              · have d3 : decide (3 < z2) = false := by simp; omega
                have d30 : decide (30 < zl) = true := by simp; omega
                have Hc : Hid (joCode2 p n m k xq p n m k' yq = 3) := Lib.hid (by unfold joCode2; simp [hs, ht, h3, h30])
                have Hz : Hid (∀ x, joZ2 p n m k xq p n m k' yq x = 0) := Lib.hid (fun x => by simp [joZ2, Hc.out])
                have Hr : Hid (joR2 p n m k xq p n m k' yq = []) := Lib.hid (by simp [joR2, Hc.out])
                clear hs ht hs0 hs1 hs2 hsl
                go_enter Try.func24, Try.ntmps24
                go_wp2_with (first | (refine wpList_abs3 ?_; intro W hsz hB h0 h1 h2) | (refine wpList_load_all rfl 28 _ rfl w.heap.size rfl _ _ _ h0 Try.underlying28 rfl 5 (by kernel_rfl) rfl ?_))
                refine (HIx.out _ (hrx.keep hB)).mono ?_
                rintro e w1 ⟨rfl, b1⟩
                rw [Hs.out]
                replace h0 := h0.after b1
                replace h1 := h1.after b1
                replace h2 := h2.after b1
                replace hB := below_after hB b1
                clear b1 hsz
                go_wp2_with (refine wpList_want_exec rfl (exec_load_all 28 _ rfl (w.heap.size + 1) rfl _ _ _ h1 Try.underlying28 rfl 5 (by kernel_rfl) rfl) ?_)
                refine (HIy.out _ (hry.keep hB)).mono ?_
                rintro e w2 ⟨rfl, b1⟩
                rw [Ht.out]
                replace h0 := h0.after b1
                replace h1 := h1.after b1
                replace h2 := h2.after b1
                replace hB := below_after hB b1
                clear b1
                have x0 : w2.cell? ⟨w.heap.size, 0, none⟩ = some (.int .i64 p) := h0.at_ 0
                have y0 : w2.cell? ⟨w.heap.size + 1, 0, none⟩ = some (.int .i64 p) := h1.at_ 0
                have x1 : w2.cell? ⟨w.heap.size, 1, none⟩ = some (.int .i64 n) := h0.at_ 1
                have y1 : w2.cell? ⟨w.heap.size + 1, 1, none⟩ = some (.int .i64 n) := h1.at_ 1
                have x2 : w2.cell? ⟨w.heap.size, 2, none⟩ = some (.int .i64 m) := h0.at_ 2
                have y2 : w2.cell? ⟨w.heap.size + 1, 2, none⟩ = some (.int .i64 m) := h1.at_ 2
                have x3 : w2.cell? ⟨w.heap.size, 3, none⟩ = some (.int .i64 k) := h0.at_ 3
                have y3 : w2.cell? ⟨w.heap.size + 1, 3, none⟩ = some (.int .i64 k') := h1.at_ 3
                have x4 : w2.cell? ⟨w.heap.size, 4, none⟩ = some (.slice xA xq.length xc) := h0.at_ 4
                have y4 : w2.cell? ⟨w.heap.size + 1, 4, none⟩ = some (.slice yA yq.length yc) := h1.at_ 4
                go_upto_region 6 with (fail)
                have bx := below1 w2 (.cells #[.int .i64 z0, .int .i64 z1, .int .i64 z2] 2 (0, 0))
                replace h0 := h0.after bx
                replace h1 := h1.after bx
                replace h2 := h2.after bx
                replace hB := below_after hB bx
                have x4' : (w2.alloc (.cells #[.int .i64 z0, .int .i64 z1, .int .i64 z2] 2 (0, 0))).cell? ⟨w.heap.size, 4, none⟩ = some (.slice xA xq.length xc) := h0.at_ 4
                have y4' : (w2.alloc (.cells #[.int .i64 z0, .int .i64 z1, .int .i64 z2] 2 (0, 0))).cell? ⟨w.heap.size + 1, 4, none⟩ = some (.slice yA yq.length yc) := h1.at_ 4
                clear bx
                clear h3 h30
                go_wp2_with (first | (refine wpList_load_all rfl 28 _ rfl w.heap.size rfl _ _ _ h0 Try.underlying28 rfl 5 (by kernel_rfl) rfl ?_) | (refine wpList_store_all rfl 28 _ _ rfl rfl (w.heap.size + 1 + 1) rfl _ rfl _ _ h2 5 (by kernel_rfl) rfl rfl (by simp [Value.oneCell']) ?_; intro W2 p2))
                refine bodyPost_ret (results_at2 rfl _ _ (w.heap.size + 1 + 1) _ _ _ rfl _ rfl p2.at_ Try.underlying28 rfl 5 (by kernel_rfl) rfl) rfl ?_
                exact ⟨.slice none 0 0, by rw [Hz.out, Hz.out, Hz.out, Hz.out, Hc.out]; rfl, by rw [Hr.out]; exact Own.nil _ _, p2.below hB (by omega)⟩
            · have d3 : decide (3 < z2) = true := by simp; omega
              have Hc : Hid (joCode2 p n m k xq p n m k' yq = 3) := Lib.hid (by unfold joCode2; simp [hs, ht, h3])
              have Hz : Hid (∀ x, joZ2 p n m k xq p n m k' yq x = 0) := Lib.hid (fun x => by simp [joZ2, Hc.out])
              have Hr : Hid (joR2 p n m k xq p n m k' yq = []) := Lib.hid (by simp [joR2, Hc.out])
              clear hs ht hs0 hs1 hs2 hsl
              go_enter Try.func24, Try.ntmps24
              go_wp2_with (first | (refine wpList_abs3 ?_; intro W hsz hB h0 h1 h2) | (refine wpList_load_all rfl 28 _ rfl w.heap.size rfl _ _ _ h0 Try.underlying28 rfl 5 (by kernel_rfl) rfl ?_))
              refine (HIx.out _ (hrx.keep hB)).mono ?_
              rintro e w1 ⟨rfl, b1⟩
              rw [Hs.out]
              replace h0 := h0.after b1
              replace h1 := h1.after b1
              replace h2 := h2.after b1
              replace hB := below_after hB b1
              clear b1 hsz
              go_wp2_with (refine wpList_want_exec rfl (exec_load_all 28 _ rfl (w.heap.size + 1) rfl _ _ _ h1 Try.underlying28 rfl 5 (by kernel_rfl) rfl) ?_)
              refine (HIy.out _ (hry.keep hB)).mono ?_
              rintro e w2 ⟨rfl, b1⟩
              rw [Ht.out]
              replace h0 := h0.after b1
              replace h1 := h1.after b1
              replace h2 := h2.after b1
              replace hB := below_after hB b1
              clear b1
              have x0 : w2.cell? ⟨w.heap.size, 0, none⟩ = some (.int .i64 p) := h0.at_ 0
              have y0 : w2.cell? ⟨w.heap.size + 1, 0, none⟩ = some (.int .i64 p) := h1.at_ 0
              have x1 : w2.cell? ⟨w.heap.size, 1, none⟩ = some (.int .i64 n) := h0.at_ 1
              have y1 : w2.cell? ⟨w.heap.size + 1, 1, none⟩ = some (.int .i64 n) := h1.at_ 1
              have x2 : w2.cell? ⟨w.heap.size, 2, none⟩ = some (.int .i64 m) := h0.at_ 2
              have y2 : w2.cell? ⟨w.heap.size + 1, 2, none⟩ = some (.int .i64 m) := h1.at_ 2
              have x3 : w2.cell? ⟨w.heap.size, 3, none⟩ = some (.int .i64 k) := h0.at_ 3
              have y3 : w2.cell? ⟨w.heap.size + 1, 3, none⟩ = some (.int .i64 k') := h1.at_ 3
              have x4 : w2.cell? ⟨w.heap.size, 4, none⟩ = some (.slice xA xq.length xc) := h0.at_ 4
              have y4 : w2.cell? ⟨w.heap.size + 1, 4, none⟩ = some (.slice yA yq.length yc) := h1.at_ 4
              go_upto_region 6 with (fail)
              have bx := below1 w2 (.cells #[.int .i64 z0, .int .i64 z1, .int .i64 z2] 2 (0, 0))
              replace h0 := h0.after bx
              replace h1 := h1.after bx
              replace h2 := h2.after bx
              replace hB := below_after hB bx
              have x4' : (w2.alloc (.cells #[.int .i64 z0, .int .i64 z1, .int .i64 z2] 2 (0, 0))).cell? ⟨w.heap.size, 4, none⟩ = some (.slice xA xq.length xc) := h0.at_ 4
              have y4' : (w2.alloc (.cells #[.int .i64 z0, .int .i64 z1, .int .i64 z2] 2 (0, 0))).cell? ⟨w.heap.size + 1, 4, none⟩ = some (.slice yA yq.length yc) := h1.at_ 4
              clear bx
              clear h3
              go_upto_region 7 with (fail)
              go_wp2_with (first | (refine wpList_store_all rfl 28 _ _ rfl rfl (w.heap.size + 1 + 1) rfl _ rfl _ _ h2 5 (by kernel_rfl) rfl rfl (by simp [Value.oneCell']) ?_; intro W2 p2))
              refine bodyPost_ret (results_at2 rfl _ _ (w.heap.size + 1 + 1) _ _ _ rfl _ rfl p2.at_ Try.underlying28 rfl 5 (by kernel_rfl) rfl) rfl ?_
              exact ⟨.slice none 0 0, by rw [Hz.out, Hz.out, Hz.out, Hz.out, Hc.out]; rfl, by rw [Hr.out]; exact Own.nil _ _, p2.below hB (by omega)⟩
          · have e2 : (m != m') = true := by simp [ho2]
            have Hc : Hid (joCode2 p n m k xq p n m' k' yq = 2) := Lib.hid (by unfold joCode2; simp [hs, ht, ho2])
            have Hz : Hid (∀ x, joZ2 p n m k xq p n m' k' yq x = 0) := Lib.hid (fun x => by simp [joZ2, Hc.out])
            have Hr : Hid (joR2 p n m k xq p n m' k' yq = []) := Lib.hid (by simp [joR2, Hc.out])
            clear hs ht ho2
            go_enter Try.func24, Try.ntmps24
            go_wp2_with (first | (refine wpList_abs3 ?_; intro W hsz hB h0 h1 h2) | (refine wpList_load_all rfl 28 _ rfl w.heap.size rfl _ _ _ h0 Try.underlying28 rfl 5 (by kernel_rfl) rfl ?_))
            refine (HIx.out _ (hrx.keep hB)).mono ?_
            rintro e w1 ⟨rfl, b1⟩
            rw [Hs.out]
            replace h0 := h0.after b1
            replace h1 := h1.after b1
            replace h2 := h2.after b1
            replace hB := below_after hB b1
            clear b1 hsz
            go_wp2_with (refine wpList_want_exec rfl (exec_load_all 28 _ rfl (w.heap.size + 1) rfl _ _ _ h1 Try.underlying28 rfl 5 (by kernel_rfl) rfl) ?_)
            refine (HIy.out _ (hry.keep hB)).mono ?_
            rintro e w2 ⟨rfl, b1⟩
            rw [Ht.out]
            replace h0 := h0.after b1
            replace h1 := h1.after b1
            replace h2 := h2.after b1
            replace hB := below_after hB b1
            clear b1
            have x0 : w2.cell? ⟨w.heap.size, 0, none⟩ = some (.int .i64 p) := h0.at_ 0
            have y0 : w2.cell? ⟨w.heap.size + 1, 0, none⟩ = some (.int .i64 p) := h1.at_ 0
            have x1 : w2.cell? ⟨w.heap.size, 1, none⟩ = some (.int .i64 n) := h0.at_ 1
            have y1 : w2.cell? ⟨w.heap.size + 1, 1, none⟩ = some (.int .i64 n) := h1.at_ 1
            have x2 : w2.cell? ⟨w.heap.size, 2, none⟩ = some (.int .i64 m) := h0.at_ 2
            have y2 : w2.cell? ⟨w.heap.size + 1, 2, none⟩ = some (.int .i64 m') := h1.at_ 2
            have x3 : w2.cell? ⟨w.heap.size, 3, none⟩ = some (.int .i64 k) := h0.at_ 3
            have y3 : w2.cell? ⟨w.heap.size + 1, 3, none⟩ = some (.int .i64 k') := h1.at_ 3
            go_wp2_with (first | (refine wpList_load_all rfl 28 _ rfl w.heap.size rfl _ _ _ h0 Try.underlying28 rfl 5 (by kernel_rfl) rfl ?_) | (refine wpList_store_all rfl 28 _ _ rfl rfl (w.heap.size + 1 + 1) rfl _ rfl _ _ h2 5 (by kernel_rfl) rfl rfl (by simp [Value.oneCell']) ?_; intro W2 p2))
            refine bodyPost_ret (results_at2 rfl _ _ (w.heap.size + 1 + 1) _ _ _ rfl _ rfl p2.at_ Try.underlying28 rfl 5 (by kernel_rfl) rfl) rfl ?_
            exact ⟨.slice none 0 0, by rw [Hz.out, Hz.out, Hz.out, Hz.out, Hc.out]; rfl, by rw [Hr.out]; exact Own.nil _ _, p2.below hB (by omega)⟩
        · have e1 : (n != n') = true := by simp [ho1]
          have Hc : Hid (joCode2 p n m k xq p n' m' k' yq = 2) := Lib.hid (by unfold joCode2; simp [hs, ht, ho1])
          have Hz : Hid (∀ x, joZ2 p n m k xq p n' m' k' yq x = 0) := Lib.hid (fun x => by simp [joZ2, Hc.out])
          have Hr : Hid (joR2 p n m k xq p n' m' k' yq = []) := Lib.hid (by simp [joR2, Hc.out])
          clear hs ht ho1
          go_enter Try.func24, Try.ntmps24
          go_wp2_with (first | (refine wpList_abs3 ?_; intro W hsz hB h0 h1 h2) | (refine wpList_load_all rfl 28 _ rfl w.heap.size rfl _ _ _ h0 Try.underlying28 rfl 5 (by kernel_rfl) rfl ?_))
          refine (HIx.out _ (hrx.keep hB)).mono ?_
          rintro e w1 ⟨rfl, b1⟩
          rw [Hs.out]
          replace h0 := h0.after b1
          replace h1 := h1.after b1
          replace h2 := h2.after b1
          replace hB := below_after hB b1
          clear b1 hsz
          go_wp2_with (refine wpList_want_exec rfl (exec_load_all 28 _ rfl (w.heap.size + 1) rfl _ _ _ h1 Try.underlying28 rfl 5 (by kernel_rfl) rfl) ?_)
          refine (HIy.out _ (hry.keep hB)).mono ?_
          rintro e w2 ⟨rfl, b1⟩
          rw [Ht.out]
          replace h0 := h0.after b1
          replace h1 := h1.after b1
          replace h2 := h2.after b1
          replace hB := below_after hB b1
          clear b1
          have x0 : w2.cell? ⟨w.heap.size, 0, none⟩ = some (.int .i64 p) := h0.at_ 0
          have y0 : w2.cell? ⟨w.heap.size + 1, 0, none⟩ = some (.int .i64 p) := h1.at_ 0
          have x1 : w2.cell? ⟨w.heap.size, 1, none⟩ = some (.int .i64 n) := h0.at_ 1
          have y1 : w2.cell? ⟨w.heap.size + 1, 1, none⟩ = some (.int .i64 n') := h1.at_ 1
          have x2 : w2.cell? ⟨w.heap.size, 2, none⟩ = some (.int .i64 m) := h0.at_ 2
          have y2 : w2.cell? ⟨w.heap.size + 1, 2, none⟩ = some (.int .i64 m') := h1.at_ 2
          have x3 : w2.cell? ⟨w.heap.size, 3, none⟩ = some (.int .i64 k) := h0.at_ 3
          have y3 : w2.cell? ⟨w.heap.size + 1, 3, none⟩ = some (.int .i64 k') := h1.at_ 3
          go_wp2_with (first | (refine wpList_load_all rfl 28 _ rfl w.heap.size rfl _ _ _ h0 Try.underlying28 rfl 5 (by kernel_rfl) rfl ?_) | (refine wpList_store_all rfl 28 _ _ rfl rfl (w.heap.size + 1 + 1) rfl _ rfl _ _ h2 5 (by kernel_rfl) rfl rfl (by simp [Value.oneCell']) ?_; intro W2 p2))
          refine bodyPost_ret (results_at2 rfl _ _ (w.heap.size + 1 + 1) _ _ _ rfl _ rfl p2.at_ Try.underlying28 rfl 5 (by kernel_rfl) rfl) rfl ?_
          exact ⟨.slice none 0 0, by rw [Hz.out, Hz.out, Hz.out, Hz.out, Hc.out]; rfl, by rw [Hr.out]; exact Own.nil _ _, p2.below hB (by omega)⟩
      · have e0 : (p != p') = true := by simp [hp]
        have Hc : Hid (joCode2 p n m k xq p' n' m' k' yq = 2) := Lib.hid (by unfold joCode2; simp [hs, ht, hp])
        have Hz : Hid (∀ x, joZ2 p n m k xq p' n' m' k' yq x = 0) := Lib.hid (fun x => by simp [joZ2, Hc.out])
        have Hr : Hid (joR2 p n m k xq p' n' m' k' yq = []) := Lib.hid (by simp [joR2, Hc.out])
        clear hs ht hp
        go_enter Try.func24, Try.ntmps24
        go_wp2_with (first | (refine wpList_abs3 ?_; intro W hsz hB h0 h1 h2) | (refine wpList_load_all rfl 28 _ rfl w.heap.size rfl _ _ _ h0 Try.underlying28 rfl 5 (by kernel_rfl) rfl ?_))
        refine (HIx.out _ (hrx.keep hB)).mono ?_
        rintro e w1 ⟨rfl, b1⟩
        rw [Hs.out]
        replace h0 := h0.after b1
        replace h1 := h1.after b1
        replace h2 := h2.after b1
        replace hB := below_after hB b1
        clear b1 hsz
        go_wp2_with (refine wpList_want_exec rfl (exec_load_all 28 _ rfl (w.heap.size + 1) rfl _ _ _ h1 Try.underlying28 rfl 5 (by kernel_rfl) rfl) ?_)
        refine (HIy.out _ (hry.keep hB)).mono ?_
        rintro e w2 ⟨rfl, b1⟩
        rw [Ht.out]
        replace h0 := h0.after b1
        replace h1 := h1.after b1
        replace h2 := h2.after b1
        replace hB := below_after hB b1
        clear b1
        have x0 : w2.cell? ⟨w.heap.size, 0, none⟩ = some (.int .i64 p) := h0.at_ 0
        have y0 : w2.cell? ⟨w.heap.size + 1, 0, none⟩ = some (.int .i64 p') := h1.at_ 0
        have x1 : w2.cell? ⟨w.heap.size, 1, none⟩ = some (.int .i64 n) := h0.at_ 1
        have y1 : w2.cell? ⟨w.heap.size + 1, 1, none⟩ = some (.int .i64 n') := h1.at_ 1
        have x2 : w2.cell? ⟨w.heap.size, 2, none⟩ = some (.int .i64 m) := h0.at_ 2
        have y2 : w2.cell? ⟨w.heap.size + 1, 2, none⟩ = some (.int .i64 m') := h1.at_ 2
        have x3 : w2.cell? ⟨w.heap.size, 3, none⟩ = some (.int .i64 k) := h0.at_ 3
        have y3 : w2.cell? ⟨w.heap.size + 1, 3, none⟩ = some (.int .i64 k') := h1.at_ 3
        go_wp2_with (first | (refine wpList_load_all rfl 28 _ rfl w.heap.size rfl _ _ _ h0 Try.underlying28 rfl 5 (by kernel_rfl) rfl ?_) | (refine wpList_store_all rfl 28 _ _ rfl rfl (w.heap.size + 1 + 1) rfl _ rfl _ _ h2 5 (by kernel_rfl) rfl rfl (by simp [Value.oneCell']) ?_; intro W2 p2))
        refine bodyPost_ret (results_at2 rfl _ _ (w.heap.size + 1 + 1) _ _ _ rfl _ rfl p2.at_ Try.underlying28 rfl 5 (by kernel_rfl) rfl) rfl ?_
        exact ⟨.slice none 0 0, by rw [Hz.out, Hz.out, Hz.out, Hz.out, Hc.out]; rfl, by rw [Hr.out]; exact Own.nil _ _, p2.below hB (by omega)⟩
set_option maxHeartbeats 800000 in
theorem specJoinCols_c (p n m k : Int) (xA : Option Addr) (xc : Nat) (xq : List (List Nat)) (p' n' m' k' : Int) (yA : Option Addr) (yc : Nat) (yq : List (List Nat)) (w : World) (hrx : Rd w xA xq) (hry : Rd w yA yq) (hlx : xq.length ≤ 1048576) (hly : yq.length ≤ 1048576) :
    Calls Try.prog 17 #[.agg #[.int .i64 p, .int .i64 n, .int .i64 m, .int .i64 k, .slice xA xq.length xc], .agg #[.int .i64 p', .int .i64 n', .int .i64 m', .int .i64 k', .slice yA yq.length yc]] w (ResS w (joZ2 p n m k xq p' n' m' k' yq p) (joZ2 p n m k xq p' n' m' k' yq n) (joZ2 p n m k xq p' n' m' k' yq m) (joZ2 p n m k xq p' n' m' k' yq (k + k')) (joR2 p n m k xq p' n' m' k' yq) (joCode2 p n m k xq p' n' m' k' yq)) := by
  have HJ := Lib.hid (fun w hx hy => l02Joined_2 p n m k xA xc xq p' n' m' k' yA yc yq w hx hy hlx hly)
  have HRb := Lib.hid (joR2_good (p := p) (n := n) (m := m) (k := k) (p' := p') (n' := n') (m' := m') (k' := k') hrx.good hry.good).1
  generalize joR2 p n m k xq p' n' m' k' yq = R at *
  generalize joCode2 p n m k xq p' n' m' k' yq = code at *
  generalize joZ2 p n m k xq p' n' m' k' yq p = r0 at *
  generalize joZ2 p n m k xq p' n' m' k' yq n = r1 at *
  generalize joZ2 p n m k xq p' n' m' k' yq m = r2 at *
  generalize joZ2 p n m k xq p' n' m' k' yq (k + k') = r3 at *
  go_enter Try.func17, Try.ntmps17
  go_wp2_with (first | (refine wpList_abs3 ?_; intro W hsz hB h0 h1 h2) | (refine wpList_load_all rfl 28 _ rfl w.heap.size rfl _ _ _ h0 Try.underlying28 rfl 5 (by kernel_rfl) rfl ?_) | (refine wpList_load_all rfl 28 _ rfl (w.heap.size + 1) rfl _ _ _ h1 Try.underlying28 rfl 5 (by kernel_rfl) rfl ?_))
  refine (HJ.out _ (hrx.keep hB) (hry.keep hB)).mono ?_
  rintro e w1 ⟨v, rfl, ho, b1⟩
  have hs1 := hB.size
  replace h2 := h2.after b1
  replace hB := below_after hB b1
  replace ho := ho.mono hs1
  obtain ⟨A1, c1, rfl, _⟩ := ho.rd HRb.out
  clear b1 h0 h1 hsz
  have bx := below1 w1 (.cells #[.int .i64 r0, .int .i64 r1, .int .i64 r2, .int .i64 r3, .slice A1 R.length c1] 28 (0, 0))
  have h6 : At (w1.alloc (.cells #[.int .i64 r0, .int .i64 r1, .int .i64 r2, .int .i64 r3, .slice A1 R.length c1] 28 (0, 0))) w1.heap.size (.cells #[.int .i64 r0, .int .i64 r1, .int .i64 r2, .int .i64 r3, .slice A1 R.length c1] 28 (0, 0)) := al1_0 _ _
  replace h2 := h2.after bx
  replace hB := below_after hB bx
  replace ho := ho.below bx
  have n2 := ho.off h2 (by decide)
  clear bx
  go_wp2_with (first | (refine wpList_load_all rfl 28 _ rfl w1.heap.size rfl _ _ _ h6 Try.underlying28 rfl 5 (by kernel_rfl) rfl ?_) | (refine wpList_store_all rfl 28 _ _ rfl rfl (w.heap.size + 1 + 1) rfl _ rfl _ _ h2 5 (by kernel_rfl) rfl rfl (one5 _ _ _ _ _ _ _) ?_; intro W2 p2))
  refine bodyPost_ret (results_at2 rfl _ _ (w.heap.size + 1 + 1) _ _ _ rfl _ rfl p2.at_ Try.underlying28 rfl 5 (by kernel_rfl) rfl) rfl ?_
  exact ⟨_, rfl, ho.put p2 n2, p2.below hB (by omega)⟩
end Go.Proofs.Ytelicajipilhjaa
