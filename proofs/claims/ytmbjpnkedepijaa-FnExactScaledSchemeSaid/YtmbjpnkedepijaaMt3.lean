/-
  What answers that are methods want; slices.Clone of products; methodOf; KaratsubaMethod of both sides. (Made by mkmt3.py.)
-/
import Derived.Test.YtmbjpnkedepijaaMt2
import Derived.Test.YtmbjpnkedepijaaOwnSet
namespace Go.Proofs.Ytmbjpnkedepijaa
open Go.RowKit
set_option maxRecDepth 100000
attribute [local irreducible] wpList
theorem Own.rdN2 {n : Nat} {w : World} {lo : Nat} {v : Value} {qs : List (List Nat)} (h : Own w lo v qs) (he : qs.length = n) : ∃ A c, v = .slice A n c := by
  subst he
  rcases h.shp with ⟨rfl, h0⟩ | ⟨g, c, rfl⟩
  · exact ⟨none, 0, by rw [h0]⟩
  · exact ⟨_, _, rfl⟩
theorem grown_put {w W W' : World} {r : Option Nat} {g : Nat} {o : Obj} (h : w.grownBy W r) (hp : Put W W' g o) (hg : w.heap.size ≤ g) : w.grownBy W' r := by
  have hb : Below w.heap.size W W' := hp.below (Below.refl _ _) hg
  exact ⟨hb.os.trans h.os, hb.tape.trans h.tape, hb.output.trans h.output, Nat.le_trans h.size hb.size, fun k hk hne => (hb.block k hk).trans (h.block k hk hne)⟩
theorem wp_appP {o : Oper} {a : Act} {w : World} {K : Act → World → Prop} {Q : Exit → Act → World → Prop} (d : Option Tmp) (hd : o.dst = d) (s x : Operand) (ho : o.op = .call { callee := .builtin .append, args := #[s, x], argTypes := #[26, 26] })
    {lo : Nat} (sl : Value) (qs : List (List Nat)) (q : List Nat) (hs : a.eval s = sl) (hown : Own w lo sl qs) (g : Nat) (hx : a.eval x = .slice (some ⟨g, 0, none⟩) 1 1) (hg : At w g (.cells (u8s q) 45 (0, 0))) (hq : q.length = 27) (hle : qs.length ≤ 1000000) (hlo : lo ≤ w.heap.size)
    (h : ∀ v' w', Own w' lo v' (qs ++ [q]) → w.grownBy w' sl.ownBlock → K (a.put d v') w') : Oper.wp Try.prog o a w K Q := by
  obtain ⟨i0, hi, hz0, hz1, hz2⟩ := info_parts infoProd
  refine wp_append' d hd s x 26 ho lo 45 i0 (.agg (u8s (List.replicate 27 0))) 27 27 Try.underlying26 hi hz0 hz1 hz2 rfl (by decide) sl _ _ hs hown ⟨g, 0, none⟩ 1 1 (u8s q).toList hx (by rw [Array.length_toList, u8s_size, hq]) ?_ (u8s_one q) (by unfold maxLen; omega) (by omega) hlo ?_
  · intro j u hu
    rw [add_none, Nat.zero_add, hg.at_ j, ← Array.getElem?_toList]
    exact hu
  · intro v1 w8 own8 gr8 _
    refine h v1 w8 ?_ gr8
    unfold Own
    rw [u8s_snoc, List.length_append]
    exact own8
theorem exec_prodC {o : Oper} {a : Act} {w : World} (x y z : Operand) (ho : o.op = .build 45 #[(0, x), (1, y), (2, z)]) (p q r : List Nat)
    (hx : a.eval x = .agg (u8s p)) (hy : a.eval y = .agg (u8s q)) (hz : a.eval z = .agg (u8s r)) (hp : p.length = 9) (hq : q.length = 9) (hr : r.length = 9) :
    (execOp a.eval o).run Try.prog w = .ok (.value (.agg (u8s (cat3 p q r)))) w := exec_prod x y z ho p q r hx hy hz hp hq hr
def hZ (code x : Int) : Int := if code = 0 then x else 0
def hL (code : Int) (l : List (List Nat)) : List (List Nat) := if code = 0 then l else []
theorem hL_len {code : Int} {l : List (List Nat)} {N : Nat} (h : code = 0 → l.length ≤ N) : (hL code l).length ≤ N := by
  unfold hL
  split
  · exact h (by assumption)
  · simp
theorem hL_bytes {code : Int} {l : List (List Nat)} (h : code = 0 → ∀ r ∈ l, Bytes 27 r) : ∀ r ∈ hL code l, Bytes 27 r := by
  unfold hL
  split
  · exact h (by assumption)
  · simp
theorem cloneP_some (a9 : Addr) (c : Nat) (qs : List (List Nat)) (w : World) (hr : Rd w (some a9) qs) (hn : qs.length ≤ 1000) :
    Calls Try.prog 38 #[.slice (some a9) qs.length c] w fun e w' => ∃ v, e = .returned v ∧ Own w' w.heap.size v qs ∧ Below w.heap.size w w' := by
  go_enter Try.func38, Try.ntmps38
  have o0 : Own (w.alloc (.cells #[] 45 (0, 0))) w.heap.size (.slice (some ⟨w.heap.size, 0, none⟩) 0 0) [] := ⟨by simp [u8s], .inr ⟨w.heap.size, 0, #[], rfl, Nat.le_refl _, al1_0 _ _, by simp, by simp, by simp, by simp [u8s]⟩⟩
  have b0 := below1 w (.cells #[] 45 (0, 0))
  have hr0 := hr.keep b0
  go_wp2_with (first | (refine wpList_of_exec rfl (exec_eqnil 26 26 45 _ _ rfl Try.underlying26 (some a9) qs.length c rfl rfl) ?_) | (at_builtin; refine wpList_append_rd rfl _ rfl _ _ rfl (.slice (some ⟨w.heap.size, 0, none⟩) 0 0) [] qs rfl o0 (some a9) c rfl hr0 (by simp) (by simp; omega) b0.size ?_; intro v1 w1 ho1 gr1))
  go_ret
  rw [List.nil_append] at ho1
  exact ⟨v1, rfl, ho1, below_grown b0 gr1 o0 (Nat.le_refl _)⟩
theorem cloneP_none (n c : Nat) (hn : n = 0) (w : World) :
    Calls Try.prog 38 #[.slice none n c] w fun e w' => ∃ v, e = .returned v ∧ Own w' w.heap.size v [] ∧ Below w.heap.size w w' := by
  subst hn
  go_enter Try.func38, Try.ntmps38
  go_wp2_with (first | (refine wpList_of_exec rfl (exec_eqnil 26 26 45 _ _ rfl Try.underlying26 none 0 c rfl rfl) ?_))
  go_ret
  exact ⟨_, rfl, Own.nil _ _, Below.refl _ _⟩
theorem cloneP_c (A : Option Addr) (c : Nat) (qs : List (List Nat)) (w : World) (hr : Rd w A qs) (hn : qs.length ≤ 1000) :
    Calls Try.prog 38 #[.slice A qs.length c] w fun e w' => ∃ v, e = .returned v ∧ Own w' w.heap.size v qs ∧ Below w.heap.size w w' := by
  by_cases h0 : qs = []
  · subst h0
    cases A with
    | none => exact cloneP_none 0 c rfl w
    | some a => exact cloneP_some a c [] w hr hn
  · obtain ⟨b, off, rfl, _⟩ := hr.at_ (i := 0) (by cases qs; exact absurd rfl h0; simp)
    exact cloneP_some ⟨b, off, none⟩ c qs w hr hn

/-- Karatsuba's products, with p - 1 told. -/
def kar1 (l : Nat) : List Nat := [1, 0, 0, 0, 0, 0, 0, 0, 0, 1, 0, 0, 0, 0, 0, 0, 0, 0, 1, l, 0, 0, 0, 0, 0, 0, 0]
def kar2 (l : Nat) : List Nat := [0, 1, 0, 0, 0, 0, 0, 0, 0, 0, 1, 0, 0, 0, 0, 0, 0, 0, 0, l, 1, 0, 0, 0, 0, 0, 0]
def kar3 : List Nat := [1, 1, 0, 0, 0, 0, 0, 0, 0, 1, 1, 0, 0, 0, 0, 0, 0, 0, 0, 1, 0, 0, 0, 0, 0, 0, 0]
def kar (l : Nat) : List (List Nat) := [kar1 l, kar2 l, kar3]
def karCode (p : Int) : Int := if primeB p = true then 0 else 2
theorem kar_bytes {p : Int} : ∀ r ∈ hL (karCode p) (kar (p - 1).toNat), Bytes 27 r := hL_bytes fun h r hr => by
  have hp : p = 2 ∨ p = 3 ∨ p = 5 := by
    unfold karCode at h
    split at h
    · rename_i h2
      simp only [primeB, Bool.or_eq_true, beq_iff_eq] at h2
      omega
    · omega
  simp only [kar, List.mem_cons, List.not_mem_nil, or_false] at hr
  rcases hp with rfl | rfl | rfl <;> rcases hr with rfl | rfl | rfl <;> exact ⟨rfl, by decide⟩
theorem kar_len {p : Int} : (hL (karCode p) (kar (p - 1).toNat)).length ≤ 1048576 := hL_len fun _ => by simp [kar]
theorem exec_form1 {o : Oper} {a : Act} {w : World} (x : Operand) (ho : o.op = .build 43 #[(0, x)]) (f : List Nat) (y : Int) (hx : a.eval x = .int .u8 y) (hb : Try.prog.built 43 [(0, .int .u8 y)] = some (u8s f)) : (execOp a.eval o).run Try.prog w = .ok (.value (.agg (u8s f))) w := by
  unfold execOp
  have := run_build (P := Try.prog) w 43 #[(0, .int .u8 y)] _ hb
  simp [ho, hx, this]
theorem exec_form2 {o : Oper} {a : Act} {w : World} (x x2 : Operand) (ho : o.op = .build 43 #[(0, x), (1, x2)]) (f : List Nat) (y y2 : Int) (hx : a.eval x = .int .u8 y) (hx2 : a.eval x2 = .int .u8 y2) (hb : Try.prog.built 43 [(0, .int .u8 y), (1, .int .u8 y2)] = some (u8s f)) : (execOp a.eval o).run Try.prog w = .ok (.value (.agg (u8s f))) w := by
  unfold execOp
  have := run_build (P := Try.prog) w 43 #[(0, .int .u8 y), (1, .int .u8 y2)] _ hb
  simp [ho, hx, hx2, this]
theorem exec_form3 {o : Oper} {a : Act} {w : World} (x x2 x3 : Operand) (ho : o.op = .build 43 #[(0, x), (1, x2), (2, x3)]) (f : List Nat) (y y2 y3 : Int) (hx : a.eval x = .int .u8 y) (hx2 : a.eval x2 = .int .u8 y2) (hx3 : a.eval x3 = .int .u8 y3) (hb : Try.prog.built 43 [(0, .int .u8 y), (1, .int .u8 y2), (2, .int .u8 y3)] = some (u8s f)) : (execOp a.eval o).run Try.prog w = .ok (.value (.agg (u8s f))) w := by
  unfold execOp
  have := run_build (P := Try.prog) w 43 #[(0, .int .u8 y), (1, .int .u8 y2), (2, .int .u8 y3)] _ hb
  simp [ho, hx, hx2, hx3, this]
theorem exec_conv8k {o : Oper} {a : Act} {w : World} (x : Operand) (ho : o.op = .convert 2 5 x) (m : Int) (y : Nat) (hx : a.eval x = .int .i64 m) (hy : y < 256) (hm : m = (y : Int)) : (execOp a.eval o).run Try.prog w = .ok (.value (.int .u8 (y : Int))) w := by
  subst hm
  have hw : IntKind.u8.wrap (y : Int) = (y : Int) := by unfold IntKind.wrap; simp [IntKind.signed, IntKind.bits]; omega
  unfold execOp
  simp only [ho, hx]
  simp [go_sem, Try.underlying5, Try.underlying2, hw]
theorem exec_kar {o : Oper} {a : Act} {w : World} (x y z : Operand) (ho : o.op = .buildSlice 26 3 #[(0, x), (1, y), (2, z)]) (l : Nat) (hl : l = 1 ∨ l = 2 ∨ l = 4) (hx : a.eval x = .agg (u8s (kar1 l))) (hy : a.eval y = .agg (u8s (kar2 l))) (hz : a.eval z = .agg (u8s kar3)) :
    (execOp a.eval o).run Try.prog w = .ok (.value (.slice (some ⟨w.heap.size, 0, none⟩) 3 3)) (w.alloc (.cells (u8s (kar l).flatten) 45 (0, 0))) := by
  obtain ⟨i, hi0, hz0, h1, h2⟩ := info_parts infoProd
  have h := run_buildSlice (P := Try.prog) w 26 45 3 #[(0, .agg (u8s (kar1 l))), (1, .agg (u8s (kar2 l))), (2, .agg (u8s kar3))] (u8s (kar l).flatten) i (.agg (u8s (List.replicate 27 0))) Try.underlying26 hi0 hz0 (by rw [h1]; omega) (by rw [h1]; omega) (by rw [h1]; rcases hl with rfl | rfl | rfl <;> kernel_rfl)
  unfold execOp
  simp [ho, hx, hy, hz, h]
end Go.Proofs.Ytmbjpnkedepijaa
