/-
  Lists of int64 that grow by one; the numbers of a tensor that are made place by place.
-/
import Derived.Test.YtebmkmkhfhmfbaaTen5
import Derived.Test.YtebmkmkhfhmfbaaLK1
namespace Go.Proofs.Ytebmkmkhfhmfbaa
open Go.RowKit
set_option maxRecDepth 100000
theorem i64s_ones (xs : List Int) : ∀ v ∈ i64s xs, v.oneCell' = true := by
  intro v hv
  obtain ⟨x, _, rfl⟩ := List.mem_map.1 hv
  rfl
theorem wpList_bsi1 {ops : Array Oper} {rest : List Oper} {o : Oper} {a : Act} {w : World} {Q : Exit → Act → World → Prop} (hgd : o.guard = none) (d : Option Tmp) (hd : o.dst = d) (x : Operand) (ho : o.op = .buildSlice 49 1 #[(0, x)]) (i : Int) (hx : a.eval x = .int .i64 i)
    (h : ∀ w', New w w' (.cells #[.int .i64 i] 2 (0, 0)) → wpList Try.prog ops Q rest (a.put d (.slice (some ⟨w.heap.size, 0, none⟩) 1 1)) w') : wpList Try.prog ops Q (o :: rest) a w :=
  ls_ex d _ hgd hd (exec_bsi1 x ho i hx) (h _ (New.alloc _ _))
theorem wpList_appI {ops : Array Oper} {rest : List Oper} {o : Oper} {a : Act} {w : World} {Q : Exit → Act → World → Prop} (hgd : o.guard = none) (d : Option Tmp) (hd : o.dst = d) (s x : Operand) (ho : o.op = .call { callee := .builtin .append, args := #[s, x], argTypes := #[49, 49] })
    {lo : Nat} (v : Value) (xs : List Int) (y : Int) (hs : a.eval s = v) (hown : OwnI w lo v xs) (g : Nat) (hx : a.eval x = .slice (some ⟨g, 0, none⟩) 1 1) (hg : At w g (.cells #[.int .i64 y] 2 (0, 0))) (hle : xs.length ≤ 1000000) (hlo : lo ≤ w.heap.size)
    (h : ∀ v' w', OwnI w' lo v' (xs ++ [y]) → w.grownBy w' v.ownBlock → wpList Try.prog ops Q rest (a.put d v') w') : wpList Try.prog ops Q (o :: rest) a w := by
  obtain ⟨i0, hi, hz0, hz1, hz2⟩ := info_parts infoI64
  refine wpList_plain hgd fun _ hK => ?_
  refine wp_append' d hd s x 49 ho lo 2 i0 (.int .i64 0) 1 8 Try.underlying49 hi hz0 hz1 hz2 rfl (by decide) v _ _ hs hown ⟨g, 0, none⟩ 1 1 (i64s [y]) hx (by simp [i64s]) ?_ (i64s_ones _) (by unfold maxLen; omega) (by omega) hlo ?_
  · intro j u hu
    have hj : j = 0 := by
      rcases Nat.eq_zero_or_pos j with h0 | h0
      · exact h0
      · rw [List.getElem?_eq_none (by simp [i64s]; omega)] at hu
        cases hu
    subst hj
    have h1 : u = .int .i64 y := by simpa [i64s] using hu.symm
    subst h1
    exact hg.at_ 0
  · intro v1 w8 own8 gr8 _
    refine hK _ _ (h v1 w8 ?_ gr8)
    unfold OwnI
    rw [show i64s (xs ++ [y]) = i64s xs ++ i64s [y] by simp [i64s], List.length_append]
    exact own8
theorem wpList_make0I {ops : Array Oper} {rest : List Oper} {o : Oper} {a : Act} {w : World} {Q : Exit → Act → World → Prop} (hg : o.guard = none) (d : Option Tmp) (hd : o.dst = d) (l c : Operand) (hop : o.op = Op.makeSlice 49 l c)
    (n : Nat) (hl : a.eval l = .int .i64 0) (hc : a.eval c = .int .i64 n) (hb : n ≤ 1000000)
    (h : ∀ w', New w w' (.cells (Array.replicate n (.int .i64 0)) 2 (0, 0)) → OwnI w' w.heap.size (.slice (some ⟨w.heap.size, 0, none⟩) 0 n) [] → wpList Try.prog ops Q rest (a.put d (.slice (some ⟨w.heap.size, 0, none⟩) 0 n)) w') : wpList Try.prog ops Q (o :: rest) a w := by
  subst hd
  obtain ⟨i, hi0, hz, h1, h2⟩ := info_parts infoI64
  refine wpList_plain hg fun K hK => ?_
  have hr := run_make (P := Try.prog) w 49 2 i _ Try.underlying49 hi0 hz .i64 .i64 0 n (by omega) (by omega) (by rw [h2]; omega) (by omega)
  have hzc : (Value.int .i64 0).cells = #[Value.int .i64 0] := rfl
  simp only [Int.toNat_natCast, h1, hzc, made_one] at hr
  unfold Oper.wp
  simp [execOp, hop, hl, hc, hr, Result.andThen]
  refine hK _ _ (h _ (New.alloc _ _) ?_)
  refine ⟨by simp [i64s], .inr ⟨w.heap.size, n, Array.replicate n (.int .i64 0), rfl, Nat.le_refl _, al1_0 _ _, by simp, by unfold maxLen; omega, by simp, by simp [i64s]⟩⟩
/-- The number at the place t of a list that is made place by place. -/
def gen (n1 n2 : Nat) (p : Int) (f : Nat → Nat → Nat → Int) (t : Nat) : Int := f (t / n2 / n1) (t / n2 % n1) (t % n2) % p
def genL (n1 n2 : Nat) (p : Int) (f : Nat → Nat → Nat → Int) (N : Nat) : List Int := (List.range N).map (gen n1 n2 p f)
theorem genL_len (n1 n2 : Nat) (p : Int) (f : Nat → Nat → Nat → Int) (N : Nat) : (genL n1 n2 p f N).length = N := by simp [genL]
theorem gen_at {n1 n2 : Nat} {p : Int} {f : Nat → Nat → Nat → Int} {i j k : Nat} (hj : j < n1) (hk : k < n2) : gen n1 n2 p f ((i * n1 + j) * n2 + k) = f i j k % p := by
  have h2 : ((i * n1 + j) * n2 + k) / n2 = i * n1 + j := by
    rw [Nat.mul_comm, Nat.mul_add_div (by omega), Nat.div_eq_of_lt hk]
    omega
  have h3 : ((i * n1 + j) * n2 + k) % n2 = k := by
    rw [Nat.mul_comm, Nat.mul_add_mod]
    exact Nat.mod_eq_of_lt hk
  have h4 : (i * n1 + j) / n1 = i := by
    rw [Nat.mul_comm, Nat.mul_add_div (by omega), Nat.div_eq_of_lt hj]
    omega
  have h5 : (i * n1 + j) % n1 = j := by
    rw [Nat.mul_comm, Nat.mul_add_mod]
    exact Nat.mod_eq_of_lt hj
  unfold gen
  rw [h2, h3, h4, h5]
theorem genL_step {n1 n2 : Nat} {p : Int} {f : Nat → Nat → Nat → Int} {i j k : Nat} (hj : j < n1) (hk : k < n2) : genL n1 n2 p f ((i * n1 + j) * n2 + k) ++ [f i j k % p] = genL n1 n2 p f ((i * n1 + j) * n2 + (k + 1)) := by
  unfold genL
  rw [← Nat.add_assoc, List.range_succ, List.map_append, List.map_singleton, gen_at hj hk]
theorem place_lt {n0 n1 n2 i j k : Nat} (hi : i < n0) (hj : j < n1) (hk : k < n2) : (i * n1 + j) * n2 + k < n0 * n1 * n2 := by
  have h1 : i * n1 + j + 1 ≤ n0 * n1 := by
    have : (i + 1) * n1 ≤ n0 * n1 := Nat.mul_le_mul_right _ hi
    rw [Nat.add_mul] at this
    omega
  have h2 : (i * n1 + j + 1) * n2 ≤ n0 * n1 * n2 := Nat.mul_le_mul_right _ h1
  rw [Nat.add_mul] at h2
  omega
theorem places_729 {n0 n1 n2 : Nat} (h0 : n0 ≤ 9) (h1 : n1 ≤ 9) (h2 : n2 ≤ 9) : n0 * n1 * n2 ≤ 729 := by
  have a := Nat.mul_le_mul h0 h1
  have b := Nat.mul_le_mul a h2
  omega
end Go.Proofs.Ytebmkmkhfhmfbaa
