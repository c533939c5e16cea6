/-
  TriangularTensor of both sides. (Made by mktri.py.)
-/
import Derived.Test.YtdbcgbbokodndaaOneTri
import Derived.Test.YtdbcgbbokodndaaTenK
import Derived.Test.YtdbcgbbokodndaaPg0
namespace Go.Proofs.Ytdbcgbbokodndaa
open Go.RowKit
set_option maxRecDepth 100000
theorem isBetweenT_c (a n b : Int) (w : World) : Calls Try.prog 44 #[.int .i64 a, .int .i64 n, .int .i64 b] w fun e w' => e = .returned (.bool (decide (a ≤ n) && decide (n ≤ b))) ∧ w = w' := by
  by_cases h : a ≤ n
  · have h1 : decide (a ≤ n) = true := by simp [h]
    go_enter Try.func44, Try.ntmps44
    go_wp2_with fail
    go_ret
    exact ⟨by simp [h], rfl⟩
  · have h1 : decide (a ≤ n) = false := by simp [h]
    go_enter Try.func44, Try.ntmps44
    go_wp2_with fail
    go_ret
    exact ⟨by simp, rfl⟩
theorem exec_build_boxT {o : Oper} {a : Act} {w : World} (x y z : Operand) (ho : o.op = .build 68 #[(0, x), (1, y), (2, z)]) (n m k : Int) (hx : a.eval x = .int .i64 n) (hy : a.eval y = .int .i64 m) (hz : a.eval z = .int .i64 k) :
    (execOp a.eval o).run Try.prog w = .ok (.value (.agg #[.int .i64 n, .int .i64 m, .int .i64 k])) w := by
  have hb : Try.prog.built 68 [(0, .int .i64 n), (1, .int .i64 m), (2, .int .i64 k)] = some #[.int .i64 n, .int .i64 m, .int .i64 k] := by kernel_rfl
  unfold execOp
  have := run_build (P := Try.prog) w 68 #[(0, .int .i64 n), (1, .int .i64 m), (2, .int .i64 k)] _ hb
  simp [ho, hx, hy, hz, this]

def tZ (code x : Int) : Int := if code = 0 then x else 0
def tL (code : Int) (l : List Int) : List Int := if code = 0 then l else []
theorem tL_len {code : Int} {l : List Int} {N : Nat} (h : code = 0 → l.length ≤ N) : (tL code l).length ≤ N := by
  unfold tL
  split
  · exact h (by assumption)
  · simp
theorem infoEnt : (Try.prog.info? 74).map (fun i => (i.zero, i.size, i.bytes)) = some (some (.agg (iar (List.replicate 2 0))), 2, 16) := by kernel_rfl
theorem exec_bs1Ent {o : Oper} {a : Act} {w : World} (x : Operand) (ho : o.op = .buildSlice 72 1 #[(0, x)]) (v f : Int) (hx : a.eval x = .agg #[.int .i64 v, .int .i64 f]) :
    (execOp a.eval o).run Try.prog w = .ok (.value (.slice (some ⟨w.heap.size, 0, none⟩) 1 1)) (w.alloc (.cells #[.int .i64 v, .int .i64 f] 74 (0, 0))) := by
  obtain ⟨inf, hi0, hz, h1, h2⟩ := info_parts infoEnt
  have h := run_buildSlice (P := Try.prog) w 72 74 1 #[(0, .agg #[.int .i64 v, .int .i64 f])] #[.int .i64 v, .int .i64 f] inf (.agg (iar (List.replicate 2 0))) Try.underlying72 hi0 hz (by rw [h1]; omega) (by rw [h1]; omega) (by rw [h1]; kernel_rfl)
  unfold execOp
  simp [ho, hx, h]
/-- An append of one row. -/
theorem wp_appEnt {o : Oper} {a : Act} {w : World} {K : Act → World → Prop} {Q : Exit → Act → World → Prop} (d : Option Tmp) (hd : o.dst = d) (s x : Operand) (ho : o.op = .call { callee := .builtin .append, args := #[s, x], argTypes := #[72, 72] })
    {lo : Nat} (sl : Value) (qs : List (List Int)) (v f : Int) (hs : a.eval s = sl) (hown : OwnK 74 2 w lo sl qs) (g : Nat) (hx : a.eval x = .slice (some ⟨g, 0, none⟩) 1 1) (hg : At w g (.cells #[.int .i64 v, .int .i64 f] 74 (0, 0))) (hle : qs.length ≤ 1000000) (hlo : lo ≤ w.heap.size)
    (h : ∀ v' w', OwnK 74 2 w' lo v' (qs ++ [[v, f]]) → w.grownBy w' sl.ownBlock → K (a.put d v') w') : Oper.wp Try.prog o a w K Q := by
  obtain ⟨i0, hi, hz0, hz1, hz2⟩ := info_parts infoEnt
  refine wp_append' d hd s x 72 ho lo 74 i0 (.agg (iar (List.replicate 2 0))) 2 16 Try.underlying72 hi hz0 hz1 hz2 rfl (by decide) sl _ _ hs hown.2 ⟨g, 0, none⟩ 1 1 (i64s [v, f]) hx (by simp [i64s]) ?_ (by intro u hu; simp [i64s] at hu; rcases hu with rfl | rfl <;> rfl) (by unfold maxLen; omega) (by omega) hlo ?_
  · intro j u hu
    rw [add_none, Nat.zero_add, hg.at_ j, ← Array.getElem?_toList]
    exact hu
  · intro v1 w8 own8 gr8 _
    refine h v1 w8 ⟨fun q hq => ?_, ?_⟩ gr8
    · rcases List.mem_append.1 hq with hq | hq
      · exact hown.1 q hq
      · simp only [List.mem_cons, List.not_mem_nil, or_false] at hq
        subst hq
        rfl
    · rw [show i64s (qs ++ [[v, f]]).flatten = i64s qs.flatten ++ i64s [v, f] by simp [i64s], List.length_append]
      exact own8
theorem exec_build_ent {o : Oper} {a : Act} {w : World} (x y : Operand) (ho : o.op = .build 74 #[(0, x), (1, y)]) (v f : Int) (hx : a.eval x = .int .i64 v) (hy : a.eval y = .int .i64 f) :
    (execOp a.eval o).run Try.prog w = .ok (.value (.agg #[.int .i64 v, .int .i64 f])) w := by
  have hb : Try.prog.built 74 [(0, .int .i64 v), (1, .int .i64 f)] = some #[.int .i64 v, .int .i64 f] := by kernel_rfl
  have h := run_build (P := Try.prog) w 74 _ _ hb
  unfold execOp
  simp [ho, hx, hy, h]

theorem run_eq_ent (a b c d : Int) (w : World) : (Op.equalIn 10000 74 (.agg #[.int .i64 a, .int .i64 b]) (.agg #[.int .i64 c, .int .i64 d])).run Try.prog w = .ok (a == c && b == d) w := by
  have hu : Try.prog.underlying 2 = some (.int .i64) := by kernel_rfl
  have hagg : (isAgg 2).run Try.prog w = .ok false w := by
    unfold isAgg
    rw [Sem.run_bind, run_underlying hu w]
    rfl
  have hpart : ∀ (xs : Array Value) (j : Nat) (v : Value), xs[j]? = some v → (part 2 xs j).run Try.prog w = .ok v w := by
    intro xs j v hv
    unfold part
    simp [Sem.run_bind, hagg, hv]
  have hq : ∀ a b : Int, (Op.equalIn 9999 2 (.int .i64 a) (.int .i64 b)).run Try.prog w = .ok (a == b) w := fun a b => run_equalIn_int w 9998 2 .i64 .i64 a b hu
  have hm : (Try.prog.fieldsOf 74).toList.map (fun f => (f.type, f.offset, decide (f.name ≠ "_"))) = [(2, 0, true), (2, 1, true)] := by kernel_rfl
  rw [run_equalIn_struct w 9999 74 _ _ (by kernel_rfl) (by kernel_rfl)]
  generalize (Try.prog.fieldsOf 74).toList = fs at hm
  cases fs with
  | nil => simp at hm
  | cons f0 fs =>
  cases fs with
  | nil => simp at hm
  | cons f1 fs =>
  cases fs with
  | cons f2 fs => simp at hm
  | nil =>
    simp only [List.map_cons, List.map_nil, List.cons.injEq, Prod.mk.injEq, and_true, decide_eq_true_eq] at hm
    obtain ⟨⟨t0, o0, n0⟩, ⟨t1, o1, n1⟩⟩ := hm
    simp only [Op.eqFields, if_pos n0, if_pos n1, t0, t1, o0, o1, Sem.run_bind, hpart #[.int .i64 a, .int .i64 b] 0 (.int .i64 a) rfl, hpart #[.int .i64 a, .int .i64 b] 1 (.int .i64 b) rfl, hpart #[.int .i64 c, .int .i64 d] 0 (.int .i64 c) rfl, hpart #[.int .i64 c, .int .i64 d] 1 (.int .i64 d) rfl, Result.andThen_ok, hq, Sem.run_ite, Sem.run_pure]
    cases a == c <;> cases b == d <;> rfl
theorem exec_eql_ent {o : Oper} {x0 : Act} {w : World} (x y : Operand) (t' : TypeId) (ho : o.op = .binOp .eql 74 x y t') (a b c d : Int) (hx : x0.eval x = .agg #[.int .i64 a, .int .i64 b]) (hy : x0.eval y = .agg #[.int .i64 c, .int .i64 d]) (r : Bool) (hb : (a == c && b == d) = r) :
    (execOp x0.eval o).run Try.prog w = .ok (.value (.bool r)) w := by
  have hm : Try.prog.eqGuardType Try.prog.depth 74 = false := by kernel_rfl
  unfold execOp
  subst hb
  simp [ho, hx, hy, Sem.run_bind, run_eqGuard_agg w .eql _ x y _ _ hm, run_eql_struct, run_eq_ent]
theorem exec_load_ent {o : Oper} {a : Act} {w : World} (x : Operand) (ho : o.op = .load 74 x) (b off i : Nat) (E : List (List Int)) (r c : Int) (hx : a.eval x = .pointer (some ⟨b, off + i * 2, none⟩)) (h : RdK 2 w (some ⟨b, off, none⟩) E) (hi : E[i]? = some [r, c]) :
    (execOp a.eval o).run Try.prog w = .ok (.value (.agg #[.int .i64 r, .int .i64 c])) w := by
  have hlt := (List.getElem?_eq_some_iff.1 hi).1
  have hc := h.cells hlt
  rw [(List.getElem?_eq_some_iff.1 hi).2] at hc
  exact exec_load_ints 74 x ho b (off + i * 2) hx [r, c] _ 2 hc Try.underlying74 rfl (by kernel_rfl) rfl
/-- How many entries lie on and above the diagonal; their places; the entries. -/
def triS (n : Nat) : Nat := n * (n + 1) / 2
def triPl (n a b : Nat) : Nat := a * n - a * (a - 1) / 2 + b - a
def entRow (n x : Nat) : List (List Int) := (List.range' x (n - x)).map fun (y : Nat) => [(x : Int), (y : Int)]
def entA (n a : Nat) : List (List Int) := (List.range a).flatMap fun x => entRow n x
def entP (n a b : Nat) : List (List Int) := entA n a ++ (List.range' a (b - a)).map fun (y : Nat) => [(a : Int), (y : Int)]
def entE (n i j : Nat) : Int := ((entP n n n)[i]?.getD [])[j]?.getD 0
def triB (n i j k : Nat) : Bool := (entE n i 1 == entE n j 0) && (entE n k 0 == entE n i 0 && entE n k 1 == entE n j 1)
def triD (n a b c : Nat) : Nat := (triPl n a b * triS n + triPl n b c) * triS n + triPl n a c
def tC (n a b c : Nat) : List Nat := (List.range' b (c - b)).map fun z => triD n a b z
def tB (n a b : Nat) : List Nat := (List.range' a (b - a)).flatMap fun y => tC n a y n
def tA (n a : Nat) : List Nat := (List.range a).flatMap fun x => tB n x n
def tAll (n a b c : Nat) : List Nat := tA n a ++ tB n a b ++ tC n a b c
def triN (n : Nat) : Nat := triS n * triS n * triS n
def setAll (l : List Int) (ds : List Nat) : List Int := ds.foldl (fun l d => l.set d 1) l
def trP (n a b c : Nat) : List Int := setAll (List.replicate (triN n) 0) (tAll n a b c)
theorem setAll_len (l : List Int) (ds : List Nat) : (setAll l ds).length = l.length := by
  induction ds generalizing l with
  | nil => rfl
  | cons d ds ih => unfold setAll at *; rw [List.foldl_cons, ih, List.length_set]
theorem trP_len (n a b c : Nat) : (trP n a b c).length = triN n := by unfold trP; rw [setAll_len, List.length_replicate]
theorem tAll_step9 : ∀ n, n < 4 → ∀ a, a < n → ∀ b, b < n → ∀ c, c < n → (!(decide (a ≤ b) && decide (b ≤ c)) || decide (tAll n a b c ++ [triD n a b c] = tAll n a b (c + 1)) && decide (triD n a b c < triN n)) = true := by decide +kernel
theorem tAll_step (n : Nat) (hn : n < 4) (a : Nat) (ha : a < n) (b : Nat) (hb : b < n) (c : Nat) (hc : c < n) (hab : a ≤ b) (hbc : b ≤ c) : tAll n a b c ++ [triD n a b c] = tAll n a b (c + 1) := by
  have h := tAll_step9 n hn a ha b hb c hc
  simp only [hab, hbc, decide_true, Bool.and_self, Bool.not_true, Bool.false_or, Bool.and_eq_true, decide_eq_true_eq] at h
  exact h.1
theorem tAll_c9 : ∀ n, n < 4 → ∀ a, a < n → ∀ b, b < n → (!decide (a ≤ b) || decide (tAll n a b n = tAll n a (b + 1) (b + 1)) && decide (entP n a b ++ [[(a : Int), (b : Int)]] = entP n a (b + 1))) = true := by decide +kernel
theorem tAll_c (n : Nat) (hn : n < 4) (a : Nat) (ha : a < n) (b : Nat) (hb : b < n) (hab : a ≤ b) : tAll n a b n = tAll n a (b + 1) (b + 1) := by
  have h := tAll_c9 n hn a ha b hb
  simp only [hab, decide_true, Bool.not_true, Bool.false_or, Bool.and_eq_true, decide_eq_true_eq] at h
  exact h.1
theorem tAll_b : ∀ n, n < 4 → ∀ a, a < n → tAll n a n n = tAll n (a + 1) (a + 1) (a + 1) := by decide +kernel
theorem triD_lt (n : Nat) (hn : n < 4) (a : Nat) (ha : a < n) (b : Nat) (hb : b < n) (c : Nat) (hc : c < n) (hab : a ≤ b) (hbc : b ≤ c) : triD n a b c < triN n := by
  have h := tAll_step9 n hn a ha b hb c hc
  simp only [hab, hbc, decide_true, Bool.and_self, Bool.not_true, Bool.false_or, Bool.and_eq_true, decide_eq_true_eq] at h
  exact h.2
theorem trP_end : ∀ n, n < 4 → trP n n n n = (List.range (triN n)).map fun t => if triB n (t / triS n / triS n) (t / triS n % triS n) (t % triS n) = true then 1 else 0 := by decide +kernel
theorem trP_step {n a b c : Nat} (hn : n < 4) (ha : a ≤ b) (hb : b ≤ c) (hc : c < n) : (trP n a b c).set (triD n a b c) 1 = trP n a b (c + 1) := by
  unfold trP setAll
  rw [← tAll_step n hn a (by omega) b (by omega) c hc ha hb, List.foldl_append]
  rfl
theorem trP_zero (n : Nat) : trP n 0 0 0 = List.replicate (triN n) 0 := by simp [trP, tAll, tA, tB, tC, setAll]
theorem entP_step (n : Nat) (hn : n < 4) (a : Nat) (ha : a < n) (b : Nat) (hb : b < n) (hab : a ≤ b) : entP n a b ++ [[(a : Int), (b : Int)]] = entP n a (b + 1) := by
  have h := tAll_c9 n hn a ha b hb
  simp only [hab, decide_true, Bool.not_true, Bool.false_or, Bool.and_eq_true, decide_eq_true_eq] at h
  exact h.2
theorem entP_b : ∀ n, n < 4 → ∀ a, a < n → entP n a n = entP n (a + 1) (a + 1) := by decide +kernel
theorem entP_len : ∀ n, n < 4 → ∀ a, a < n + 1 → ∀ b, b < n + 1 → (entP n a b).length ≤ 20 := by decide +kernel
theorem ent_all : ∀ n, n < 4 → (entP n n n).length = triS n := by decide +kernel
theorem ent_get : ∀ n, n < 4 → ∀ i, i < triS n → (entP n n n)[i]? = some [entE n i 0, entE n i 1] := by decide +kernel
theorem triS_b : ∀ n, n < 4 → n * (n + 1) = 2 * triS n ∧ triS n ≤ 6 := by decide +kernel
def triCode (p n : Int) : Int := if (primeB p && (decide (1 ≤ n) && decide (n ≤ 3))) = true then 0 else 2
def triL (p : Int) (n : Nat) : List Int := genL (triS n) (triS n) p (oneF (triB n)) (triS n * triS n * triS n)
theorem triL_len (p : Int) (n : Nat) : (triL p n).length = triN n := by simp [triL, genL, triN]
theorem triL_end {p : Int} {n : Nat} (hp : 2 ≤ p) (hn : n < 4) : trP n n n n = triL p n := by
  rw [trP_end n hn]
  unfold triL genL triN
  apply List.ext_getElem
  · simp
  · intro t h1 h2
    simp only [List.getElem_map, List.getElem_range, gen, oneF]
    split
    · exact (Int.emod_eq_of_lt (by omega) (by omega)).symm
    · simp
theorem tri_len {p n : Int} : (tL (triCode p n) (triL p n.toNat)).length ≤ 1048576 := tL_len fun h => by
  unfold triCode at h
  split at h
  · next h2 =>
    simp only [Bool.and_eq_true, decide_eq_true_eq] at h2
    rw [triL_len]
    have h3 := (triS_b n.toNat (by omega)).2
    have := places_729 (n0 := triS n.toNat) (n1 := triS n.toNat) (n2 := triS n.toNat) (by omega) (by omega) (by omega)
    unfold triN
    omega
  · omega
set_option maxHeartbeats 4000000 in
theorem l09Place_c (n a b : Nat) (w : World) (hn : n < 4) (ha : a ≤ b) (hb : b < n) : Calls Try.prog 53 #[.int .i64 n, .int .i64 a, .int .i64 b] w fun e w' => e = .returned (.int .i64 (triPl n a b : Nat)) ∧ w = w' := by
  have h3 : n = 1 ∨ n = 2 ∨ n = 3 := by omega
  have hb3 : b = 0 ∨ b = 1 ∨ b = 2 := by omega
  have ha3 : a = 0 ∨ a = 1 ∨ a = 2 := by omega
  rcases h3 with rfl | rfl | rfl <;> rcases hb3 with rfl | rfl | rfl <;> rcases ha3 with rfl | rfl | rfl <;> (first | (exfalso; omega) | (go_enter Try.func53, Try.ntmps53; go_wp2_with fail; go_ret; exact ⟨rfl, rfl⟩))
theorem below_grownE {w0 w w' : World} {v : Value} {lo : Nat} {qs : List (List Int)} (h : Below w0.heap.size w0 w) (hb : w.grownBy w' v.ownBlock) (ho : OwnK 74 2 w lo v qs) (hl : w0.heap.size ≤ lo) : Below w0.heap.size w0 w' :=
  h.grown hb h.size (fun k hk => by have := (ho.lt hk).1; omega)
theorem OwnK.rdE {n : Nat} {w : World} {lo : Nat} {v : Value} {qs : List (List Int)} (h : OwnK 74 2 w lo v qs) (he : qs.length = n) : ∃ A c, v = .slice A n c := by
  subst he
  rcases h.shp with ⟨rfl, h0⟩ | ⟨g, c, rfl⟩
  · exact ⟨none, 0, by rw [h0]⟩
  · exact ⟨_, _, rfl⟩
attribute [local irreducible] wpList
theorem al___impl_entry {o : Oper} {a : Act} {w : World} (ho : o.op = .alloc 72) : (execOp a.eval o).run Try.prog w = .ok (.value (.pointer (some ⟨w.heap.size, 0, none⟩))) (w.alloc (.cells #[.slice none 0 0] 72 (0, 0))) := by
  unfold execOp
  rw [ho]
  kernel_rfl
theorem al_impl_entry {o : Oper} {a : Act} {w : World} (ho : o.op = .alloc 74) : (execOp a.eval o).run Try.prog w = .ok (.value (.pointer (some ⟨w.heap.size, 0, none⟩))) (w.alloc (.cells #[.int .i64 0, .int .i64 0] 74 (0, 0))) := by
  unfold execOp
  rw [ho]
  kernel_rfl
set_option maxHeartbeats 4000000 in
theorem tri1_a (n i j k S c7 be oe c0 : Nat) (ri ci rj cj rk ck : Int) (w : World) (hi : i < S) (hj : j < S) (hk : k < S) (hc : At w c0 (.cells #[.slice (some ⟨be, oe, none⟩) S c7] 72 (0, 0))) (HE : Hid (∀ W, Below w.heap.size w W → RdK 2 W (some ⟨be, oe, none⟩) (entP n n n))) (Hi : Hid ((entP n n n)[i]? = some [ri, ci])) (Hj : Hid ((entP n n n)[j]? = some [rj, cj])) (Hk : Hid ((entP n n n)[k]? = some [rk, ck])) (HB1 : Hid ((ci == rj) = false)) (HV : Hid (triB n i j k = false)) :
    Calls Try.prog 54 #[.int .i64 i, .int .i64 j, .int .i64 k, .pointer (some ⟨c0, 0, none⟩)] w (fun e w' => e = .returned (.bool (triB n i j k)) ∧ Below w.heap.size w w') := by
  have hB := Below.refl w.heap.size w
  have _u0 := hk
  have _u1 := Hk
  clear _u0 _u1
  skip
  go_enter Try.func54, Try.ntmps54
  go_upto_region 0 with (fail)
  refine wp_region_lit ?_
  refine ls_ex (some 7) (.bool false) rfl rfl (exec_assign _ rfl (.bool false) rfl) ?_
  go_frame
  refine wpList_nil ?_
  go_upto_region 1 with (fail)
  refine wp_region_y (zs := []) (S := fun w' => Below w.heap.size w w' ∧ At w' c0 (.cells #[.slice (some ⟨be, oe, none⟩) S c7] 72 (0, 0))) (S2 := fun w' => True) (by kernel_rfl) ?_
  change wpAnyY _ _ _ _ _ _ _ _ _ _ (World.drew _)
  generalize hwdz1 : World.drew _ = wdz1
  replace hB : Below w.heap.size w wdz1 := by rw [← hwdz1]; exact hB.drew
  replace hc : At wdz1 c0 (.cells #[.slice (some ⟨be, oe, none⟩) S c7] 72 (0, 0)) := by rw [← hwdz1]; exact hc
  clear hwdz1
  refine y_yield 0 (some 10) (.slice (some ⟨be, oe, none⟩) S c7) rfl (by kernel_rfl) (by kernel_rfl) (by kernel_rfl) (fun _ _ _ h => h) rfl rfl ⟨hB, hc⟩ (fun w' h' => exec_load_one 72 _ rfl c0 0 rfl (.slice (some ⟨be, oe, none⟩) S c7) _ Try.underlying72 rfl (h'.2.at_ 0)) ?_
  go_frame
  refine y_yield 1 (some 11) (.int .i64 i) rfl (by kernel_rfl) (by kernel_rfl) (by kernel_rfl) (fun _ _ _ h => h) rfl rfl ⟨hB, hc⟩ (fun w' h' => exec_move _ rfl (.int .i64 i) rfl) ?_
  go_frame
  refine y_yield 2 (some 12) (.pointer (some ⟨be, oe + i * 2, none⟩)) rfl (by kernel_rfl) (by kernel_rfl) (by kernel_rfl) (fun _ _ _ h => h) rfl rfl ⟨hB, hc⟩ (fun w' h' => exec_index_slice _ 74 _ _ rfl be oe S c7 i 2 rfl rfl Try.underlying72 (by kernel_rfl) hi) ?_
  go_frame
  refine y_yield 3 (some 13) (.agg #[.int .i64 ri, .int .i64 ci]) rfl (by kernel_rfl) (by kernel_rfl) (by kernel_rfl) (fun _ _ _ h => h) rfl rfl ⟨hB, hc⟩ (fun w' h' => exec_load_ent _ rfl be oe i (entP n n n) ri ci rfl (HE.out _ h'.1) Hi.out) ?_
  go_frame
  refine y_yield 4 (some 14) (.slice (some ⟨be, oe, none⟩) S c7) rfl (by kernel_rfl) (by kernel_rfl) (by kernel_rfl) (fun _ _ _ h => h) rfl rfl ⟨hB, hc⟩ (fun w' h' => exec_load_one 72 _ rfl c0 0 rfl (.slice (some ⟨be, oe, none⟩) S c7) _ Try.underlying72 rfl (h'.2.at_ 0)) ?_
  go_frame
  refine y_yield 5 (some 15) (.int .i64 j) rfl (by kernel_rfl) (by kernel_rfl) (by kernel_rfl) (fun _ _ _ h => h) rfl rfl ⟨hB, hc⟩ (fun w' h' => exec_move _ rfl (.int .i64 j) rfl) ?_
  go_frame
  refine y_yield 6 (some 16) (.pointer (some ⟨be, oe + j * 2, none⟩)) rfl (by kernel_rfl) (by kernel_rfl) (by kernel_rfl) (fun _ _ _ h => h) rfl rfl ⟨hB, hc⟩ (fun w' h' => exec_index_slice _ 74 _ _ rfl be oe S c7 j 2 rfl rfl Try.underlying72 (by kernel_rfl) hj) ?_
  go_frame
  refine y_yield 7 (some 17) (.agg #[.int .i64 rj, .int .i64 cj]) rfl (by kernel_rfl) (by kernel_rfl) (by kernel_rfl) (fun _ _ _ h => h) rfl rfl ⟨hB, hc⟩ (fun w' h' => exec_load_ent _ rfl be oe j (entP n n n) rj cj rfl (HE.out _ h'.1) Hj.out) ?_
  go_frame
  refine y_two 8 9 (by kernel_rfl) rfl rfl rfl rfl (fun K' hK' => ?_) (fun K' hK' => ?_)
  · have lz2 := hB.size
    have lz3 := hc.lt
    refine wp_new (some 8) rfl (al_impl_entry rfl) (fun Wz4 nnz5 => ?_)
    have bz6 := nnz5.below (Below.refl _ _) (Nat.le_refl _)
    replace hB := below_after hB bz6
    replace hc := hc.after bz6
    have hz7 : At Wz4 wdz1.heap.size (.cells #[.int .i64 0, .int .i64 0] 74 (0, 0)) := nnz5.at_
    refine hK' _ _ ⟨hB, hc⟩ (fun _ => trivial) ?_
    clear hK' K' nnz5 bz6
    go_frame
    refine y_oper 9 (by kernel_rfl) rfl rfl (fun K' hK' => ?_)
    have lz8 := hB.size
    have lz9 := hc.lt
    have lz10 := hz7.lt
    refine wp_new (some 9) rfl (al_impl_entry rfl) (fun Wz11 nnz12 => ?_)
    have bz13 := nnz12.below (Below.refl _ _) (Nat.le_refl _)
    replace hB := below_after hB bz13
    replace hc := hc.after bz13
    replace hz7 := hz7.after bz13
    have hz14 : At Wz11 Wz4.heap.size (.cells #[.int .i64 0, .int .i64 0] 74 (0, 0)) := nnz12.at_
    refine hK' _ _ ⟨hB, hc⟩ (fun _ => trivial) ?_
    clear hK' K' nnz12 bz13
    go_frame
    refine y_oper 10 (by kernel_rfl) rfl rfl (fun K' hK' => ?_)
    refine wp_store_all 74 _ _ rfl rfl wdz1.heap.size rfl #[.int .i64 ri, .int .i64 ci] rfl _ _ hz7 2 (by kernel_rfl) rfl rfl (by intro x hx; simp at hx; rcases hx with rfl | rfl <;> rfl) (fun Wz15 pz16 => ?_)
    replace hB := pz16.below hB (by omega)
    replace hc := pz16.other hc (by omega)
    replace hz14 := pz16.other hz14 (by omega)
    replace hz7 : At Wz15 wdz1.heap.size (.cells #[.int .i64 ri, .int .i64 ci] 74 (0, 0)) := pz16.at_
    refine hK' _ _ ⟨hB, hc⟩ (fun _ => trivial) ?_
    clear hK' K' pz16
    refine y_oper 11 (by kernel_rfl) rfl rfl (fun K' hK' => ?_)
    refine wp_store_all 74 _ _ rfl rfl Wz4.heap.size rfl #[.int .i64 rj, .int .i64 cj] rfl _ _ hz14 2 (by kernel_rfl) rfl rfl (by intro x hx; simp at hx; rcases hx with rfl | rfl <;> rfl) (fun Wz17 pz18 => ?_)
    replace hB := pz18.below hB (by omega)
    replace hc := pz18.other hc (by omega)
    replace hz7 := pz18.other hz7 (by omega)
    replace hz14 : At Wz17 Wz4.heap.size (.cells #[.int .i64 rj, .int .i64 cj] 74 (0, 0)) := pz18.at_
    refine hK' _ _ ⟨hB, hc⟩ (fun _ => trivial) ?_
    clear hK' K' pz18
    refine y_done (by kernel_rfl) ?_ _
    go_upto_region 2 with (fail)
    refine wp_region_y (zs := []) (S := fun w' => Below w.heap.size w w' ∧ At w' wdz1.heap.size (.cells #[.int .i64 ri, .int .i64 ci] 74 (0, 0)) ∧ At w' Wz4.heap.size (.cells #[.int .i64 rj, .int .i64 cj] 74 (0, 0))) (S2 := fun w' => True) (by kernel_rfl) ?_
    change wpAnyY _ _ _ _ _ _ _ _ _ _ (World.drew _)
    generalize hwdz19 : World.drew _ = wdz19
    replace hB : Below w.heap.size w wdz19 := by rw [← hwdz19]; exact hB.drew
    replace hc : At wdz19 c0 (.cells #[.slice (some ⟨be, oe, none⟩) S c7] 72 (0, 0)) := by rw [← hwdz19]; exact hc
    replace hz7 : At wdz19 wdz1.heap.size (.cells #[.int .i64 ri, .int .i64 ci] 74 (0, 0)) := by rw [← hwdz19]; exact hz7
    replace hz14 : At wdz19 Wz4.heap.size (.cells #[.int .i64 rj, .int .i64 cj] 74 (0, 0)) := by rw [← hwdz19]; exact hz14
    clear hwdz19
    refine y_yield 0 (some 18) (.pointer (some ⟨wdz1.heap.size, 1, none⟩)) rfl (by kernel_rfl) (by kernel_rfl) (by kernel_rfl) (fun _ _ _ h => h) rfl rfl ⟨hB, hz7, hz14⟩ (fun w' h' => exec_fieldAddr 74 _ 1 rfl _ (by kernel_rfl)) ?_
    go_frame
    refine y_yield 1 (some 19) (.int .i64 ci) rfl (by kernel_rfl) (by kernel_rfl) (by kernel_rfl) (fun _ _ _ h => h) rfl rfl ⟨hB, hz7, hz14⟩ (fun w' h' => exec_load_one 2 _ rfl wdz1.heap.size 1 rfl (.int .i64 ci) _ Try.underlying2 rfl (h'.2.1.at_ 1)) ?_
    go_frame
    refine y_yield 2 (some 20) (.pointer (some ⟨Wz4.heap.size, 0, none⟩)) rfl (by kernel_rfl) (by kernel_rfl) (by kernel_rfl) (fun _ _ _ h => h) rfl rfl ⟨hB, hz7, hz14⟩ (fun w' h' => exec_fieldAddr 74 _ 0 rfl _ (by kernel_rfl)) ?_
    go_frame
    refine y_yield 3 (some 21) (.int .i64 rj) rfl (by kernel_rfl) (by kernel_rfl) (by kernel_rfl) (fun _ _ _ h => h) rfl rfl ⟨hB, hz7, hz14⟩ (fun w' h' => exec_load_one 2 _ rfl Wz4.heap.size 0 rfl (.int .i64 rj) _ Try.underlying2 rfl (h'.2.2.at_ 0)) ?_
    go_frame
    refine y_yield 4 (some 22) (.bool false) rfl (by kernel_rfl) (by kernel_rfl) (by kernel_rfl) (fun _ _ _ h => h) rfl rfl ⟨hB, hz7, hz14⟩ (fun w' h' => exec_eql _ _ _ _ rfl ci rj rfl rfl false HB1.out) ?_
    go_frame
    refine y_yield 5 (some 23) (.bool false) rfl (by kernel_rfl) (by kernel_rfl) (by kernel_rfl) (fun _ _ _ h => h) rfl rfl ⟨hB, hz7, hz14⟩ (fun w' h' => exec_move _ rfl (.bool false) rfl) ?_
    go_frame
    refine y_skip 6 (some 24) rfl (by kernel_rfl) (by kernel_rfl) (by kernel_rfl) (fun _ _ _ h => h) rfl rfl ⟨hB, hz7, hz14⟩ ?_
    go_frame
    refine y_skip 7 (some 25) rfl (by kernel_rfl) (by kernel_rfl) (by kernel_rfl) (fun _ _ _ h => h) rfl rfl ⟨hB, hz7, hz14⟩ ?_
    go_frame
    refine y_skip 8 (some 26) rfl (by kernel_rfl) (by kernel_rfl) (by kernel_rfl) (fun _ _ _ h => h) rfl rfl ⟨hB, hz7, hz14⟩ ?_
    go_frame
    refine y_skip 9 (some 27) rfl (by kernel_rfl) (by kernel_rfl) (by kernel_rfl) (fun _ _ _ h => h) rfl rfl ⟨hB, hz7, hz14⟩ ?_
    go_frame
    refine y_skip 10 (some 28) rfl (by kernel_rfl) (by kernel_rfl) (by kernel_rfl) (fun _ _ _ h => h) rfl rfl ⟨hB, hz7, hz14⟩ ?_
    go_frame
    refine y_skip 11 (some 29) rfl (by kernel_rfl) (by kernel_rfl) (by kernel_rfl) (fun _ _ _ h => h) rfl rfl ⟨hB, hz7, hz14⟩ ?_
    go_frame
    refine y_skip 12 (some 30) rfl (by kernel_rfl) (by kernel_rfl) (by kernel_rfl) (fun _ _ _ h => h) rfl rfl ⟨hB, hz7, hz14⟩ ?_
    go_frame
    refine y_skip 13 (some 31) rfl (by kernel_rfl) (by kernel_rfl) (by kernel_rfl) (fun _ _ _ h => h) rfl rfl ⟨hB, hz7, hz14⟩ ?_
    go_frame
    refine y_skip 14 (some 32) rfl (by kernel_rfl) (by kernel_rfl) (by kernel_rfl) (fun _ _ _ h => h) rfl rfl ⟨hB, hz7, hz14⟩ ?_
    go_frame
    refine y_skip 15 (some 33) rfl (by kernel_rfl) (by kernel_rfl) (by kernel_rfl) (fun _ _ _ h => h) rfl rfl ⟨hB, hz7, hz14⟩ ?_
    go_frame
    refine y_yield 16 (some 34) (.bool false) rfl (by kernel_rfl) (by kernel_rfl) (by kernel_rfl) (fun _ _ _ h => h) rfl rfl ⟨hB, hz7, hz14⟩ (fun w' h' => exec_pick _ _ _ rfl false rfl (.bool false) rfl) ?_
    go_frame
    refine y_oper 17 (by kernel_rfl) rfl rfl (fun K' hK' => ?_)
    refine wp_exec (some 7) rfl (.bool false) (exec_assign _ rfl (.bool false) rfl) ?_
    refine hK' _ _ ⟨hB, hz7, hz14⟩ (fun _ => trivial) ?_
    clear hK' K'
    go_frame
    refine y_done (by kernel_rfl) ?_ _
    go_wp2_with fail
    go_ret
    exact ⟨by rw [HV.out]; rfl, hB⟩
  · have lz20 := hB.size
    have lz21 := hc.lt
    refine wp_new (some 9) rfl (al_impl_entry rfl) (fun Wz22 nnz23 => ?_)
    have bz24 := nnz23.below (Below.refl _ _) (Nat.le_refl _)
    replace hB := below_after hB bz24
    replace hc := hc.after bz24
    have hz25 : At Wz22 wdz1.heap.size (.cells #[.int .i64 0, .int .i64 0] 74 (0, 0)) := nnz23.at_
    refine hK' _ _ ⟨hB, hc⟩ (fun _ => trivial) ?_
    clear hK' K' nnz23 bz24
    go_frame
    refine y_oper 8 (by kernel_rfl) rfl rfl (fun K' hK' => ?_)
    have lz26 := hB.size
    have lz27 := hc.lt
    have lz28 := hz25.lt
    refine wp_new (some 8) rfl (al_impl_entry rfl) (fun Wz29 nnz30 => ?_)
    have bz31 := nnz30.below (Below.refl _ _) (Nat.le_refl _)
    replace hB := below_after hB bz31
    replace hc := hc.after bz31
    replace hz25 := hz25.after bz31
    have hz32 : At Wz29 Wz22.heap.size (.cells #[.int .i64 0, .int .i64 0] 74 (0, 0)) := nnz30.at_
    refine hK' _ _ ⟨hB, hc⟩ (fun _ => trivial) ?_
    clear hK' K' nnz30 bz31
    go_frame
    refine y_oper 10 (by kernel_rfl) rfl rfl (fun K' hK' => ?_)
    refine wp_store_all 74 _ _ rfl rfl Wz22.heap.size rfl #[.int .i64 ri, .int .i64 ci] rfl _ _ hz32 2 (by kernel_rfl) rfl rfl (by intro x hx; simp at hx; rcases hx with rfl | rfl <;> rfl) (fun Wz33 pz34 => ?_)
    replace hB := pz34.below hB (by omega)
    replace hc := pz34.other hc (by omega)
    replace hz25 := pz34.other hz25 (by omega)
    replace hz32 : At Wz33 Wz22.heap.size (.cells #[.int .i64 ri, .int .i64 ci] 74 (0, 0)) := pz34.at_
    refine hK' _ _ ⟨hB, hc⟩ (fun _ => trivial) ?_
    clear hK' K' pz34
    refine y_oper 11 (by kernel_rfl) rfl rfl (fun K' hK' => ?_)
    refine wp_store_all 74 _ _ rfl rfl wdz1.heap.size rfl #[.int .i64 rj, .int .i64 cj] rfl _ _ hz25 2 (by kernel_rfl) rfl rfl (by intro x hx; simp at hx; rcases hx with rfl | rfl <;> rfl) (fun Wz35 pz36 => ?_)
    replace hB := pz36.below hB (by omega)
    replace hc := pz36.other hc (by omega)
    replace hz32 := pz36.other hz32 (by omega)
    replace hz25 : At Wz35 wdz1.heap.size (.cells #[.int .i64 rj, .int .i64 cj] 74 (0, 0)) := pz36.at_
    refine hK' _ _ ⟨hB, hc⟩ (fun _ => trivial) ?_
    clear hK' K' pz36
    refine y_done (by kernel_rfl) ?_ _
    go_upto_region 2 with (fail)
    refine wp_region_y (zs := []) (S := fun w' => Below w.heap.size w w' ∧ At w' Wz22.heap.size (.cells #[.int .i64 ri, .int .i64 ci] 74 (0, 0)) ∧ At w' wdz1.heap.size (.cells #[.int .i64 rj, .int .i64 cj] 74 (0, 0))) (S2 := fun w' => True) (by kernel_rfl) ?_
    change wpAnyY _ _ _ _ _ _ _ _ _ _ (World.drew _)
    generalize hwdz37 : World.drew _ = wdz37
    replace hB : Below w.heap.size w wdz37 := by rw [← hwdz37]; exact hB.drew
    replace hc : At wdz37 c0 (.cells #[.slice (some ⟨be, oe, none⟩) S c7] 72 (0, 0)) := by rw [← hwdz37]; exact hc
    replace hz25 : At wdz37 wdz1.heap.size (.cells #[.int .i64 rj, .int .i64 cj] 74 (0, 0)) := by rw [← hwdz37]; exact hz25
    replace hz32 : At wdz37 Wz22.heap.size (.cells #[.int .i64 ri, .int .i64 ci] 74 (0, 0)) := by rw [← hwdz37]; exact hz32
    clear hwdz37
    refine y_yield 0 (some 18) (.pointer (some ⟨Wz22.heap.size, 1, none⟩)) rfl (by kernel_rfl) (by kernel_rfl) (by kernel_rfl) (fun _ _ _ h => h) rfl rfl ⟨hB, hz32, hz25⟩ (fun w' h' => exec_fieldAddr 74 _ 1 rfl _ (by kernel_rfl)) ?_
    go_frame
    refine y_yield 1 (some 19) (.int .i64 ci) rfl (by kernel_rfl) (by kernel_rfl) (by kernel_rfl) (fun _ _ _ h => h) rfl rfl ⟨hB, hz32, hz25⟩ (fun w' h' => exec_load_one 2 _ rfl Wz22.heap.size 1 rfl (.int .i64 ci) _ Try.underlying2 rfl (h'.2.1.at_ 1)) ?_
    go_frame
    refine y_yield 2 (some 20) (.pointer (some ⟨wdz1.heap.size, 0, none⟩)) rfl (by kernel_rfl) (by kernel_rfl) (by kernel_rfl) (fun _ _ _ h => h) rfl rfl ⟨hB, hz32, hz25⟩ (fun w' h' => exec_fieldAddr 74 _ 0 rfl _ (by kernel_rfl)) ?_
    go_frame
    refine y_yield 3 (some 21) (.int .i64 rj) rfl (by kernel_rfl) (by kernel_rfl) (by kernel_rfl) (fun _ _ _ h => h) rfl rfl ⟨hB, hz32, hz25⟩ (fun w' h' => exec_load_one 2 _ rfl wdz1.heap.size 0 rfl (.int .i64 rj) _ Try.underlying2 rfl (h'.2.2.at_ 0)) ?_
    go_frame
    refine y_yield 4 (some 22) (.bool false) rfl (by kernel_rfl) (by kernel_rfl) (by kernel_rfl) (fun _ _ _ h => h) rfl rfl ⟨hB, hz32, hz25⟩ (fun w' h' => exec_eql _ _ _ _ rfl ci rj rfl rfl false HB1.out) ?_
    go_frame
    refine y_yield 5 (some 23) (.bool false) rfl (by kernel_rfl) (by kernel_rfl) (by kernel_rfl) (fun _ _ _ h => h) rfl rfl ⟨hB, hz32, hz25⟩ (fun w' h' => exec_move _ rfl (.bool false) rfl) ?_
    go_frame
    refine y_skip 6 (some 24) rfl (by kernel_rfl) (by kernel_rfl) (by kernel_rfl) (fun _ _ _ h => h) rfl rfl ⟨hB, hz32, hz25⟩ ?_
    go_frame
    refine y_skip 7 (some 25) rfl (by kernel_rfl) (by kernel_rfl) (by kernel_rfl) (fun _ _ _ h => h) rfl rfl ⟨hB, hz32, hz25⟩ ?_
    go_frame
    refine y_skip 8 (some 26) rfl (by kernel_rfl) (by kernel_rfl) (by kernel_rfl) (fun _ _ _ h => h) rfl rfl ⟨hB, hz32, hz25⟩ ?_
    go_frame
    refine y_skip 9 (some 27) rfl (by kernel_rfl) (by kernel_rfl) (by kernel_rfl) (fun _ _ _ h => h) rfl rfl ⟨hB, hz32, hz25⟩ ?_
    go_frame
    refine y_skip 10 (some 28) rfl (by kernel_rfl) (by kernel_rfl) (by kernel_rfl) (fun _ _ _ h => h) rfl rfl ⟨hB, hz32, hz25⟩ ?_
    go_frame
    refine y_skip 11 (some 29) rfl (by kernel_rfl) (by kernel_rfl) (by kernel_rfl) (fun _ _ _ h => h) rfl rfl ⟨hB, hz32, hz25⟩ ?_
    go_frame
    refine y_skip 12 (some 30) rfl (by kernel_rfl) (by kernel_rfl) (by kernel_rfl) (fun _ _ _ h => h) rfl rfl ⟨hB, hz32, hz25⟩ ?_
    go_frame
    refine y_skip 13 (some 31) rfl (by kernel_rfl) (by kernel_rfl) (by kernel_rfl) (fun _ _ _ h => h) rfl rfl ⟨hB, hz32, hz25⟩ ?_
    go_frame
    refine y_skip 14 (some 32) rfl (by kernel_rfl) (by kernel_rfl) (by kernel_rfl) (fun _ _ _ h => h) rfl rfl ⟨hB, hz32, hz25⟩ ?_
    go_frame
    refine y_skip 15 (some 33) rfl (by kernel_rfl) (by kernel_rfl) (by kernel_rfl) (fun _ _ _ h => h) rfl rfl ⟨hB, hz32, hz25⟩ ?_
    go_frame
    refine y_yield 16 (some 34) (.bool false) rfl (by kernel_rfl) (by kernel_rfl) (by kernel_rfl) (fun _ _ _ h => h) rfl rfl ⟨hB, hz32, hz25⟩ (fun w' h' => exec_pick _ _ _ rfl false rfl (.bool false) rfl) ?_
    go_frame
    refine y_oper 17 (by kernel_rfl) rfl rfl (fun K' hK' => ?_)
    refine wp_exec (some 7) rfl (.bool false) (exec_assign _ rfl (.bool false) rfl) ?_
    refine hK' _ _ ⟨hB, hz32, hz25⟩ (fun _ => trivial) ?_
    clear hK' K'
    go_frame
    refine y_done (by kernel_rfl) ?_ _
    go_wp2_with fail
    go_ret
    exact ⟨by rw [HV.out]; rfl, hB⟩
set_option maxHeartbeats 4000000 in
theorem tri1_b (n i j k S c7 be oe c0 : Nat) (ri ci rj cj rk ck : Int) (w : World) (hi : i < S) (hj : j < S) (hk : k < S) (hc : At w c0 (.cells #[.slice (some ⟨be, oe, none⟩) S c7] 72 (0, 0))) (HE : Hid (∀ W, Below w.heap.size w W → RdK 2 W (some ⟨be, oe, none⟩) (entP n n n))) (Hi : Hid ((entP n n n)[i]? = some [ri, ci])) (Hj : Hid ((entP n n n)[j]? = some [rj, cj])) (Hk : Hid ((entP n n n)[k]? = some [rk, ck])) (HB1 : Hid ((ci == rj) = true)) (HB2 : Hid ((rk == ri && ck == cj) = false)) (HV : Hid (triB n i j k = false)) :
    Calls Try.prog 54 #[.int .i64 i, .int .i64 j, .int .i64 k, .pointer (some ⟨c0, 0, none⟩)] w (fun e w' => e = .returned (.bool (triB n i j k)) ∧ Below w.heap.size w w') := by
  have hB := Below.refl w.heap.size w
  skip
  go_enter Try.func54, Try.ntmps54
  go_upto_region 0 with (fail)
  refine wp_region_lit ?_
  refine ls_ex (some 7) (.bool false) rfl rfl (exec_assign _ rfl (.bool false) rfl) ?_
  go_frame
  refine wpList_nil ?_
  go_upto_region 1 with (fail)
  refine wp_region_y (zs := []) (S := fun w' => Below w.heap.size w w' ∧ At w' c0 (.cells #[.slice (some ⟨be, oe, none⟩) S c7] 72 (0, 0))) (S2 := fun w' => True) (by kernel_rfl) ?_
  change wpAnyY _ _ _ _ _ _ _ _ _ _ (World.drew _)
  generalize hwdz1 : World.drew _ = wdz1
  replace hB : Below w.heap.size w wdz1 := by rw [← hwdz1]; exact hB.drew
  replace hc : At wdz1 c0 (.cells #[.slice (some ⟨be, oe, none⟩) S c7] 72 (0, 0)) := by rw [← hwdz1]; exact hc
  clear hwdz1
  refine y_yield 0 (some 10) (.slice (some ⟨be, oe, none⟩) S c7) rfl (by kernel_rfl) (by kernel_rfl) (by kernel_rfl) (fun _ _ _ h => h) rfl rfl ⟨hB, hc⟩ (fun w' h' => exec_load_one 72 _ rfl c0 0 rfl (.slice (some ⟨be, oe, none⟩) S c7) _ Try.underlying72 rfl (h'.2.at_ 0)) ?_
  go_frame
  refine y_yield 1 (some 11) (.int .i64 i) rfl (by kernel_rfl) (by kernel_rfl) (by kernel_rfl) (fun _ _ _ h => h) rfl rfl ⟨hB, hc⟩ (fun w' h' => exec_move _ rfl (.int .i64 i) rfl) ?_
  go_frame
  refine y_yield 2 (some 12) (.pointer (some ⟨be, oe + i * 2, none⟩)) rfl (by kernel_rfl) (by kernel_rfl) (by kernel_rfl) (fun _ _ _ h => h) rfl rfl ⟨hB, hc⟩ (fun w' h' => exec_index_slice _ 74 _ _ rfl be oe S c7 i 2 rfl rfl Try.underlying72 (by kernel_rfl) hi) ?_
  go_frame
  refine y_yield 3 (some 13) (.agg #[.int .i64 ri, .int .i64 ci]) rfl (by kernel_rfl) (by kernel_rfl) (by kernel_rfl) (fun _ _ _ h => h) rfl rfl ⟨hB, hc⟩ (fun w' h' => exec_load_ent _ rfl be oe i (entP n n n) ri ci rfl (HE.out _ h'.1) Hi.out) ?_
  go_frame
  refine y_yield 4 (some 14) (.slice (some ⟨be, oe, none⟩) S c7) rfl (by kernel_rfl) (by kernel_rfl) (by kernel_rfl) (fun _ _ _ h => h) rfl rfl ⟨hB, hc⟩ (fun w' h' => exec_load_one 72 _ rfl c0 0 rfl (.slice (some ⟨be, oe, none⟩) S c7) _ Try.underlying72 rfl (h'.2.at_ 0)) ?_
  go_frame
  refine y_yield 5 (some 15) (.int .i64 j) rfl (by kernel_rfl) (by kernel_rfl) (by kernel_rfl) (fun _ _ _ h => h) rfl rfl ⟨hB, hc⟩ (fun w' h' => exec_move _ rfl (.int .i64 j) rfl) ?_
  go_frame
  refine y_yield 6 (some 16) (.pointer (some ⟨be, oe + j * 2, none⟩)) rfl (by kernel_rfl) (by kernel_rfl) (by kernel_rfl) (fun _ _ _ h => h) rfl rfl ⟨hB, hc⟩ (fun w' h' => exec_index_slice _ 74 _ _ rfl be oe S c7 j 2 rfl rfl Try.underlying72 (by kernel_rfl) hj) ?_
  go_frame
  refine y_yield 7 (some 17) (.agg #[.int .i64 rj, .int .i64 cj]) rfl (by kernel_rfl) (by kernel_rfl) (by kernel_rfl) (fun _ _ _ h => h) rfl rfl ⟨hB, hc⟩ (fun w' h' => exec_load_ent _ rfl be oe j (entP n n n) rj cj rfl (HE.out _ h'.1) Hj.out) ?_
  go_frame
  refine y_two 8 9 (by kernel_rfl) rfl rfl rfl rfl (fun K' hK' => ?_) (fun K' hK' => ?_)
  · have lz2 := hB.size
    have lz3 := hc.lt
    refine wp_new (some 8) rfl (al_impl_entry rfl) (fun Wz4 nnz5 => ?_)
    have bz6 := nnz5.below (Below.refl _ _) (Nat.le_refl _)
    replace hB := below_after hB bz6
    replace hc := hc.after bz6
    have hz7 : At Wz4 wdz1.heap.size (.cells #[.int .i64 0, .int .i64 0] 74 (0, 0)) := nnz5.at_
    refine hK' _ _ ⟨hB, hc⟩ (fun _ => trivial) ?_
    clear hK' K' nnz5 bz6
    go_frame
    refine y_oper 9 (by kernel_rfl) rfl rfl (fun K' hK' => ?_)
    have lz8 := hB.size
    have lz9 := hc.lt
    have lz10 := hz7.lt
    refine wp_new (some 9) rfl (al_impl_entry rfl) (fun Wz11 nnz12 => ?_)
    have bz13 := nnz12.below (Below.refl _ _) (Nat.le_refl _)
    replace hB := below_after hB bz13
    replace hc := hc.after bz13
    replace hz7 := hz7.after bz13
    have hz14 : At Wz11 Wz4.heap.size (.cells #[.int .i64 0, .int .i64 0] 74 (0, 0)) := nnz12.at_
    refine hK' _ _ ⟨hB, hc⟩ (fun _ => trivial) ?_
    clear hK' K' nnz12 bz13
    go_frame
    refine y_oper 10 (by kernel_rfl) rfl rfl (fun K' hK' => ?_)
    refine wp_store_all 74 _ _ rfl rfl wdz1.heap.size rfl #[.int .i64 ri, .int .i64 ci] rfl _ _ hz7 2 (by kernel_rfl) rfl rfl (by intro x hx; simp at hx; rcases hx with rfl | rfl <;> rfl) (fun Wz15 pz16 => ?_)
    replace hB := pz16.below hB (by omega)
    replace hc := pz16.other hc (by omega)
    replace hz14 := pz16.other hz14 (by omega)
    replace hz7 : At Wz15 wdz1.heap.size (.cells #[.int .i64 ri, .int .i64 ci] 74 (0, 0)) := pz16.at_
    refine hK' _ _ ⟨hB, hc⟩ (fun _ => trivial) ?_
    clear hK' K' pz16
    refine y_oper 11 (by kernel_rfl) rfl rfl (fun K' hK' => ?_)
    refine wp_store_all 74 _ _ rfl rfl Wz4.heap.size rfl #[.int .i64 rj, .int .i64 cj] rfl _ _ hz14 2 (by kernel_rfl) rfl rfl (by intro x hx; simp at hx; rcases hx with rfl | rfl <;> rfl) (fun Wz17 pz18 => ?_)
    replace hB := pz18.below hB (by omega)
    replace hc := pz18.other hc (by omega)
    replace hz7 := pz18.other hz7 (by omega)
    replace hz14 : At Wz17 Wz4.heap.size (.cells #[.int .i64 rj, .int .i64 cj] 74 (0, 0)) := pz18.at_
    refine hK' _ _ ⟨hB, hc⟩ (fun _ => trivial) ?_
    clear hK' K' pz18
    refine y_done (by kernel_rfl) ?_ _
    go_upto_region 2 with (fail)
    refine wp_region_y (zs := []) (S := fun w' => Below w.heap.size w w' ∧ At w' wdz1.heap.size (.cells #[.int .i64 ri, .int .i64 ci] 74 (0, 0)) ∧ At w' Wz4.heap.size (.cells #[.int .i64 rj, .int .i64 cj] 74 (0, 0)) ∧ At w' c0 (.cells #[.slice (some ⟨be, oe, none⟩) S c7] 72 (0, 0))) (S2 := fun w' => True) (by kernel_rfl) ?_
    change wpAnyY _ _ _ _ _ _ _ _ _ _ (World.drew _)
    generalize hwdz19 : World.drew _ = wdz19
    replace hB : Below w.heap.size w wdz19 := by rw [← hwdz19]; exact hB.drew
    replace hc : At wdz19 c0 (.cells #[.slice (some ⟨be, oe, none⟩) S c7] 72 (0, 0)) := by rw [← hwdz19]; exact hc
    replace hz7 : At wdz19 wdz1.heap.size (.cells #[.int .i64 ri, .int .i64 ci] 74 (0, 0)) := by rw [← hwdz19]; exact hz7
    replace hz14 : At wdz19 Wz4.heap.size (.cells #[.int .i64 rj, .int .i64 cj] 74 (0, 0)) := by rw [← hwdz19]; exact hz14
    clear hwdz19
    refine y_yield 0 (some 18) (.pointer (some ⟨wdz1.heap.size, 1, none⟩)) rfl (by kernel_rfl) (by kernel_rfl) (by kernel_rfl) (fun _ _ _ h => h) rfl rfl ⟨hB, hz7, hz14, hc⟩ (fun w' h' => exec_fieldAddr 74 _ 1 rfl _ (by kernel_rfl)) ?_
    go_frame
    refine y_yield 1 (some 19) (.int .i64 ci) rfl (by kernel_rfl) (by kernel_rfl) (by kernel_rfl) (fun _ _ _ h => h) rfl rfl ⟨hB, hz7, hz14, hc⟩ (fun w' h' => exec_load_one 2 _ rfl wdz1.heap.size 1 rfl (.int .i64 ci) _ Try.underlying2 rfl (h'.2.1.at_ 1)) ?_
    go_frame
    refine y_yield 2 (some 20) (.pointer (some ⟨Wz4.heap.size, 0, none⟩)) rfl (by kernel_rfl) (by kernel_rfl) (by kernel_rfl) (fun _ _ _ h => h) rfl rfl ⟨hB, hz7, hz14, hc⟩ (fun w' h' => exec_fieldAddr 74 _ 0 rfl _ (by kernel_rfl)) ?_
    go_frame
    refine y_yield 3 (some 21) (.int .i64 rj) rfl (by kernel_rfl) (by kernel_rfl) (by kernel_rfl) (fun _ _ _ h => h) rfl rfl ⟨hB, hz7, hz14, hc⟩ (fun w' h' => exec_load_one 2 _ rfl Wz4.heap.size 0 rfl (.int .i64 rj) _ Try.underlying2 rfl (h'.2.2.1.at_ 0)) ?_
    go_frame
    refine y_yield 4 (some 22) (.bool true) rfl (by kernel_rfl) (by kernel_rfl) (by kernel_rfl) (fun _ _ _ h => h) rfl rfl ⟨hB, hz7, hz14, hc⟩ (fun w' h' => exec_eql _ _ _ _ rfl ci rj rfl rfl true HB1.out) ?_
    go_frame
    refine y_yield 5 (some 23) (.bool true) rfl (by kernel_rfl) (by kernel_rfl) (by kernel_rfl) (fun _ _ _ h => h) rfl rfl ⟨hB, hz7, hz14, hc⟩ (fun w' h' => exec_move _ rfl (.bool true) rfl) ?_
    go_frame
    refine y_yield 6 (some 24) (.slice (some ⟨be, oe, none⟩) S c7) rfl (by kernel_rfl) (by kernel_rfl) (by kernel_rfl) (fun _ _ _ h => h) rfl rfl ⟨hB, hz7, hz14, hc⟩ (fun w' h' => exec_load_one 72 _ rfl c0 0 rfl (.slice (some ⟨be, oe, none⟩) S c7) _ Try.underlying72 rfl (h'.2.2.2.at_ 0)) ?_
    go_frame
    refine y_yield 7 (some 25) (.int .i64 k) rfl (by kernel_rfl) (by kernel_rfl) (by kernel_rfl) (fun _ _ _ h => h) rfl rfl ⟨hB, hz7, hz14, hc⟩ (fun w' h' => exec_move _ rfl (.int .i64 k) rfl) ?_
    go_frame
    refine y_yield 8 (some 26) (.pointer (some ⟨be, oe + k * 2, none⟩)) rfl (by kernel_rfl) (by kernel_rfl) (by kernel_rfl) (fun _ _ _ h => h) rfl rfl ⟨hB, hz7, hz14, hc⟩ (fun w' h' => exec_index_slice _ 74 _ _ rfl be oe S c7 k 2 rfl rfl Try.underlying72 (by kernel_rfl) hk) ?_
    go_frame
    refine y_yield 9 (some 27) (.agg #[.int .i64 rk, .int .i64 ck]) rfl (by kernel_rfl) (by kernel_rfl) (by kernel_rfl) (fun _ _ _ h => h) rfl rfl ⟨hB, hz7, hz14, hc⟩ (fun w' h' => exec_load_ent _ rfl be oe k (entP n n n) rk ck rfl (HE.out _ h'.1) Hk.out) ?_
    go_frame
    refine y_yield 10 (some 28) (.pointer (some ⟨wdz1.heap.size, 0, none⟩)) rfl (by kernel_rfl) (by kernel_rfl) (by kernel_rfl) (fun _ _ _ h => h) rfl rfl ⟨hB, hz7, hz14, hc⟩ (fun w' h' => exec_fieldAddr 74 _ 0 rfl _ (by kernel_rfl)) ?_
    go_frame
    refine y_yield 11 (some 29) (.int .i64 ri) rfl (by kernel_rfl) (by kernel_rfl) (by kernel_rfl) (fun _ _ _ h => h) rfl rfl ⟨hB, hz7, hz14, hc⟩ (fun w' h' => exec_load_one 2 _ rfl wdz1.heap.size 0 rfl (.int .i64 ri) _ Try.underlying2 rfl (h'.2.1.at_ 0)) ?_
    go_frame
    refine y_yield 12 (some 30) (.pointer (some ⟨Wz4.heap.size, 1, none⟩)) rfl (by kernel_rfl) (by kernel_rfl) (by kernel_rfl) (fun _ _ _ h => h) rfl rfl ⟨hB, hz7, hz14, hc⟩ (fun w' h' => exec_fieldAddr 74 _ 1 rfl _ (by kernel_rfl)) ?_
    go_frame
    refine y_yield 13 (some 31) (.int .i64 cj) rfl (by kernel_rfl) (by kernel_rfl) (by kernel_rfl) (fun _ _ _ h => h) rfl rfl ⟨hB, hz7, hz14, hc⟩ (fun w' h' => exec_load_one 2 _ rfl Wz4.heap.size 1 rfl (.int .i64 cj) _ Try.underlying2 rfl (h'.2.2.1.at_ 1)) ?_
    go_frame
    refine y_yield 14 (some 32) (.agg #[.int .i64 ri, .int .i64 cj]) rfl (by kernel_rfl) (by kernel_rfl) (by kernel_rfl) (fun _ _ _ h => h) rfl rfl ⟨hB, hz7, hz14, hc⟩ (fun w' h' => exec_build_ent _ _ rfl ri cj rfl rfl) ?_
    go_frame
    refine y_yield 15 (some 33) (.bool false) rfl (by kernel_rfl) (by kernel_rfl) (by kernel_rfl) (fun _ _ _ h => h) rfl rfl ⟨hB, hz7, hz14, hc⟩ (fun w' h' => exec_eql_ent _ _ _ rfl rk ck ri cj rfl rfl false HB2.out) ?_
    go_frame
    refine y_yield 16 (some 34) (.bool false) rfl (by kernel_rfl) (by kernel_rfl) (by kernel_rfl) (fun _ _ _ h => h) rfl rfl ⟨hB, hz7, hz14, hc⟩ (fun w' h' => exec_pick _ _ _ rfl true rfl (.bool false) rfl) ?_
    go_frame
    refine y_oper 17 (by kernel_rfl) rfl rfl (fun K' hK' => ?_)
    refine wp_exec (some 7) rfl (.bool false) (exec_assign _ rfl (.bool false) rfl) ?_
    refine hK' _ _ ⟨hB, hz7, hz14, hc⟩ (fun _ => trivial) ?_
    clear hK' K'
    go_frame
    refine y_done (by kernel_rfl) ?_ _
    go_wp2_with fail
    go_ret
    exact ⟨by rw [HV.out]; rfl, hB⟩
  · have lz20 := hB.size
    have lz21 := hc.lt
    refine wp_new (some 9) rfl (al_impl_entry rfl) (fun Wz22 nnz23 => ?_)
    have bz24 := nnz23.below (Below.refl _ _) (Nat.le_refl _)
    replace hB := below_after hB bz24
    replace hc := hc.after bz24
    have hz25 : At Wz22 wdz1.heap.size (.cells #[.int .i64 0, .int .i64 0] 74 (0, 0)) := nnz23.at_
    refine hK' _ _ ⟨hB, hc⟩ (fun _ => trivial) ?_
    clear hK' K' nnz23 bz24
    go_frame
    refine y_oper 8 (by kernel_rfl) rfl rfl (fun K' hK' => ?_)
    have lz26 := hB.size
    have lz27 := hc.lt
    have lz28 := hz25.lt
    refine wp_new (some 8) rfl (al_impl_entry rfl) (fun Wz29 nnz30 => ?_)
    have bz31 := nnz30.below (Below.refl _ _) (Nat.le_refl _)
    replace hB := below_after hB bz31
    replace hc := hc.after bz31
    replace hz25 := hz25.after bz31
    have hz32 : At Wz29 Wz22.heap.size (.cells #[.int .i64 0, .int .i64 0] 74 (0, 0)) := nnz30.at_
    refine hK' _ _ ⟨hB, hc⟩ (fun _ => trivial) ?_
    clear hK' K' nnz30 bz31
    go_frame
    refine y_oper 10 (by kernel_rfl) rfl rfl (fun K' hK' => ?_)
    refine wp_store_all 74 _ _ rfl rfl Wz22.heap.size rfl #[.int .i64 ri, .int .i64 ci] rfl _ _ hz32 2 (by kernel_rfl) rfl rfl (by intro x hx; simp at hx; rcases hx with rfl | rfl <;> rfl) (fun Wz33 pz34 => ?_)
    replace hB := pz34.below hB (by omega)
    replace hc := pz34.other hc (by omega)
    replace hz25 := pz34.other hz25 (by omega)
    replace hz32 : At Wz33 Wz22.heap.size (.cells #[.int .i64 ri, .int .i64 ci] 74 (0, 0)) := pz34.at_
    refine hK' _ _ ⟨hB, hc⟩ (fun _ => trivial) ?_
    clear hK' K' pz34
    refine y_oper 11 (by kernel_rfl) rfl rfl (fun K' hK' => ?_)
    refine wp_store_all 74 _ _ rfl rfl wdz1.heap.size rfl #[.int .i64 rj, .int .i64 cj] rfl _ _ hz25 2 (by kernel_rfl) rfl rfl (by intro x hx; simp at hx; rcases hx with rfl | rfl <;> rfl) (fun Wz35 pz36 => ?_)
    replace hB := pz36.below hB (by omega)
    replace hc := pz36.other hc (by omega)
    replace hz32 := pz36.other hz32 (by omega)
    replace hz25 : At Wz35 wdz1.heap.size (.cells #[.int .i64 rj, .int .i64 cj] 74 (0, 0)) := pz36.at_
    refine hK' _ _ ⟨hB, hc⟩ (fun _ => trivial) ?_
    clear hK' K' pz36
    refine y_done (by kernel_rfl) ?_ _
    go_upto_region 2 with (fail)
    refine wp_region_y (zs := []) (S := fun w' => Below w.heap.size w w' ∧ At w' Wz22.heap.size (.cells #[.int .i64 ri, .int .i64 ci] 74 (0, 0)) ∧ At w' wdz1.heap.size (.cells #[.int .i64 rj, .int .i64 cj] 74 (0, 0)) ∧ At w' c0 (.cells #[.slice (some ⟨be, oe, none⟩) S c7] 72 (0, 0))) (S2 := fun w' => True) (by kernel_rfl) ?_
    change wpAnyY _ _ _ _ _ _ _ _ _ _ (World.drew _)
    generalize hwdz37 : World.drew _ = wdz37
    replace hB : Below w.heap.size w wdz37 := by rw [← hwdz37]; exact hB.drew
    replace hc : At wdz37 c0 (.cells #[.slice (some ⟨be, oe, none⟩) S c7] 72 (0, 0)) := by rw [← hwdz37]; exact hc
    replace hz25 : At wdz37 wdz1.heap.size (.cells #[.int .i64 rj, .int .i64 cj] 74 (0, 0)) := by rw [← hwdz37]; exact hz25
    replace hz32 : At wdz37 Wz22.heap.size (.cells #[.int .i64 ri, .int .i64 ci] 74 (0, 0)) := by rw [← hwdz37]; exact hz32
    clear hwdz37
    refine y_yield 0 (some 18) (.pointer (some ⟨Wz22.heap.size, 1, none⟩)) rfl (by kernel_rfl) (by kernel_rfl) (by kernel_rfl) (fun _ _ _ h => h) rfl rfl ⟨hB, hz32, hz25, hc⟩ (fun w' h' => exec_fieldAddr 74 _ 1 rfl _ (by kernel_rfl)) ?_
    go_frame
    refine y_yield 1 (some 19) (.int .i64 ci) rfl (by kernel_rfl) (by kernel_rfl) (by kernel_rfl) (fun _ _ _ h => h) rfl rfl ⟨hB, hz32, hz25, hc⟩ (fun w' h' => exec_load_one 2 _ rfl Wz22.heap.size 1 rfl (.int .i64 ci) _ Try.underlying2 rfl (h'.2.1.at_ 1)) ?_
    go_frame
    refine y_yield 2 (some 20) (.pointer (some ⟨wdz1.heap.size, 0, none⟩)) rfl (by kernel_rfl) (by kernel_rfl) (by kernel_rfl) (fun _ _ _ h => h) rfl rfl ⟨hB, hz32, hz25, hc⟩ (fun w' h' => exec_fieldAddr 74 _ 0 rfl _ (by kernel_rfl)) ?_
    go_frame
    refine y_yield 3 (some 21) (.int .i64 rj) rfl (by kernel_rfl) (by kernel_rfl) (by kernel_rfl) (fun _ _ _ h => h) rfl rfl ⟨hB, hz32, hz25, hc⟩ (fun w' h' => exec_load_one 2 _ rfl wdz1.heap.size 0 rfl (.int .i64 rj) _ Try.underlying2 rfl (h'.2.2.1.at_ 0)) ?_
    go_frame
    refine y_yield 4 (some 22) (.bool true) rfl (by kernel_rfl) (by kernel_rfl) (by kernel_rfl) (fun _ _ _ h => h) rfl rfl ⟨hB, hz32, hz25, hc⟩ (fun w' h' => exec_eql _ _ _ _ rfl ci rj rfl rfl true HB1.out) ?_
    go_frame
    refine y_yield 5 (some 23) (.bool true) rfl (by kernel_rfl) (by kernel_rfl) (by kernel_rfl) (fun _ _ _ h => h) rfl rfl ⟨hB, hz32, hz25, hc⟩ (fun w' h' => exec_move _ rfl (.bool true) rfl) ?_
    go_frame
    refine y_yield 6 (some 24) (.slice (some ⟨be, oe, none⟩) S c7) rfl (by kernel_rfl) (by kernel_rfl) (by kernel_rfl) (fun _ _ _ h => h) rfl rfl ⟨hB, hz32, hz25, hc⟩ (fun w' h' => exec_load_one 72 _ rfl c0 0 rfl (.slice (some ⟨be, oe, none⟩) S c7) _ Try.underlying72 rfl (h'.2.2.2.at_ 0)) ?_
    go_frame
    refine y_yield 7 (some 25) (.int .i64 k) rfl (by kernel_rfl) (by kernel_rfl) (by kernel_rfl) (fun _ _ _ h => h) rfl rfl ⟨hB, hz32, hz25, hc⟩ (fun w' h' => exec_move _ rfl (.int .i64 k) rfl) ?_
    go_frame
    refine y_yield 8 (some 26) (.pointer (some ⟨be, oe + k * 2, none⟩)) rfl (by kernel_rfl) (by kernel_rfl) (by kernel_rfl) (fun _ _ _ h => h) rfl rfl ⟨hB, hz32, hz25, hc⟩ (fun w' h' => exec_index_slice _ 74 _ _ rfl be oe S c7 k 2 rfl rfl Try.underlying72 (by kernel_rfl) hk) ?_
    go_frame
    refine y_yield 9 (some 27) (.agg #[.int .i64 rk, .int .i64 ck]) rfl (by kernel_rfl) (by kernel_rfl) (by kernel_rfl) (fun _ _ _ h => h) rfl rfl ⟨hB, hz32, hz25, hc⟩ (fun w' h' => exec_load_ent _ rfl be oe k (entP n n n) rk ck rfl (HE.out _ h'.1) Hk.out) ?_
    go_frame
    refine y_yield 10 (some 28) (.pointer (some ⟨Wz22.heap.size, 0, none⟩)) rfl (by kernel_rfl) (by kernel_rfl) (by kernel_rfl) (fun _ _ _ h => h) rfl rfl ⟨hB, hz32, hz25, hc⟩ (fun w' h' => exec_fieldAddr 74 _ 0 rfl _ (by kernel_rfl)) ?_
    go_frame
    refine y_yield 11 (some 29) (.int .i64 ri) rfl (by kernel_rfl) (by kernel_rfl) (by kernel_rfl) (fun _ _ _ h => h) rfl rfl ⟨hB, hz32, hz25, hc⟩ (fun w' h' => exec_load_one 2 _ rfl Wz22.heap.size 0 rfl (.int .i64 ri) _ Try.underlying2 rfl (h'.2.1.at_ 0)) ?_
    go_frame
    refine y_yield 12 (some 30) (.pointer (some ⟨wdz1.heap.size, 1, none⟩)) rfl (by kernel_rfl) (by kernel_rfl) (by kernel_rfl) (fun _ _ _ h => h) rfl rfl ⟨hB, hz32, hz25, hc⟩ (fun w' h' => exec_fieldAddr 74 _ 1 rfl _ (by kernel_rfl)) ?_
    go_frame
    refine y_yield 13 (some 31) (.int .i64 cj) rfl (by kernel_rfl) (by kernel_rfl) (by kernel_rfl) (fun _ _ _ h => h) rfl rfl ⟨hB, hz32, hz25, hc⟩ (fun w' h' => exec_load_one 2 _ rfl wdz1.heap.size 1 rfl (.int .i64 cj) _ Try.underlying2 rfl (h'.2.2.1.at_ 1)) ?_
    go_frame
    refine y_yield 14 (some 32) (.agg #[.int .i64 ri, .int .i64 cj]) rfl (by kernel_rfl) (by kernel_rfl) (by kernel_rfl) (fun _ _ _ h => h) rfl rfl ⟨hB, hz32, hz25, hc⟩ (fun w' h' => exec_build_ent _ _ rfl ri cj rfl rfl) ?_
    go_frame
    refine y_yield 15 (some 33) (.bool false) rfl (by kernel_rfl) (by kernel_rfl) (by kernel_rfl) (fun _ _ _ h => h) rfl rfl ⟨hB, hz32, hz25, hc⟩ (fun w' h' => exec_eql_ent _ _ _ rfl rk ck ri cj rfl rfl false HB2.out) ?_
    go_frame
    refine y_yield 16 (some 34) (.bool false) rfl (by kernel_rfl) (by kernel_rfl) (by kernel_rfl) (fun _ _ _ h => h) rfl rfl ⟨hB, hz32, hz25, hc⟩ (fun w' h' => exec_pick _ _ _ rfl true rfl (.bool false) rfl) ?_
    go_frame
    refine y_oper 17 (by kernel_rfl) rfl rfl (fun K' hK' => ?_)
    refine wp_exec (some 7) rfl (.bool false) (exec_assign _ rfl (.bool false) rfl) ?_
    refine hK' _ _ ⟨hB, hz32, hz25, hc⟩ (fun _ => trivial) ?_
    clear hK' K'
    go_frame
    refine y_done (by kernel_rfl) ?_ _
    go_wp2_with fail
    go_ret
    exact ⟨by rw [HV.out]; rfl, hB⟩
set_option maxHeartbeats 4000000 in
theorem tri1_c9 (n i j k S c7 be oe c0 : Nat) (ri ci rj cj rk ck : Int) (w : World) (hi : i < S) (hj : j < S) (hk : k < S) (hc : At w c0 (.cells #[.slice (some ⟨be, oe, none⟩) S c7] 72 (0, 0))) (HE : Hid (∀ W, Below w.heap.size w W → RdK 2 W (some ⟨be, oe, none⟩) (entP n n n))) (Hi : Hid ((entP n n n)[i]? = some [ri, ci])) (Hj : Hid ((entP n n n)[j]? = some [rj, cj])) (Hk : Hid ((entP n n n)[k]? = some [rk, ck])) (HB1 : Hid ((ci == rj) = true)) (HB2 : Hid ((rk == ri && ck == cj) = true)) (HV : Hid (triB n i j k = true)) :
    Calls Try.prog 54 #[.int .i64 i, .int .i64 j, .int .i64 k, .pointer (some ⟨c0, 0, none⟩)] w (fun e w' => e = .returned (.bool (triB n i j k)) ∧ Below w.heap.size w w') := by
  have hB := Below.refl w.heap.size w
  skip
  go_enter Try.func54, Try.ntmps54
  go_upto_region 0 with (fail)
  refine wp_region_lit ?_
  refine ls_ex (some 7) (.bool false) rfl rfl (exec_assign _ rfl (.bool false) rfl) ?_
  go_frame
  refine wpList_nil ?_
  go_upto_region 1 with (fail)
  refine wp_region_y (zs := []) (S := fun w' => Below w.heap.size w w' ∧ At w' c0 (.cells #[.slice (some ⟨be, oe, none⟩) S c7] 72 (0, 0))) (S2 := fun w' => True) (by kernel_rfl) ?_
  change wpAnyY _ _ _ _ _ _ _ _ _ _ (World.drew _)
  generalize hwdz1 : World.drew _ = wdz1
  replace hB : Below w.heap.size w wdz1 := by rw [← hwdz1]; exact hB.drew
  replace hc : At wdz1 c0 (.cells #[.slice (some ⟨be, oe, none⟩) S c7] 72 (0, 0)) := by rw [← hwdz1]; exact hc
  clear hwdz1
  refine y_yield 0 (some 10) (.slice (some ⟨be, oe, none⟩) S c7) rfl (by kernel_rfl) (by kernel_rfl) (by kernel_rfl) (fun _ _ _ h => h) rfl rfl ⟨hB, hc⟩ (fun w' h' => exec_load_one 72 _ rfl c0 0 rfl (.slice (some ⟨be, oe, none⟩) S c7) _ Try.underlying72 rfl (h'.2.at_ 0)) ?_
  go_frame
  refine y_yield 1 (some 11) (.int .i64 i) rfl (by kernel_rfl) (by kernel_rfl) (by kernel_rfl) (fun _ _ _ h => h) rfl rfl ⟨hB, hc⟩ (fun w' h' => exec_move _ rfl (.int .i64 i) rfl) ?_
  go_frame
  refine y_yield 2 (some 12) (.pointer (some ⟨be, oe + i * 2, none⟩)) rfl (by kernel_rfl) (by kernel_rfl) (by kernel_rfl) (fun _ _ _ h => h) rfl rfl ⟨hB, hc⟩ (fun w' h' => exec_index_slice _ 74 _ _ rfl be oe S c7 i 2 rfl rfl Try.underlying72 (by kernel_rfl) hi) ?_
  go_frame
  refine y_yield 3 (some 13) (.agg #[.int .i64 ri, .int .i64 ci]) rfl (by kernel_rfl) (by kernel_rfl) (by kernel_rfl) (fun _ _ _ h => h) rfl rfl ⟨hB, hc⟩ (fun w' h' => exec_load_ent _ rfl be oe i (entP n n n) ri ci rfl (HE.out _ h'.1) Hi.out) ?_
  go_frame
  refine y_yield 4 (some 14) (.slice (some ⟨be, oe, none⟩) S c7) rfl (by kernel_rfl) (by kernel_rfl) (by kernel_rfl) (fun _ _ _ h => h) rfl rfl ⟨hB, hc⟩ (fun w' h' => exec_load_one 72 _ rfl c0 0 rfl (.slice (some ⟨be, oe, none⟩) S c7) _ Try.underlying72 rfl (h'.2.at_ 0)) ?_
  go_frame
  refine y_yield 5 (some 15) (.int .i64 j) rfl (by kernel_rfl) (by kernel_rfl) (by kernel_rfl) (fun _ _ _ h => h) rfl rfl ⟨hB, hc⟩ (fun w' h' => exec_move _ rfl (.int .i64 j) rfl) ?_
  go_frame
  refine y_yield 6 (some 16) (.pointer (some ⟨be, oe + j * 2, none⟩)) rfl (by kernel_rfl) (by kernel_rfl) (by kernel_rfl) (fun _ _ _ h => h) rfl rfl ⟨hB, hc⟩ (fun w' h' => exec_index_slice _ 74 _ _ rfl be oe S c7 j 2 rfl rfl Try.underlying72 (by kernel_rfl) hj) ?_
  go_frame
  refine y_yield 7 (some 17) (.agg #[.int .i64 rj, .int .i64 cj]) rfl (by kernel_rfl) (by kernel_rfl) (by kernel_rfl) (fun _ _ _ h => h) rfl rfl ⟨hB, hc⟩ (fun w' h' => exec_load_ent _ rfl be oe j (entP n n n) rj cj rfl (HE.out _ h'.1) Hj.out) ?_
  go_frame
  refine y_two 8 9 (by kernel_rfl) rfl rfl rfl rfl (fun K' hK' => ?_) (fun K' hK' => ?_)
  · have lz2 := hB.size
    have lz3 := hc.lt
    refine wp_new (some 8) rfl (al_impl_entry rfl) (fun Wz4 nnz5 => ?_)
    have bz6 := nnz5.below (Below.refl _ _) (Nat.le_refl _)
    replace hB := below_after hB bz6
    replace hc := hc.after bz6
    have hz7 : At Wz4 wdz1.heap.size (.cells #[.int .i64 0, .int .i64 0] 74 (0, 0)) := nnz5.at_
    refine hK' _ _ ⟨hB, hc⟩ (fun _ => trivial) ?_
    clear hK' K' nnz5 bz6
    go_frame
    refine y_oper 9 (by kernel_rfl) rfl rfl (fun K' hK' => ?_)
    have lz8 := hB.size
    have lz9 := hc.lt
    have lz10 := hz7.lt
    refine wp_new (some 9) rfl (al_impl_entry rfl) (fun Wz11 nnz12 => ?_)
    have bz13 := nnz12.below (Below.refl _ _) (Nat.le_refl _)
    replace hB := below_after hB bz13
    replace hc := hc.after bz13
    replace hz7 := hz7.after bz13
    have hz14 : At Wz11 Wz4.heap.size (.cells #[.int .i64 0, .int .i64 0] 74 (0, 0)) := nnz12.at_
    refine hK' _ _ ⟨hB, hc⟩ (fun _ => trivial) ?_
    clear hK' K' nnz12 bz13
    go_frame
    refine y_oper 10 (by kernel_rfl) rfl rfl (fun K' hK' => ?_)
    refine wp_store_all 74 _ _ rfl rfl wdz1.heap.size rfl #[.int .i64 ri, .int .i64 ci] rfl _ _ hz7 2 (by kernel_rfl) rfl rfl (by intro x hx; simp at hx; rcases hx with rfl | rfl <;> rfl) (fun Wz15 pz16 => ?_)
    replace hB := pz16.below hB (by omega)
    replace hc := pz16.other hc (by omega)
    replace hz14 := pz16.other hz14 (by omega)
    replace hz7 : At Wz15 wdz1.heap.size (.cells #[.int .i64 ri, .int .i64 ci] 74 (0, 0)) := pz16.at_
    refine hK' _ _ ⟨hB, hc⟩ (fun _ => trivial) ?_
    clear hK' K' pz16
    refine y_oper 11 (by kernel_rfl) rfl rfl (fun K' hK' => ?_)
    refine wp_store_all 74 _ _ rfl rfl Wz4.heap.size rfl #[.int .i64 rj, .int .i64 cj] rfl _ _ hz14 2 (by kernel_rfl) rfl rfl (by intro x hx; simp at hx; rcases hx with rfl | rfl <;> rfl) (fun Wz17 pz18 => ?_)
    replace hB := pz18.below hB (by omega)
    replace hc := pz18.other hc (by omega)
    replace hz7 := pz18.other hz7 (by omega)
    replace hz14 : At Wz17 Wz4.heap.size (.cells #[.int .i64 rj, .int .i64 cj] 74 (0, 0)) := pz18.at_
    refine hK' _ _ ⟨hB, hc⟩ (fun _ => trivial) ?_
    clear hK' K' pz18
    refine y_done (by kernel_rfl) ?_ _
    go_upto_region 2 with (fail)
    refine wp_region_y (zs := []) (S := fun w' => Below w.heap.size w w' ∧ At w' wdz1.heap.size (.cells #[.int .i64 ri, .int .i64 ci] 74 (0, 0)) ∧ At w' Wz4.heap.size (.cells #[.int .i64 rj, .int .i64 cj] 74 (0, 0)) ∧ At w' c0 (.cells #[.slice (some ⟨be, oe, none⟩) S c7] 72 (0, 0))) (S2 := fun w' => True) (by kernel_rfl) ?_
    change wpAnyY _ _ _ _ _ _ _ _ _ _ (World.drew _)
    generalize hwdz19 : World.drew _ = wdz19
    replace hB : Below w.heap.size w wdz19 := by rw [← hwdz19]; exact hB.drew
    replace hc : At wdz19 c0 (.cells #[.slice (some ⟨be, oe, none⟩) S c7] 72 (0, 0)) := by rw [← hwdz19]; exact hc
    replace hz7 : At wdz19 wdz1.heap.size (.cells #[.int .i64 ri, .int .i64 ci] 74 (0, 0)) := by rw [← hwdz19]; exact hz7
    replace hz14 : At wdz19 Wz4.heap.size (.cells #[.int .i64 rj, .int .i64 cj] 74 (0, 0)) := by rw [← hwdz19]; exact hz14
    clear hwdz19
    refine y_yield 0 (some 18) (.pointer (some ⟨wdz1.heap.size, 1, none⟩)) rfl (by kernel_rfl) (by kernel_rfl) (by kernel_rfl) (fun _ _ _ h => h) rfl rfl ⟨hB, hz7, hz14, hc⟩ (fun w' h' => exec_fieldAddr 74 _ 1 rfl _ (by kernel_rfl)) ?_
    go_frame
    refine y_yield 1 (some 19) (.int .i64 ci) rfl (by kernel_rfl) (by kernel_rfl) (by kernel_rfl) (fun _ _ _ h => h) rfl rfl ⟨hB, hz7, hz14, hc⟩ (fun w' h' => exec_load_one 2 _ rfl wdz1.heap.size 1 rfl (.int .i64 ci) _ Try.underlying2 rfl (h'.2.1.at_ 1)) ?_
    go_frame
    refine y_yield 2 (some 20) (.pointer (some ⟨Wz4.heap.size, 0, none⟩)) rfl (by kernel_rfl) (by kernel_rfl) (by kernel_rfl) (fun _ _ _ h => h) rfl rfl ⟨hB, hz7, hz14, hc⟩ (fun w' h' => exec_fieldAddr 74 _ 0 rfl _ (by kernel_rfl)) ?_
    go_frame
    refine y_yield 3 (some 21) (.int .i64 rj) rfl (by kernel_rfl) (by kernel_rfl) (by kernel_rfl) (fun _ _ _ h => h) rfl rfl ⟨hB, hz7, hz14, hc⟩ (fun w' h' => exec_load_one 2 _ rfl Wz4.heap.size 0 rfl (.int .i64 rj) _ Try.underlying2 rfl (h'.2.2.1.at_ 0)) ?_
    go_frame
    refine y_yield 4 (some 22) (.bool true) rfl (by kernel_rfl) (by kernel_rfl) (by kernel_rfl) (fun _ _ _ h => h) rfl rfl ⟨hB, hz7, hz14, hc⟩ (fun w' h' => exec_eql _ _ _ _ rfl ci rj rfl rfl true HB1.out) ?_
    go_frame
    refine y_yield 5 (some 23) (.bool true) rfl (by kernel_rfl) (by kernel_rfl) (by kernel_rfl) (fun _ _ _ h => h) rfl rfl ⟨hB, hz7, hz14, hc⟩ (fun w' h' => exec_move _ rfl (.bool true) rfl) ?_
    go_frame
    refine y_yield 6 (some 24) (.slice (some ⟨be, oe, none⟩) S c7) rfl (by kernel_rfl) (by kernel_rfl) (by kernel_rfl) (fun _ _ _ h => h) rfl rfl ⟨hB, hz7, hz14, hc⟩ (fun w' h' => exec_load_one 72 _ rfl c0 0 rfl (.slice (some ⟨be, oe, none⟩) S c7) _ Try.underlying72 rfl (h'.2.2.2.at_ 0)) ?_
    go_frame
    refine y_yield 7 (some 25) (.int .i64 k) rfl (by kernel_rfl) (by kernel_rfl) (by kernel_rfl) (fun _ _ _ h => h) rfl rfl ⟨hB, hz7, hz14, hc⟩ (fun w' h' => exec_move _ rfl (.int .i64 k) rfl) ?_
    go_frame
    refine y_yield 8 (some 26) (.pointer (some ⟨be, oe + k * 2, none⟩)) rfl (by kernel_rfl) (by kernel_rfl) (by kernel_rfl) (fun _ _ _ h => h) rfl rfl ⟨hB, hz7, hz14, hc⟩ (fun w' h' => exec_index_slice _ 74 _ _ rfl be oe S c7 k 2 rfl rfl Try.underlying72 (by kernel_rfl) hk) ?_
    go_frame
    refine y_yield 9 (some 27) (.agg #[.int .i64 rk, .int .i64 ck]) rfl (by kernel_rfl) (by kernel_rfl) (by kernel_rfl) (fun _ _ _ h => h) rfl rfl ⟨hB, hz7, hz14, hc⟩ (fun w' h' => exec_load_ent _ rfl be oe k (entP n n n) rk ck rfl (HE.out _ h'.1) Hk.out) ?_
    go_frame
    refine y_yield 10 (some 28) (.pointer (some ⟨wdz1.heap.size, 0, none⟩)) rfl (by kernel_rfl) (by kernel_rfl) (by kernel_rfl) (fun _ _ _ h => h) rfl rfl ⟨hB, hz7, hz14, hc⟩ (fun w' h' => exec_fieldAddr 74 _ 0 rfl _ (by kernel_rfl)) ?_
    go_frame
    refine y_yield 11 (some 29) (.int .i64 ri) rfl (by kernel_rfl) (by kernel_rfl) (by kernel_rfl) (fun _ _ _ h => h) rfl rfl ⟨hB, hz7, hz14, hc⟩ (fun w' h' => exec_load_one 2 _ rfl wdz1.heap.size 0 rfl (.int .i64 ri) _ Try.underlying2 rfl (h'.2.1.at_ 0)) ?_
    go_frame
    refine y_yield 12 (some 30) (.pointer (some ⟨Wz4.heap.size, 1, none⟩)) rfl (by kernel_rfl) (by kernel_rfl) (by kernel_rfl) (fun _ _ _ h => h) rfl rfl ⟨hB, hz7, hz14, hc⟩ (fun w' h' => exec_fieldAddr 74 _ 1 rfl _ (by kernel_rfl)) ?_
    go_frame
    refine y_yield 13 (some 31) (.int .i64 cj) rfl (by kernel_rfl) (by kernel_rfl) (by kernel_rfl) (fun _ _ _ h => h) rfl rfl ⟨hB, hz7, hz14, hc⟩ (fun w' h' => exec_load_one 2 _ rfl Wz4.heap.size 1 rfl (.int .i64 cj) _ Try.underlying2 rfl (h'.2.2.1.at_ 1)) ?_
    go_frame
    refine y_yield 14 (some 32) (.agg #[.int .i64 ri, .int .i64 cj]) rfl (by kernel_rfl) (by kernel_rfl) (by kernel_rfl) (fun _ _ _ h => h) rfl rfl ⟨hB, hz7, hz14, hc⟩ (fun w' h' => exec_build_ent _ _ rfl ri cj rfl rfl) ?_
    go_frame
    refine y_yield 15 (some 33) (.bool true) rfl (by kernel_rfl) (by kernel_rfl) (by kernel_rfl) (fun _ _ _ h => h) rfl rfl ⟨hB, hz7, hz14, hc⟩ (fun w' h' => exec_eql_ent _ _ _ rfl rk ck ri cj rfl rfl true HB2.out) ?_
    go_frame
    refine y_yield 16 (some 34) (.bool true) rfl (by kernel_rfl) (by kernel_rfl) (by kernel_rfl) (fun _ _ _ h => h) rfl rfl ⟨hB, hz7, hz14, hc⟩ (fun w' h' => exec_pick _ _ _ rfl true rfl (.bool true) rfl) ?_
    go_frame
    refine y_oper 17 (by kernel_rfl) rfl rfl (fun K' hK' => ?_)
    refine wp_exec (some 7) rfl (.bool true) (exec_assign _ rfl (.bool true) rfl) ?_
    refine hK' _ _ ⟨hB, hz7, hz14, hc⟩ (fun _ => trivial) ?_
    clear hK' K'
    go_frame
    refine y_done (by kernel_rfl) ?_ _
    go_wp2_with fail
    go_ret
    exact ⟨by rw [HV.out]; rfl, hB⟩
  · have lz20 := hB.size
    have lz21 := hc.lt
    refine wp_new (some 9) rfl (al_impl_entry rfl) (fun Wz22 nnz23 => ?_)
    have bz24 := nnz23.below (Below.refl _ _) (Nat.le_refl _)
    replace hB := below_after hB bz24
    replace hc := hc.after bz24
    have hz25 : At Wz22 wdz1.heap.size (.cells #[.int .i64 0, .int .i64 0] 74 (0, 0)) := nnz23.at_
    refine hK' _ _ ⟨hB, hc⟩ (fun _ => trivial) ?_
    clear hK' K' nnz23 bz24
    go_frame
    refine y_oper 8 (by kernel_rfl) rfl rfl (fun K' hK' => ?_)
    have lz26 := hB.size
    have lz27 := hc.lt
    have lz28 := hz25.lt
    refine wp_new (some 8) rfl (al_impl_entry rfl) (fun Wz29 nnz30 => ?_)
    have bz31 := nnz30.below (Below.refl _ _) (Nat.le_refl _)
    replace hB := below_after hB bz31
    replace hc := hc.after bz31
    replace hz25 := hz25.after bz31
    have hz32 : At Wz29 Wz22.heap.size (.cells #[.int .i64 0, .int .i64 0] 74 (0, 0)) := nnz30.at_
    refine hK' _ _ ⟨hB, hc⟩ (fun _ => trivial) ?_
    clear hK' K' nnz30 bz31
    go_frame
    refine y_oper 10 (by kernel_rfl) rfl rfl (fun K' hK' => ?_)
    refine wp_store_all 74 _ _ rfl rfl Wz22.heap.size rfl #[.int .i64 ri, .int .i64 ci] rfl _ _ hz32 2 (by kernel_rfl) rfl rfl (by intro x hx; simp at hx; rcases hx with rfl | rfl <;> rfl) (fun Wz33 pz34 => ?_)
    replace hB := pz34.below hB (by omega)
    replace hc := pz34.other hc (by omega)
    replace hz25 := pz34.other hz25 (by omega)
    replace hz32 : At Wz33 Wz22.heap.size (.cells #[.int .i64 ri, .int .i64 ci] 74 (0, 0)) := pz34.at_
    refine hK' _ _ ⟨hB, hc⟩ (fun _ => trivial) ?_
    clear hK' K' pz34
    refine y_oper 11 (by kernel_rfl) rfl rfl (fun K' hK' => ?_)
    refine wp_store_all 74 _ _ rfl rfl wdz1.heap.size rfl #[.int .i64 rj, .int .i64 cj] rfl _ _ hz25 2 (by kernel_rfl) rfl rfl (by intro x hx; simp at hx; rcases hx with rfl | rfl <;> rfl) (fun Wz35 pz36 => ?_)
    replace hB := pz36.below hB (by omega)
    replace hc := pz36.other hc (by omega)
    replace hz32 := pz36.other hz32 (by omega)
    replace hz25 : At Wz35 wdz1.heap.size (.cells #[.int .i64 rj, .int .i64 cj] 74 (0, 0)) := pz36.at_
    refine hK' _ _ ⟨hB, hc⟩ (fun _ => trivial) ?_
    clear hK' K' pz36
    refine y_done (by kernel_rfl) ?_ _
    go_upto_region 2 with (fail)
    refine wp_region_y (zs := []) (S := fun w' => Below w.heap.size w w' ∧ At w' Wz22.heap.size (.cells #[.int .i64 ri, .int .i64 ci] 74 (0, 0)) ∧ At w' wdz1.heap.size (.cells #[.int .i64 rj, .int .i64 cj] 74 (0, 0)) ∧ At w' c0 (.cells #[.slice (some ⟨be, oe, none⟩) S c7] 72 (0, 0))) (S2 := fun w' => True) (by kernel_rfl) ?_
    change wpAnyY _ _ _ _ _ _ _ _ _ _ (World.drew _)
    generalize hwdz37 : World.drew _ = wdz37
    replace hB : Below w.heap.size w wdz37 := by rw [← hwdz37]; exact hB.drew
    replace hc : At wdz37 c0 (.cells #[.slice (some ⟨be, oe, none⟩) S c7] 72 (0, 0)) := by rw [← hwdz37]; exact hc
    replace hz25 : At wdz37 wdz1.heap.size (.cells #[.int .i64 rj, .int .i64 cj] 74 (0, 0)) := by rw [← hwdz37]; exact hz25
    replace hz32 : At wdz37 Wz22.heap.size (.cells #[.int .i64 ri, .int .i64 ci] 74 (0, 0)) := by rw [← hwdz37]; exact hz32
    clear hwdz37
    refine y_yield 0 (some 18) (.pointer (some ⟨Wz22.heap.size, 1, none⟩)) rfl (by kernel_rfl) (by kernel_rfl) (by kernel_rfl) (fun _ _ _ h => h) rfl rfl ⟨hB, hz32, hz25, hc⟩ (fun w' h' => exec_fieldAddr 74 _ 1 rfl _ (by kernel_rfl)) ?_
    go_frame
    refine y_yield 1 (some 19) (.int .i64 ci) rfl (by kernel_rfl) (by kernel_rfl) (by kernel_rfl) (fun _ _ _ h => h) rfl rfl ⟨hB, hz32, hz25, hc⟩ (fun w' h' => exec_load_one 2 _ rfl Wz22.heap.size 1 rfl (.int .i64 ci) _ Try.underlying2 rfl (h'.2.1.at_ 1)) ?_
    go_frame
    refine y_yield 2 (some 20) (.pointer (some ⟨wdz1.heap.size, 0, none⟩)) rfl (by kernel_rfl) (by kernel_rfl) (by kernel_rfl) (fun _ _ _ h => h) rfl rfl ⟨hB, hz32, hz25, hc⟩ (fun w' h' => exec_fieldAddr 74 _ 0 rfl _ (by kernel_rfl)) ?_
    go_frame
    refine y_yield 3 (some 21) (.int .i64 rj) rfl (by kernel_rfl) (by kernel_rfl) (by kernel_rfl) (fun _ _ _ h => h) rfl rfl ⟨hB, hz32, hz25, hc⟩ (fun w' h' => exec_load_one 2 _ rfl wdz1.heap.size 0 rfl (.int .i64 rj) _ Try.underlying2 rfl (h'.2.2.1.at_ 0)) ?_
    go_frame
    refine y_yield 4 (some 22) (.bool true) rfl (by kernel_rfl) (by kernel_rfl) (by kernel_rfl) (fun _ _ _ h => h) rfl rfl ⟨hB, hz32, hz25, hc⟩ (fun w' h' => exec_eql _ _ _ _ rfl ci rj rfl rfl true HB1.out) ?_
    go_frame
    refine y_yield 5 (some 23) (.bool true) rfl (by kernel_rfl) (by kernel_rfl) (by kernel_rfl) (fun _ _ _ h => h) rfl rfl ⟨hB, hz32, hz25, hc⟩ (fun w' h' => exec_move _ rfl (.bool true) rfl) ?_
    go_frame
    refine y_yield 6 (some 24) (.slice (some ⟨be, oe, none⟩) S c7) rfl (by kernel_rfl) (by kernel_rfl) (by kernel_rfl) (fun _ _ _ h => h) rfl rfl ⟨hB, hz32, hz25, hc⟩ (fun w' h' => exec_load_one 72 _ rfl c0 0 rfl (.slice (some ⟨be, oe, none⟩) S c7) _ Try.underlying72 rfl (h'.2.2.2.at_ 0)) ?_
    go_frame
    refine y_yield 7 (some 25) (.int .i64 k) rfl (by kernel_rfl) (by kernel_rfl) (by kernel_rfl) (fun _ _ _ h => h) rfl rfl ⟨hB, hz32, hz25, hc⟩ (fun w' h' => exec_move _ rfl (.int .i64 k) rfl) ?_
    go_frame
    refine y_yield 8 (some 26) (.pointer (some ⟨be, oe + k * 2, none⟩)) rfl (by kernel_rfl) (by kernel_rfl) (by kernel_rfl) (fun _ _ _ h => h) rfl rfl ⟨hB, hz32, hz25, hc⟩ (fun w' h' => exec_index_slice _ 74 _ _ rfl be oe S c7 k 2 rfl rfl Try.underlying72 (by kernel_rfl) hk) ?_
    go_frame
    refine y_yield 9 (some 27) (.agg #[.int .i64 rk, .int .i64 ck]) rfl (by kernel_rfl) (by kernel_rfl) (by kernel_rfl) (fun _ _ _ h => h) rfl rfl ⟨hB, hz32, hz25, hc⟩ (fun w' h' => exec_load_ent _ rfl be oe k (entP n n n) rk ck rfl (HE.out _ h'.1) Hk.out) ?_
    go_frame
    refine y_yield 10 (some 28) (.pointer (some ⟨Wz22.heap.size, 0, none⟩)) rfl (by kernel_rfl) (by kernel_rfl) (by kernel_rfl) (fun _ _ _ h => h) rfl rfl ⟨hB, hz32, hz25, hc⟩ (fun w' h' => exec_fieldAddr 74 _ 0 rfl _ (by kernel_rfl)) ?_
    go_frame
    refine y_yield 11 (some 29) (.int .i64 ri) rfl (by kernel_rfl) (by kernel_rfl) (by kernel_rfl) (fun _ _ _ h => h) rfl rfl ⟨hB, hz32, hz25, hc⟩ (fun w' h' => exec_load_one 2 _ rfl Wz22.heap.size 0 rfl (.int .i64 ri) _ Try.underlying2 rfl (h'.2.1.at_ 0)) ?_
    go_frame
    refine y_yield 12 (some 30) (.pointer (some ⟨wdz1.heap.size, 1, none⟩)) rfl (by kernel_rfl) (by kernel_rfl) (by kernel_rfl) (fun _ _ _ h => h) rfl rfl ⟨hB, hz32, hz25, hc⟩ (fun w' h' => exec_fieldAddr 74 _ 1 rfl _ (by kernel_rfl)) ?_
    go_frame
    refine y_yield 13 (some 31) (.int .i64 cj) rfl (by kernel_rfl) (by kernel_rfl) (by kernel_rfl) (fun _ _ _ h => h) rfl rfl ⟨hB, hz32, hz25, hc⟩ (fun w' h' => exec_load_one 2 _ rfl wdz1.heap.size 1 rfl (.int .i64 cj) _ Try.underlying2 rfl (h'.2.2.1.at_ 1)) ?_
    go_frame
    refine y_yield 14 (some 32) (.agg #[.int .i64 ri, .int .i64 cj]) rfl (by kernel_rfl) (by kernel_rfl) (by kernel_rfl) (fun _ _ _ h => h) rfl rfl ⟨hB, hz32, hz25, hc⟩ (fun w' h' => exec_build_ent _ _ rfl ri cj rfl rfl) ?_
    go_frame
    refine y_yield 15 (some 33) (.bool true) rfl (by kernel_rfl) (by kernel_rfl) (by kernel_rfl) (fun _ _ _ h => h) rfl rfl ⟨hB, hz32, hz25, hc⟩ (fun w' h' => exec_eql_ent _ _ _ rfl rk ck ri cj rfl rfl true HB2.out) ?_
    go_frame
    refine y_yield 16 (some 34) (.bool true) rfl (by kernel_rfl) (by kernel_rfl) (by kernel_rfl) (fun _ _ _ h => h) rfl rfl ⟨hB, hz32, hz25, hc⟩ (fun w' h' => exec_pick _ _ _ rfl true rfl (.bool true) rfl) ?_
    go_frame
    refine y_oper 17 (by kernel_rfl) rfl rfl (fun K' hK' => ?_)
    refine wp_exec (some 7) rfl (.bool true) (exec_assign _ rfl (.bool true) rfl) ?_
    refine hK' _ _ ⟨hB, hz32, hz25, hc⟩ (fun _ => trivial) ?_
    clear hK' K'
    go_frame
    refine y_done (by kernel_rfl) ?_ _
    go_wp2_with fail
    go_ret
    exact ⟨by rw [HV.out]; rfl, hB⟩
theorem tri1_c (n i j k c7 c0 : Nat) (A : Option Addr) (w : World) (hn : n < 4) (hi : i < triS n) (hj : j < triS n) (hk : k < triS n) (hc : At w c0 (.cells #[.slice A (triS n) c7] 72 (0, 0))) (hE : RdK 2 w A (entP n n n)) :
    Calls Try.prog 54 #[.int .i64 i, .int .i64 j, .int .i64 k, .pointer (some ⟨c0, 0, none⟩)] w fun e w' => e = .returned (.bool (triB n i j k)) ∧ Below w.heap.size w w' := by
  obtain ⟨be, oe, rfl, _⟩ := hE.at_ (i := i) (by rw [ent_all n hn]; exact hi)
  have HE := Lib.hid (fun W (hb : Below w.heap.size w W) => hE.keep hb)
  have Hi := Lib.hid (ent_get n hn i hi)
  have Hj := Lib.hid (ent_get n hn j hj)
  have Hk := Lib.hid (ent_get n hn k hk)
  cases h1 : (entE n i 1 == entE n j 0) with
  | false => exact tri1_a n i j k (triS n) c7 be oe c0 _ _ _ _ _ _ w hi hj hk hc HE Hi Hj Hk (Lib.hid h1) (Lib.hid (by simp [triB, h1]))
  | true =>
    cases h2 : (entE n k 0 == entE n i 0 && entE n k 1 == entE n j 1) with
    | false => exact tri1_b n i j k (triS n) c7 be oe c0 _ _ _ _ _ _ w hi hj hk hc HE Hi Hj Hk (Lib.hid h1) (Lib.hid h2) (Lib.hid (by unfold triB; rw [h1, h2]; rfl))
    | true => exact tri1_c9 n i j k (triS n) c7 be oe c0 _ _ _ _ _ _ w hi hj hk hc HE Hi Hj Hk (Lib.hid h1) (Lib.hid h2) (Lib.hid (by unfold triB; rw [h1, h2]; rfl))
theorem tri1_t (n i j k c7 c0 : Nat) (A : Option Addr) (w : World) (S : Nat) (hS : triS n = S) (hn : n < 4) (hi : i < S) (hj : j < S) (hk : k < S) (hc : At w c0 (.cells #[.slice A S c7] 72 (0, 0))) (hE : RdK 2 w A (entP n n n)) :
    Calls Try.prog 54 #[.int .i64 i, .int .i64 j, .int .i64 k, .pointer (some ⟨c0, 0, none⟩)] w fun e w' => e = .returned (.bool (triB n i j k)) ∧ Below w.heap.size w w' := by
  subst hS
  exact tri1_c n i j k c7 c0 A w hn hi hj hk hc hE
set_option maxHeartbeats 4000000 in
theorem specTri_a (p n : Int) (w : World) (hp : primeB p = false) :
    Calls Try.prog 25 #[.int .i64 p, .int .i64 n] w (ResT w (tZ (triCode p n) p) (tZ (triCode p n) (triS n.toNat : Nat)) (tZ (triCode p n) (triS n.toNat : Nat)) (tZ (triCode p n) (triS n.toNat : Nat)) (tL (triCode p n) (triL p n.toNat)) (triCode p n)) := by
  have hB := Below.refl w.heap.size w
  have HC : Hid (triCode p n = 2) := Lib.hid (by unfold triCode; rw [hp]; rfl)
  have HP := Lib.hid hp
  clear hp
  go_enter Try.func25, Try.ntmps25
  go_upto_region 0 with (fail)
  refine wp_region_lit ?_
  refine ls_op rfl (fun K' hK' => ?_)
  have lz1 := hB.size
  refine wp_new (some 4) rfl (al_impl_Tensor rfl) (fun Wz2 nnz3 => ?_)
  have bz4 := nnz3.below (Below.refl _ _) (Nat.le_refl _)
  replace hB := below_after hB bz4
  have hz5 : At Wz2 w.heap.size (.cells #[.int .i64 0, .int .i64 0, .int .i64 0, .int .i64 0, .slice none 0 0] 31 (0, 0)) := nnz3.at_
  refine hK' _ _ ?_
  clear hK' K' nnz3 bz4
  go_frame
  refine ls_ex (some 5) (.int .i64 0) rfl rfl (exec_assign _ rfl (.int .i64 0) rfl) ?_
  go_frame
  refine wpList_nil ?_
  go_upto_region 1 with (fail)
  refine wp_region_lit ?_
  refine ls_ex (some 11) (.int .i64 p) rfl rfl (exec_move _ rfl (.int .i64 p) rfl) ?_
  go_frame
  refine ls_op rfl (fun K' hK' => ?_)
  have lz8 := hB.size
  have lz9 := hz5.lt
  refine wp_call1 (some 12) rfl 38 _ _ rfl (fun args w => by kernel_rfl) _ rfl _ (l01Prime_c p _) (fun e Wz6 h => ?_)
  obtain ⟨rfl, rfl⟩ := h
  rw [HP.out]
  refine ⟨_, rfl, ?_⟩
  refine hK' _ _ ?_
  clear hK' K'
  go_frame
  refine ls_ex (some 13) (.bool true) rfl rfl (exec_not _ _ rfl false rfl) ?_
  go_frame
  refine ls_ex (some 14) (.bool true) rfl rfl (exec_move _ rfl (.bool true) rfl) ?_
  go_frame
  refine ls_skip_g (some 15) rfl rfl ?_
  go_frame
  refine ls_skip_g (some 16) rfl rfl ?_
  go_frame
  refine ls_skip_g (some 17) rfl rfl ?_
  go_frame
  refine ls_ex (some 18) (.bool true) rfl rfl (exec_pick _ _ _ rfl true rfl (.bool true) rfl) ?_
  go_frame
  refine wpList_nil ?_
  go_upto_region 2 with (fail)
  refine wp_region_lit ?_
  refine ls_ex (some 19) (.agg #[.int .i64 0, .int .i64 0, .int .i64 0, .int .i64 0, .slice none 0 0]) rfl rfl (exec_build_nil 31 rfl _ (by kernel_rfl)) ?_
  go_frame
  refine ls_op rfl (fun K' hK' => ?_)
  refine wp_store_all 31 _ _ rfl rfl w.heap.size rfl #[.int .i64 0, .int .i64 0, .int .i64 0, .int .i64 0, .slice none 0 0] rfl _ _ hz5 5 (by kernel_rfl) rfl rfl (one5 _ _ _ _ _ _ _) (fun Wz10 pz11 => ?_)
  replace hB := pz11.below hB (by omega)
  replace hz5 : At Wz10 w.heap.size (.cells #[.int .i64 0, .int .i64 0, .int .i64 0, .int .i64 0, .slice none 0 0] 31 (0, 0)) := pz11.at_
  refine hK' _ _ ?_
  clear hK' K' pz11
  refine ls_ex (some 5) (.int .i64 2) rfl rfl (exec_assign _ rfl (.int .i64 2) rfl) ?_
  go_frame
  refine wpList_nil ?_
  go_wp2_with fail
  refine bodyPost_ret (results_at2 rfl _ _ w.heap.size _ _ _ rfl _ rfl hz5 Try.underlying31 rfl 5 (by kernel_rfl) rfl) rfl ?_
  unfold ResT tZ tL
  rw [HC.out]
  exact ⟨_, rfl, OwnI.nil _ _, hB⟩
set_option maxHeartbeats 4000000 in
theorem specTri_b (p n : Int) (w : World) (hp : primeB p = true) (hn : (decide (1 ≤ n) && decide (n ≤ 3)) = false) :
    Calls Try.prog 25 #[.int .i64 p, .int .i64 n] w (ResT w (tZ (triCode p n) p) (tZ (triCode p n) (triS n.toNat : Nat)) (tZ (triCode p n) (triS n.toNat : Nat)) (tZ (triCode p n) (triS n.toNat : Nat)) (tL (triCode p n) (triL p n.toNat)) (triCode p n)) := by
  have hB := Below.refl w.heap.size w
  have HC : Hid (triCode p n = 2) := Lib.hid (by unfold triCode; rw [hp, hn]; rfl)
  have HP := Lib.hid hp
  have HN := Lib.hid hn
  clear hp hn
  go_enter Try.func25, Try.ntmps25
  go_upto_region 0 with (fail)
  refine wp_region_lit ?_
  refine ls_op rfl (fun K' hK' => ?_)
  have lz1 := hB.size
  refine wp_new (some 4) rfl (al_impl_Tensor rfl) (fun Wz2 nnz3 => ?_)
  have bz4 := nnz3.below (Below.refl _ _) (Nat.le_refl _)
  replace hB := below_after hB bz4
  have hz5 : At Wz2 w.heap.size (.cells #[.int .i64 0, .int .i64 0, .int .i64 0, .int .i64 0, .slice none 0 0] 31 (0, 0)) := nnz3.at_
  refine hK' _ _ ?_
  clear hK' K' nnz3 bz4
  go_frame
  refine ls_ex (some 5) (.int .i64 0) rfl rfl (exec_assign _ rfl (.int .i64 0) rfl) ?_
  go_frame
  refine wpList_nil ?_
  go_upto_region 1 with (fail)
  refine wp_region_lit ?_
  refine ls_ex (some 11) (.int .i64 p) rfl rfl (exec_move _ rfl (.int .i64 p) rfl) ?_
  go_frame
  refine ls_op rfl (fun K' hK' => ?_)
  have lz8 := hB.size
  have lz9 := hz5.lt
  refine wp_call1 (some 12) rfl 38 _ _ rfl (fun args w => by kernel_rfl) _ rfl _ (l01Prime_c p _) (fun e Wz6 h => ?_)
  obtain ⟨rfl, rfl⟩ := h
  rw [HP.out]
  refine ⟨_, rfl, ?_⟩
  refine hK' _ _ ?_
  clear hK' K'
  go_frame
  refine ls_ex (some 13) (.bool false) rfl rfl (exec_not _ _ rfl true rfl) ?_
  go_frame
  refine ls_ex (some 14) (.bool false) rfl rfl (exec_move _ rfl (.bool false) rfl) ?_
  go_frame
  refine ls_ex_g (some 15) (.int .i64 n) rfl rfl (exec_move _ rfl (.int .i64 n) rfl) ?_
  go_frame
  refine ls_op_g rfl (fun K' hK' => ?_)
  have lz12 := hB.size
  have lz13 := hz5.lt
  refine wp_call3 (some 16) rfl 39 _ _ _ _ rfl (fun args w => by kernel_rfl) _ _ _ rfl rfl rfl _ (l01In_c n 1 3 _) (fun e Wz10 h => ?_)
  obtain ⟨rfl, rfl⟩ := h
  rw [HN.out]
  refine ⟨_, rfl, ?_⟩
  refine hK' _ _ ?_
  clear hK' K'
  go_frame
  refine ls_ex_g (some 17) (.bool true) rfl rfl (exec_not _ _ rfl false rfl) ?_
  go_frame
  refine ls_ex (some 18) (.bool true) rfl rfl (exec_pick _ _ _ rfl false rfl (.bool true) rfl) ?_
  go_frame
  refine wpList_nil ?_
  go_upto_region 2 with (fail)
  refine wp_region_lit ?_
  refine ls_ex (some 19) (.agg #[.int .i64 0, .int .i64 0, .int .i64 0, .int .i64 0, .slice none 0 0]) rfl rfl (exec_build_nil 31 rfl _ (by kernel_rfl)) ?_
  go_frame
  refine ls_op rfl (fun K' hK' => ?_)
  refine wp_store_all 31 _ _ rfl rfl w.heap.size rfl #[.int .i64 0, .int .i64 0, .int .i64 0, .int .i64 0, .slice none 0 0] rfl _ _ hz5 5 (by kernel_rfl) rfl rfl (one5 _ _ _ _ _ _ _) (fun Wz14 pz15 => ?_)
  replace hB := pz15.below hB (by omega)
  replace hz5 : At Wz14 w.heap.size (.cells #[.int .i64 0, .int .i64 0, .int .i64 0, .int .i64 0, .slice none 0 0] 31 (0, 0)) := pz15.at_
  refine hK' _ _ ?_
  clear hK' K' pz15
  refine ls_ex (some 5) (.int .i64 2) rfl rfl (exec_assign _ rfl (.int .i64 2) rfl) ?_
  go_frame
  refine wpList_nil ?_
  go_wp2_with fail
  refine bodyPost_ret (results_at2 rfl _ _ w.heap.size _ _ _ rfl _ rfl hz5 Try.underlying31 rfl 5 (by kernel_rfl) rfl) rfl ?_
  unfold ResT tZ tL
  rw [HC.out]
  exact ⟨_, rfl, OwnI.nil _ _, hB⟩
set_option maxHeartbeats 25600000 in
theorem specTri_y (p : Int) (n : Nat) (w : World) (hp : primeB p = true) (hn : (decide (1 ≤ (n : Int)) && decide ((n : Int) ≤ 3)) = true) :
    Calls Try.prog 25 #[.int .i64 p, .int .i64 n] w (ResT w (tZ (triCode p n) p) (tZ (triCode p n) (triS n : Nat)) (tZ (triCode p n) (triS n : Nat)) (tZ (triCode p n) (triS n : Nat)) (tL (triCode p n) (triL p n)) (triCode p n)) := by
  have hB := Below.refl w.heap.size w
  have hn3 : 1 ≤ n ∧ n ≤ 3 := by simp only [Bool.and_eq_true, decide_eq_true_eq] at hn; omega
  have hn4 : n < 4 := by omega
  have HC : Hid (triCode p n = 0) := Lib.hid (by unfold triCode; rw [hp, hn]; rfl)
  have hp5 := prime_le5 hp
  have hsb := triS_b n hn4
  obtain ⟨S, hS⟩ : ∃ S, triS n = S := ⟨_, rfl⟩
  rw [hS] at hsb
  have hS1 : 1 ≤ S := by have h3 : n = 1 ∨ n = 2 ∨ n = 3 := by omega
                         rcases h3 with rfl | rfl | rfl <;> omega
  have hS9 : S ≤ 9 := by omega
  have hNN := places_729 (n0 := S) (n1 := S) (n2 := S) hS9 hS9 hS9
  obtain ⟨N, hNe⟩ : ∃ N, S * S * S = N := ⟨_, rfl⟩
  rw [hNe] at hNN
  have HNe := Lib.hid hNe
  have HNe2 : Hid (triN n = N) := Lib.hid (by unfold triN; rw [hS, hNe])
  have HNl : Hid ((triL p n).length = N) := Lib.hid (by rw [triL_len, HNe2.out])
  have HS := Lib.hid hS
  have HM2 : Hid (IntKind.i64.wrap ((n : Int) * ((n : Int) + 1)) = ((2 * S : Nat) : Int)) := Lib.hid (by rw [show (n : Int) * ((n : Int) + 1) = ((n * (n + 1) : Nat) : Int) by rw [Int.natCast_mul]; rfl, hsb.1]; exact IntWalk.i64_in _ (by omega))
  obtain ⟨M2, hM2⟩ : ∃ M : Int, ((2 * S : Nat) : Int) = M := ⟨_, rfl⟩
  rw [hM2] at HM2
  have HSq : Hid (IntKind.i64.wrap (M2.tdiv 2) = (S : Int)) := Lib.hid (by rw [← hM2, show ((2 * S : Nat) : Int).tdiv 2 = (S : Int) by rw [Int.tdiv_eq_ediv_of_nonneg (by omega)]; omega]; exact IntWalk.i64_in _ (by omega))
  have HZ : Hid (trP n 0 0 0 = List.replicate N 0) := Lib.hid (by rw [trP_zero, HNe2.out])
  have HOw : Hid (∀ (g : Nat) (W : World), At W g (.cells (iar (triL p n)) 2 (0, 0)) → OwnI W g (.slice (some ⟨g, 0, none⟩) N N) (triL p n)) := Lib.hid (fun g W h => by have h9 := OwnI.of_at h (Nat.le_refl g) (by rw [HNl.out]; omega); rwa [HNl.out] at h9)
  have HP := Lib.hid hp
  have HN := Lib.hid hn
  clear hp hn hS hNe hsb hM2
  go_enter Try.func25, Try.ntmps25
  go_upto_region 0 with (fail)
  refine wp_region_lit ?_
  refine ls_op rfl (fun K' hK' => ?_)
  have lz1 := hB.size
  refine wp_new (some 4) rfl (al_impl_Tensor rfl) (fun Wz2 nnz3 => ?_)
  have bz4 := nnz3.below (Below.refl _ _) (Nat.le_refl _)
  replace hB := below_after hB bz4
  have hz5 : At Wz2 w.heap.size (.cells #[.int .i64 0, .int .i64 0, .int .i64 0, .int .i64 0, .slice none 0 0] 31 (0, 0)) := nnz3.at_
  refine hK' _ _ ?_
  clear hK' K' nnz3 bz4
  go_frame
  refine ls_ex (some 5) (.int .i64 0) rfl rfl (exec_assign _ rfl (.int .i64 0) rfl) ?_
  go_frame
  refine wpList_nil ?_
  go_upto_region 1 with (fail)
  refine wp_region_lit ?_
  refine ls_ex (some 11) (.int .i64 p) rfl rfl (exec_move _ rfl (.int .i64 p) rfl) ?_
  go_frame
  refine ls_op rfl (fun K' hK' => ?_)
  have lz8 := hB.size
  have lz9 := hz5.lt
  refine wp_call1 (some 12) rfl 38 _ _ rfl (fun args w => by kernel_rfl) _ rfl _ (l01Prime_c p _) (fun e Wz6 h => ?_)
  obtain ⟨rfl, rfl⟩ := h
  rw [HP.out]
  refine ⟨_, rfl, ?_⟩
  refine hK' _ _ ?_
  clear hK' K'
  go_frame
  refine ls_ex (some 13) (.bool false) rfl rfl (exec_not _ _ rfl true rfl) ?_
  go_frame
  refine ls_ex (some 14) (.bool false) rfl rfl (exec_move _ rfl (.bool false) rfl) ?_
  go_frame
  refine ls_ex_g (some 15) (.int .i64 n) rfl rfl (exec_move _ rfl (.int .i64 n) rfl) ?_
  go_frame
  refine ls_op_g rfl (fun K' hK' => ?_)
  have lz12 := hB.size
  have lz13 := hz5.lt
  refine wp_call3 (some 16) rfl 39 _ _ _ _ rfl (fun args w => by kernel_rfl) _ _ _ rfl rfl rfl _ (l01In_c n 1 3 _) (fun e Wz10 h => ?_)
  obtain ⟨rfl, rfl⟩ := h
  rw [HN.out]
  refine ⟨_, rfl, ?_⟩
  refine hK' _ _ ?_
  clear hK' K'
  go_frame
  refine ls_ex_g (some 17) (.bool false) rfl rfl (exec_not _ _ rfl true rfl) ?_
  go_frame
  refine ls_ex (some 18) (.bool false) rfl rfl (exec_pick _ _ _ rfl false rfl (.bool false) rfl) ?_
  go_frame
  refine wpList_nil ?_
  go_upto_region 3 with (fail)
  refine wp_region_lit ?_
  refine ls_ex (some 20) (.int .i64 n) rfl rfl (exec_move _ rfl (.int .i64 n) rfl) ?_
  go_frame
  refine ls_ex (some 21) (.int .i64 n) rfl rfl (exec_move _ rfl (.int .i64 n) rfl) ?_
  go_frame
  refine ls_ex (some 22) (.int .i64 (n + 1)) rfl rfl (exec_add _ _ _ _ rfl n 1 (n + 1) rfl rfl (IntWalk.i64_in _ (by omega))) ?_
  go_frame
  refine ls_ex (some 23) (.int .i64 M2) rfl rfl (exec_mul _ _ _ _ rfl n (n + 1) M2 rfl rfl HM2.out) ?_
  go_frame
  refine ls_ex (some 24) (.int .i64 S) rfl rfl (exec_quo _ _ _ _ rfl M2 2 S rfl rfl (by decide) HSq.out) ?_
  go_frame
  refine ls_ex (some 6) (.int .i64 S) rfl rfl (exec_assign _ rfl (.int .i64 S) rfl) ?_
  go_frame
  refine wpList_nil ?_
  go_upto_region 4 with (fail)
  refine wp_region_lit ?_
  refine ls_ex (some 25) (.int .i64 p) rfl rfl (exec_move _ rfl (.int .i64 p) rfl) ?_
  go_frame
  refine ls_ex (some 26) (.int .i64 S) rfl rfl (exec_move _ rfl (.int .i64 S) rfl) ?_
  go_frame
  refine ls_ex (some 27) (.int .i64 S) rfl rfl (exec_move _ rfl (.int .i64 S) rfl) ?_
  go_frame
  refine ls_ex (some 28) (.int .i64 S) rfl rfl (exec_move _ rfl (.int .i64 S) rfl) ?_
  go_frame
  refine ls_op rfl (fun K' hK' => ?_)
  have lz16 := hB.size
  have lz17 := hz5.lt
  refine wp_call4 (some 29) rfl 41 _ _ _ _ _ rfl (fun args w => by kernel_rfl) _ _ _ _ rfl rfl rfl rfl _ (l05Empty_c p S S S _ hS9 hS9 hS9) (fun e Wz14 h => ?_)
  obtain ⟨g, rfl, hg, hL, bz15⟩ := h
  replace hB := below_after hB bz15
  replace hz5 := hz5.after bz15
  rw [HNe.out] at hL ⊢
  clear bz15
  refine ⟨_, rfl, ?_⟩
  refine hK' _ _ ?_
  clear hK' K'
  go_frame
  refine ls_op rfl (fun K' hK' => ?_)
  have lz18 := hB.size
  have lz19 := hz5.lt
  have lz20 := hL.lt
  refine wp_new (some 7) rfl (al_impl_Tensor rfl) (fun Wz21 nnz22 => ?_)
  have bz23 := nnz22.below (Below.refl _ _) (Nat.le_refl _)
  replace hB := below_after hB bz23
  replace hz5 := hz5.after bz23
  replace hL := hL.after bz23
  have hz24 : At Wz21 Wz14.heap.size (.cells #[.int .i64 0, .int .i64 0, .int .i64 0, .int .i64 0, .slice none 0 0] 31 (0, 0)) := nnz22.at_
  refine hK' _ _ ?_
  clear hK' K' nnz22 bz23
  go_frame
  refine ls_op rfl (fun K' hK' => ?_)
  refine wp_store_all 31 _ _ rfl rfl Wz14.heap.size rfl #[.int .i64 p, .int .i64 S, .int .i64 S, .int .i64 S, .slice (some ⟨g, 0, none⟩) N N] rfl _ _ hz24 5 (by kernel_rfl) rfl rfl (one5 _ _ _ _ _ _ _) (fun Wz25 pz26 => ?_)
  replace hB := pz26.below hB (by omega)
  replace hz5 := pz26.other hz5 (by omega)
  replace hL := pz26.other hL (by omega)
  replace hz24 : At Wz25 Wz14.heap.size (.cells #[.int .i64 p, .int .i64 S, .int .i64 S, .int .i64 S, .slice (some ⟨g, 0, none⟩) N N] 31 (0, 0)) := pz26.at_
  refine hK' _ _ ?_
  clear hK' K' pz26
  refine wpList_nil ?_
  go_upto_region 5 with (fail)
  refine wp_region_lit ?_
  refine ls_ex (some 8) (.int .i64 0) rfl rfl (exec_assign _ rfl (.int .i64 0) rfl) ?_
  go_frame
  refine wpList_nil ?_
  go_wp2_with fail
  go_loopw [8] (fun s8 wr => ∃ a : Nat, a ≤ n ∧ s8 = .int .i64 a ∧ Below w.heap.size w wr ∧ At wr w.heap.size (.cells #[.int .i64 0, .int .i64 0, .int .i64 0, .int .i64 0, .slice none 0 0] 31 (0, 0)) ∧ At wr Wz14.heap.size (.cells #[.int .i64 p, .int .i64 S, .int .i64 S, .int .i64 S, .slice (some ⟨g, 0, none⟩) N N] 31 (0, 0)) ∧ At wr g (.cells (iar (trP n a a a)) 2 (0, 0))) (fun s8 _ => n - (intOf s8).toNat)
  case atStart => exact ⟨0, by omega, rfl, hB, hz5, hz24, by rw [HZ.out]; exact hL⟩
  case round =>
    clear hB hz5 hL hz24
    obtain ⟨a, ha, rfl, hB, h1, h2, hL⟩ := hrel
    by_cases hlt : a < n
    · go_upto_region 6 with (fail)
      refine wp_region_lit ?_
      refine ls_ex (some 30) (.int .i64 a) rfl rfl (exec_move _ rfl (.int .i64 a) rfl) ?_
      go_frame
      refine ls_ex (some 31) (.int .i64 n) rfl rfl (exec_move _ rfl (.int .i64 n) rfl) ?_
      go_frame
      refine ls_ex (some 32) (.bool true) rfl rfl (exec_lss _ _ _ _ rfl a n rfl rfl true (decide_eq_true (by omega))) ?_
      go_frame
      refine wpList_nil ?_
      go_upto_region 8 with (fail)
      refine wp_region_lit ?_
      refine ls_ex (some 35) (.int .i64 a) rfl rfl (exec_move _ rfl (.int .i64 a) rfl) ?_
      go_frame
      refine ls_ex (some 9) (.int .i64 a) rfl rfl (exec_assign _ rfl (.int .i64 a) rfl) ?_
      go_frame
      refine wpList_nil ?_
      go_wp2_with fail
      obtain ⟨we, rfl⟩ : ∃ x : World, x = wr := ⟨_, rfl⟩
      go_loopw [9] (fun s9 wr => ∃ b : Nat, a ≤ b ∧ b ≤ n ∧ s9 = .int .i64 b ∧ Below w.heap.size w wr ∧ At wr w.heap.size (.cells #[.int .i64 0, .int .i64 0, .int .i64 0, .int .i64 0, .slice none 0 0] 31 (0, 0)) ∧ At wr Wz14.heap.size (.cells #[.int .i64 p, .int .i64 S, .int .i64 S, .int .i64 S, .slice (some ⟨g, 0, none⟩) N N] 31 (0, 0)) ∧ At wr g (.cells (iar (trP n a b b)) 2 (0, 0))) (fun s9 _ => n - (intOf s9).toNat)
      case atStart => exact ⟨a, by omega, by omega, rfl, hB, h1, h2, hL⟩
      case round =>
        clear hB h1 h2 hL
        obtain ⟨b, hab, hb, rfl, hB, h1, h2, hL⟩ := hrel
        by_cases hlt2 : b < n
        · go_upto_region 9 with (fail)
          refine wp_region_lit ?_
          refine ls_ex (some 36) (.int .i64 b) rfl rfl (exec_move _ rfl (.int .i64 b) rfl) ?_
          go_frame
          refine ls_ex (some 37) (.int .i64 n) rfl rfl (exec_move _ rfl (.int .i64 n) rfl) ?_
          go_frame
          refine ls_ex (some 38) (.bool true) rfl rfl (exec_lss _ _ _ _ rfl b n rfl rfl true (decide_eq_true (by omega))) ?_
          go_frame
          refine wpList_nil ?_
          go_upto_region 11 with (fail)
          refine wp_region_lit ?_
          refine ls_ex (some 41) (.int .i64 b) rfl rfl (exec_move _ rfl (.int .i64 b) rfl) ?_
          go_frame
          refine ls_ex (some 10) (.int .i64 b) rfl rfl (exec_assign _ rfl (.int .i64 b) rfl) ?_
          go_frame
          refine wpList_nil ?_
          go_wp2_with fail
          obtain ⟨wv, rfl⟩ : ∃ x : World, x = wr := ⟨_, rfl⟩
          go_loopw [10] (fun s10 wr => ∃ c : Nat, b ≤ c ∧ c ≤ n ∧ s10 = .int .i64 c ∧ Below w.heap.size w wr ∧ At wr w.heap.size (.cells #[.int .i64 0, .int .i64 0, .int .i64 0, .int .i64 0, .slice none 0 0] 31 (0, 0)) ∧ At wr Wz14.heap.size (.cells #[.int .i64 p, .int .i64 S, .int .i64 S, .int .i64 S, .slice (some ⟨g, 0, none⟩) N N] 31 (0, 0)) ∧ At wr g (.cells (iar (trP n a b c)) 2 (0, 0))) (fun s10 _ => n - (intOf s10).toNat)
          case atStart => exact ⟨b, by omega, by omega, rfl, hB, h1, h2, hL⟩
          case round =>
            clear hB h1 h2 hL
            obtain ⟨c, hbc, hc, rfl, hB, h1, h2, hL⟩ := hrel
            by_cases hlt3 : c < n
            · have hdl := triD_lt n hn4 a (by omega) b (by omega) c hlt3 hab hbc
              have hst := trP_step hn4 hab hbc hlt3
              have HLen := Lib.hid (trP_len n a b c)
              rw [HNe2.out] at HLen hdl
              have hD0 : triD n a b c = (triPl n a b * S + triPl n b c) * S + triPl n a c := by rw [← HS.out]; rfl
              obtain ⟨P1, hP1⟩ : ∃ z9 : Nat, triPl n a b = z9 := ⟨_, rfl⟩
              obtain ⟨P2, hP2⟩ : ∃ z9 : Nat, triPl n b c = z9 := ⟨_, rfl⟩
              obtain ⟨P3, hP3⟩ : ∃ z9 : Nat, triPl n a c = z9 := ⟨_, rfl⟩
              have HP1 := Lib.hid hP1
              have HP2 := Lib.hid hP2
              have HP3 := Lib.hid hP3
              rw [hP1, hP2, hP3] at hD0
              obtain ⟨D, hD⟩ : ∃ z9 : Nat, triD n a b c = z9 := ⟨_, rfl⟩
              rw [hD] at hD0 hdl hst
              obtain ⟨D1, hD1⟩ : ∃ z9 : Nat, P1 * S = z9 := ⟨_, rfl⟩
              obtain ⟨D2, hD2⟩ : ∃ z9 : Nat, D1 + P2 = z9 := ⟨_, rfl⟩
              obtain ⟨D3, hD3⟩ : ∃ z9 : Nat, D2 * S = z9 := ⟨_, rfl⟩
              rw [hD1, hD2, hD3] at hD0
              have m2 : D2 ≤ D3 := by rw [← hD3]; exact Nat.le_mul_of_pos_right _ hS1
              have hDl := hdl
              have HD1 : Hid (IntKind.i64.wrap ((P1 : Int) * (S : Int)) = (D1 : Int)) := Lib.hid (by rw [← hD1, Int.natCast_mul]; exact IntWalk.i64_in _ (by omega))
              have HD2 : Hid (IntKind.i64.wrap ((D1 : Int) + (P2 : Int)) = (D2 : Int)) := Lib.hid (by rw [← hD2, Int.natCast_add]; exact IntWalk.i64_in _ (by omega))
              have HD3 : Hid (IntKind.i64.wrap ((D2 : Int) * (S : Int)) = (D3 : Int)) := Lib.hid (by rw [← hD3, Int.natCast_mul]; exact IntWalk.i64_in _ (by omega))
              have HD : Hid (IntKind.i64.wrap ((D3 : Int) + (P3 : Int)) = (D : Int)) := Lib.hid (by rw [hD0, Int.natCast_add]; exact IntWalk.i64_in _ (by omega))
              have HSet := Lib.hid hst
              have HDN := Lib.hid hdl
              clear hst hD0 hD hD1 hD2 hD3 hP1 hP2 hP3 hdl m2
              go_upto_region 12 with (fail)
              refine wp_region_lit ?_
              refine ls_ex (some 42) (.int .i64 c) rfl rfl (exec_move _ rfl (.int .i64 c) rfl) ?_
              go_frame
              refine ls_ex (some 43) (.int .i64 n) rfl rfl (exec_move _ rfl (.int .i64 n) rfl) ?_
              go_frame
              refine ls_ex (some 44) (.bool true) rfl rfl (exec_lss _ _ _ _ rfl c n rfl rfl true (decide_eq_true (by omega))) ?_
              go_frame
              refine wpList_nil ?_
              go_upto_region 14 with (fail)
              refine wp_region_y (zs := [21]) (S := fun w' => Below w.heap.size w w' ∧ At w' Wz14.heap.size (.cells #[.int .i64 p, .int .i64 S, .int .i64 S, .int .i64 S, .slice (some ⟨g, 0, none⟩) N N] 31 (0, 0))) (S2 := fun w' => True) (by kernel_rfl) ?_
              change wpAnyY _ _ _ _ _ _ _ _ _ _ (World.drew _)
              generalize hwdz27 : World.drew _ = wdz27
              replace hB : Below w.heap.size w wdz27 := by rw [← hwdz27]; exact hB.drew
              replace h1 : At wdz27 w.heap.size (.cells #[.int .i64 0, .int .i64 0, .int .i64 0, .int .i64 0, .slice none 0 0] 31 (0, 0)) := by rw [← hwdz27]; exact h1
              replace h2 : At wdz27 Wz14.heap.size (.cells #[.int .i64 p, .int .i64 S, .int .i64 S, .int .i64 S, .slice (some ⟨g, 0, none⟩) N N] 31 (0, 0)) := by rw [← hwdz27]; exact h2
              replace hL : At wdz27 g (.cells (iar (trP n a b c)) 2 (0, 0)) := by rw [← hwdz27]; exact hL
              clear hwdz27
              refine y_yield 0 (some 47) (.pointer (some ⟨Wz14.heap.size, 4, none⟩)) rfl (by kernel_rfl) (by kernel_rfl) (by kernel_rfl) (fun _ _ _ h => h) rfl rfl ⟨hB, h2⟩ (fun w' h' => exec_fieldAddr 31 _ 4 rfl _ (by kernel_rfl)) ?_
              go_frame
              refine y_yield 1 (some 48) (.slice (some ⟨g, 0, none⟩) N N) rfl (by kernel_rfl) (by kernel_rfl) (by kernel_rfl) (fun _ _ _ h => h) rfl rfl ⟨hB, h2⟩ (fun w' h' => exec_load_one 22 _ rfl Wz14.heap.size 4 rfl (.slice (some ⟨g, 0, none⟩) N N) _ Try.underlying22 rfl (h'.2.at_ 4)) ?_
              go_frame
              refine y_yield 2 (some 49) (.int .i64 n) rfl (by kernel_rfl) (by kernel_rfl) (by kernel_rfl) (fun _ _ _ h => h) rfl rfl ⟨hB, h2⟩ (fun w' h' => exec_move _ rfl (.int .i64 n) rfl) ?_
              go_frame
              refine y_yield 3 (some 50) (.int .i64 a) rfl (by kernel_rfl) (by kernel_rfl) (by kernel_rfl) (fun _ _ _ h => h) rfl rfl ⟨hB, h2⟩ (fun w' h' => exec_move _ rfl (.int .i64 a) rfl) ?_
              go_frame
              refine y_yield 4 (some 51) (.int .i64 b) rfl (by kernel_rfl) (by kernel_rfl) (by kernel_rfl) (fun _ _ _ h => h) rfl rfl ⟨hB, h2⟩ (fun w' h' => exec_move _ rfl (.int .i64 b) rfl) ?_
              go_frame
              refine y_yield 6 (some 53) (.int .i64 S) rfl (by kernel_rfl) (by kernel_rfl) (by kernel_rfl) (fun _ _ _ h => h) rfl rfl ⟨hB, h2⟩ (fun w' h' => exec_move _ rfl (.int .i64 S) rfl) ?_
              go_frame
              refine y_yield 8 (some 55) (.int .i64 n) rfl (by kernel_rfl) (by kernel_rfl) (by kernel_rfl) (fun _ _ _ h => h) rfl rfl ⟨hB, h2⟩ (fun w' h' => exec_move _ rfl (.int .i64 n) rfl) ?_
              go_frame
              refine y_yield 9 (some 56) (.int .i64 b) rfl (by kernel_rfl) (by kernel_rfl) (by kernel_rfl) (fun _ _ _ h => h) rfl rfl ⟨hB, h2⟩ (fun w' h' => exec_move _ rfl (.int .i64 b) rfl) ?_
              go_frame
              refine y_yield 10 (some 57) (.int .i64 c) rfl (by kernel_rfl) (by kernel_rfl) (by kernel_rfl) (fun _ _ _ h => h) rfl rfl ⟨hB, h2⟩ (fun w' h' => exec_move _ rfl (.int .i64 c) rfl) ?_
              go_frame
              refine y_yield 13 (some 60) (.int .i64 S) rfl (by kernel_rfl) (by kernel_rfl) (by kernel_rfl) (fun _ _ _ h => h) rfl rfl ⟨hB, h2⟩ (fun w' h' => exec_move _ rfl (.int .i64 S) rfl) ?_
              go_frame
              refine y_yield 15 (some 62) (.int .i64 n) rfl (by kernel_rfl) (by kernel_rfl) (by kernel_rfl) (fun _ _ _ h => h) rfl rfl ⟨hB, h2⟩ (fun w' h' => exec_move _ rfl (.int .i64 n) rfl) ?_
              go_frame
              refine y_yield 16 (some 63) (.int .i64 a) rfl (by kernel_rfl) (by kernel_rfl) (by kernel_rfl) (fun _ _ _ h => h) rfl rfl ⟨hB, h2⟩ (fun w' h' => exec_move _ rfl (.int .i64 a) rfl) ?_
              go_frame
              refine y_yield 17 (some 64) (.int .i64 c) rfl (by kernel_rfl) (by kernel_rfl) (by kernel_rfl) (fun _ _ _ h => h) rfl rfl ⟨hB, h2⟩ (fun w' h' => exec_move _ rfl (.int .i64 c) rfl) ?_
              go_frame
              refine y_oper 5 (by kernel_rfl) rfl rfl (fun K' hK' => ?_)
              have lz30 := hB.size
              have lz31 := h1.lt
              have lz32 := h2.lt
              have lz33 := hL.lt
              refine wp_call3 (some 52) rfl 53 _ _ _ _ rfl (fun args w => by kernel_rfl) _ _ _ rfl rfl rfl _ (l09Place_c n a b _ hn4 (by omega) (by omega)) (fun e Wz28 h => ?_)
              obtain ⟨rfl, rfl⟩ := h
              rw [HP1.out]
              refine ⟨_, rfl, ?_⟩
              refine hK' _ _ ⟨hB, h2⟩ (fun _ => trivial) ?_
              clear hK' K'
              go_frame
              refine y_yield 7 (some 54) (.int .i64 D1) rfl (by kernel_rfl) (by kernel_rfl) (by kernel_rfl) (fun _ _ _ h => h) rfl rfl ⟨hB, h2⟩ (fun w' h' => exec_mul _ _ _ _ rfl P1 S D1 rfl rfl HD1.out) ?_
              go_frame
              refine y_oper 11 (by kernel_rfl) rfl rfl (fun K' hK' => ?_)
              have lz36 := hB.size
              have lz37 := h1.lt
              have lz38 := h2.lt
              have lz39 := hL.lt
              refine wp_call3 (some 58) rfl 53 _ _ _ _ rfl (fun args w => by kernel_rfl) _ _ _ rfl rfl rfl _ (l09Place_c n b c _ hn4 (by omega) (by omega)) (fun e Wz34 h => ?_)
              obtain ⟨rfl, rfl⟩ := h
              rw [HP2.out]
              refine ⟨_, rfl, ?_⟩
              refine hK' _ _ ⟨hB, h2⟩ (fun _ => trivial) ?_
              clear hK' K'
              go_frame
              refine y_yield 12 (some 59) (.int .i64 D2) rfl (by kernel_rfl) (by kernel_rfl) (by kernel_rfl) (fun _ _ _ h => h) rfl rfl ⟨hB, h2⟩ (fun w' h' => exec_add _ _ _ _ rfl D1 P2 D2 rfl rfl HD2.out) ?_
              go_frame
              refine y_yield 14 (some 61) (.int .i64 D3) rfl (by kernel_rfl) (by kernel_rfl) (by kernel_rfl) (fun _ _ _ h => h) rfl rfl ⟨hB, h2⟩ (fun w' h' => exec_mul _ _ _ _ rfl D2 S D3 rfl rfl HD3.out) ?_
              go_frame
              refine y_oper 18 (by kernel_rfl) rfl rfl (fun K' hK' => ?_)
              have lz42 := hB.size
              have lz43 := h1.lt
              have lz44 := h2.lt
              have lz45 := hL.lt
              refine wp_call3 (some 65) rfl 53 _ _ _ _ rfl (fun args w => by kernel_rfl) _ _ _ rfl rfl rfl _ (l09Place_c n a c _ hn4 (by omega) (by omega)) (fun e Wz40 h => ?_)
              obtain ⟨rfl, rfl⟩ := h
              rw [HP3.out]
              refine ⟨_, rfl, ?_⟩
              refine hK' _ _ ⟨hB, h2⟩ (fun _ => trivial) ?_
              clear hK' K'
              go_frame
              refine y_yield 19 (some 66) (.int .i64 D) rfl (by kernel_rfl) (by kernel_rfl) (by kernel_rfl) (fun _ _ _ h => h) rfl rfl ⟨hB, h2⟩ (fun w' h' => exec_add _ _ _ _ rfl D3 P3 D rfl rfl HD.out) ?_
              go_frame
              refine y_yield 20 (some 67) (.pointer (some ⟨g, D * 1, none⟩)) rfl (by kernel_rfl) (by kernel_rfl) (by kernel_rfl) (fun _ _ _ h => h) rfl rfl ⟨hB, h2⟩ (fun w' h' => exec_ix0 _ 2 _ _ rfl g N N D 1 rfl rfl Try.underlying22 (by kernel_rfl) HDN.out) ?_
              go_frame
              refine y_oper 21 (by kernel_rfl) rfl rfl (fun K' hK' => ?_)
              refine wp_store_one 2 _ _ rfl rfl g (D * 1) rfl (.int .i64 1) rfl rfl rfl _ _ hL (by kernel_rfl) (by rw [iar_size, HLen.out]; omega) (fun Wz46 pz47 => ?_)
              replace hB := pz47.below hB (by omega)
              replace h1 := pz47.other h1 (by omega)
              replace h2 := pz47.other h2 (by omega)
              replace hL : At Wz46 g (.cells (iar (trP n a b (c + 1))) 2 (0, 0)) := by have h9 := pz47.at_; rwa [Nat.mul_one, iar_set, HSet.out] at h9
              refine hK' _ _ ⟨hB, h2⟩ (fun h => absurd (by decide) h) ?_
              clear hK' K' pz47
              refine y_done (by kernel_rfl) ?_ _
              go_upto_region 13 with (fail)
              refine wp_region_lit ?_
              refine ls_ex (some 45) (.int .i64 c) rfl rfl (exec_move _ rfl (.int .i64 c) rfl) ?_
              go_frame
              refine ls_ex (some 46) (.int .i64 (c + 1)) rfl rfl (exec_add _ _ _ _ rfl c 1 (c + 1) rfl rfl (IntWalk.i64_in _ (by omega))) ?_
              go_frame
              refine ls_ex (some 10) (.int .i64 (c + 1)) rfl rfl (exec_assign _ rfl (.int .i64 (c + 1)) rfl) ?_
              go_frame
              refine wpList_nil ?_
              go_wp2_with fail
              go_roundw
              case rel => exact ⟨c + 1, by omega, by omega, by go_num, hB, h1, h2, hL⟩
              case measure => simp [intOf]; omega
            · have HE : Hid (trP n a b c = trP n a (b + 1) (b + 1)) := Lib.hid (by rw [show c = n by omega]; unfold trP; rw [tAll_c n hn4 a (by omega) b hlt2 hab])
              rw [HE.out] at hL
              go_upto_region 12 with (fail)
              refine wp_region_lit ?_
              refine ls_ex (some 42) (.int .i64 c) rfl rfl (exec_move _ rfl (.int .i64 c) rfl) ?_
              go_frame
              refine ls_ex (some 43) (.int .i64 n) rfl rfl (exec_move _ rfl (.int .i64 n) rfl) ?_
              go_frame
              refine ls_ex (some 44) (.bool false) rfl rfl (exec_lss _ _ _ _ rfl c n rfl rfl false (decide_eq_false (by omega))) ?_
              go_frame
              refine wpList_nil ?_
              go_upto_region 10 with (fail)
              refine wp_region_lit ?_
              refine ls_ex (some 39) (.int .i64 b) rfl rfl (exec_move _ rfl (.int .i64 b) rfl) ?_
              go_frame
              refine ls_ex (some 40) (.int .i64 (b + 1)) rfl rfl (exec_add _ _ _ _ rfl b 1 (b + 1) rfl rfl (IntWalk.i64_in _ (by omega))) ?_
              go_frame
              refine ls_ex (some 9) (.int .i64 (b + 1)) rfl rfl (exec_assign _ rfl (.int .i64 (b + 1)) rfl) ?_
              go_frame
              refine wpList_nil ?_
              go_wp2_with fail
              go_roundw
              case rel => exact ⟨b + 1, by omega, by omega, by go_num, hB, h1, h2, hL⟩
              case measure => simp [intOf]; omega
        · have HE : Hid (trP n a b b = trP n (a + 1) (a + 1) (a + 1)) := Lib.hid (by rw [show b = n by omega]; unfold trP; rw [tAll_b n hn4 a hlt])
          rw [HE.out] at hL
          go_upto_region 9 with (fail)
          refine wp_region_lit ?_
          refine ls_ex (some 36) (.int .i64 b) rfl rfl (exec_move _ rfl (.int .i64 b) rfl) ?_
          go_frame
          refine ls_ex (some 37) (.int .i64 n) rfl rfl (exec_move _ rfl (.int .i64 n) rfl) ?_
          go_frame
          refine ls_ex (some 38) (.bool false) rfl rfl (exec_lss _ _ _ _ rfl b n rfl rfl false (decide_eq_false (by omega))) ?_
          go_frame
          refine wpList_nil ?_
          go_upto_region 7 with (fail)
          refine wp_region_lit ?_
          refine ls_ex (some 33) (.int .i64 a) rfl rfl (exec_move _ rfl (.int .i64 a) rfl) ?_
          go_frame
          refine ls_ex (some 34) (.int .i64 (a + 1)) rfl rfl (exec_add _ _ _ _ rfl a 1 (a + 1) rfl rfl (IntWalk.i64_in _ (by omega))) ?_
          go_frame
          refine ls_ex (some 8) (.int .i64 (a + 1)) rfl rfl (exec_assign _ rfl (.int .i64 (a + 1)) rfl) ?_
          go_frame
          refine wpList_nil ?_
          go_wp2_with fail
          go_roundw
          case rel => exact ⟨a + 1, by omega, by go_num, hB, h1, h2, hL⟩
          case measure => simp [intOf]; omega
    · have HE : Hid (trP n a a a = triL p n) := Lib.hid (by rw [show a = n by omega]; exact triL_end hp5.1 hn4)
      rw [HE.out] at hL
      go_upto_region 6 with (fail)
      refine wp_region_lit ?_
      refine ls_ex (some 30) (.int .i64 a) rfl rfl (exec_move _ rfl (.int .i64 a) rfl) ?_
      go_frame
      refine ls_ex (some 31) (.int .i64 n) rfl rfl (exec_move _ rfl (.int .i64 n) rfl) ?_
      go_frame
      refine ls_ex (some 32) (.bool false) rfl rfl (exec_lss _ _ _ _ rfl a n rfl rfl false (decide_eq_false (by omega))) ?_
      go_frame
      refine wpList_nil ?_
      go_upto_region 15 with (fail)
      refine wp_region_lit ?_
      refine ls_ex (some 68) (.agg #[.int .i64 p, .int .i64 S, .int .i64 S, .int .i64 S, .slice (some ⟨g, 0, none⟩) N N]) rfl rfl (exec_load_all 31 _ rfl Wz14.heap.size rfl _ _ _ h2 Try.underlying31 rfl 5 (by kernel_rfl) rfl) ?_
      go_frame
      refine ls_op rfl (fun K' hK' => ?_)
      refine wp_store_all 31 _ _ rfl rfl w.heap.size rfl #[.int .i64 p, .int .i64 S, .int .i64 S, .int .i64 S, .slice (some ⟨g, 0, none⟩) N N] rfl _ _ h1 5 (by kernel_rfl) rfl rfl (one5 _ _ _ _ _ _ _) (fun Wz48 pz49 => ?_)
      replace hB := pz49.below hB (by omega)
      replace h2 := pz49.other h2 (by omega)
      replace hL := pz49.other hL (by omega)
      replace h1 : At Wz48 w.heap.size (.cells #[.int .i64 p, .int .i64 S, .int .i64 S, .int .i64 S, .slice (some ⟨g, 0, none⟩) N N] 31 (0, 0)) := pz49.at_
      refine hK' _ _ ?_
      clear hK' K' pz49
      refine ls_ex (some 5) (.int .i64 0) rfl rfl (exec_assign _ rfl (.int .i64 0) rfl) ?_
      go_frame
      refine wpList_nil ?_
      go_wp2_with fail
      refine bodyPost_ret (results_at2 rfl _ _ w.heap.size _ _ _ rfl _ rfl h1 Try.underlying31 rfl 5 (by kernel_rfl) rfl) rfl ?_
      unfold ResT tZ tL
      rw [HC.out, HS.out]
      exact ⟨_, rfl, (HOw.out _ _ hL).mono (by omega), hB⟩
theorem specTriangularTensor_c (p n : Int) (w : World) : Calls Try.prog 25 #[.int .i64 p, .int .i64 n] w (ResT w (tZ (triCode p n) p) (tZ (triCode p n) (triS n.toNat : Nat)) (tZ (triCode p n) (triS n.toNat : Nat)) (tZ (triCode p n) (triS n.toNat : Nat)) (tL (triCode p n) (triL p n.toNat)) (triCode p n)) := by
  cases hp : primeB p with
  | false => exact specTri_a p n w hp
  | true =>
    cases hn : (decide (1 ≤ n) && decide (n ≤ 3)) with
    | false => exact specTri_b p n w hp hn
    | true =>
      have hn2 := hn
      simp only [Bool.and_eq_true, decide_eq_true_eq] at hn2
      obtain ⟨a, rfl⟩ := Int.eq_ofNat_of_zero_le (show 0 ≤ n by omega)
      exact specTri_y p a w hp hn
set_option maxHeartbeats 4000000 in
theorem implTri_a (p n : Int) (w : World) (hp : primeB p = false) :
    Calls Try.prog 26 #[.int .i64 p, .int .i64 n] w (ResT w (tZ (triCode p n) p) (tZ (triCode p n) (triS n.toNat : Nat)) (tZ (triCode p n) (triS n.toNat : Nat)) (tZ (triCode p n) (triS n.toNat : Nat)) (tL (triCode p n) (triL p n.toNat)) (triCode p n)) := by
  have hB := Below.refl w.heap.size w
  have HC : Hid (triCode p n = 2) := Lib.hid (by unfold triCode; rw [hp]; rfl)
  have HP := Lib.hid hp
  clear hp
  go_enter Try.func26, Try.ntmps26
  go_upto_region 0 with (fail)
  refine wp_region_lit ?_
  refine ls_op rfl (fun K' hK' => ?_)
  have lz1 := hB.size
  refine wp_new (some 4) rfl (al_impl_Tensor rfl) (fun Wz2 nnz3 => ?_)
  have bz4 := nnz3.below (Below.refl _ _) (Nat.le_refl _)
  replace hB := below_after hB bz4
  have hz5 : At Wz2 w.heap.size (.cells #[.int .i64 0, .int .i64 0, .int .i64 0, .int .i64 0, .slice none 0 0] 31 (0, 0)) := nnz3.at_
  refine hK' _ _ ?_
  clear hK' K' nnz3 bz4
  go_frame
  refine ls_ex (some 5) (.int .i64 0) rfl rfl (exec_assign _ rfl (.int .i64 0) rfl) ?_
  go_frame
  refine wpList_nil ?_
  go_upto_region 1 with (fail)
  refine wp_region_lit ?_
  refine ls_ex (some 10) (.int .i64 p) rfl rfl (exec_move _ rfl (.int .i64 p) rfl) ?_
  go_frame
  refine ls_op rfl (fun K' hK' => ?_)
  have lz8 := hB.size
  have lz9 := hz5.lt
  refine wp_call1 (some 11) rfl 43 _ _ rfl (fun args w => by kernel_rfl) _ rfl _ (isPrime_c p _) (fun e Wz6 h => ?_)
  obtain ⟨rfl, rfl⟩ := h
  rw [HP.out]
  refine ⟨_, rfl, ?_⟩
  refine hK' _ _ ?_
  clear hK' K'
  go_frame
  refine ls_ex (some 12) (.bool true) rfl rfl (exec_not _ _ rfl false rfl) ?_
  go_frame
  refine ls_ex (some 13) (.bool true) rfl rfl (exec_move _ rfl (.bool true) rfl) ?_
  go_frame
  refine ls_skip_g (some 14) rfl rfl ?_
  go_frame
  refine ls_skip_g (some 15) rfl rfl ?_
  go_frame
  refine ls_skip_g (some 16) rfl rfl ?_
  go_frame
  refine ls_ex (some 17) (.bool true) rfl rfl (exec_pick _ _ _ rfl true rfl (.bool true) rfl) ?_
  go_frame
  refine wpList_nil ?_
  go_upto_region 2 with (fail)
  refine wp_region_lit ?_
  refine ls_ex (some 18) (.agg #[.int .i64 0, .int .i64 0, .int .i64 0, .int .i64 0, .slice none 0 0]) rfl rfl (exec_build_nil 31 rfl _ (by kernel_rfl)) ?_
  go_frame
  refine ls_op rfl (fun K' hK' => ?_)
  refine wp_store_all 31 _ _ rfl rfl w.heap.size rfl #[.int .i64 0, .int .i64 0, .int .i64 0, .int .i64 0, .slice none 0 0] rfl _ _ hz5 5 (by kernel_rfl) rfl rfl (one5 _ _ _ _ _ _ _) (fun Wz10 pz11 => ?_)
  replace hB := pz11.below hB (by omega)
  replace hz5 : At Wz10 w.heap.size (.cells #[.int .i64 0, .int .i64 0, .int .i64 0, .int .i64 0, .slice none 0 0] 31 (0, 0)) := pz11.at_
  refine hK' _ _ ?_
  clear hK' K' pz11
  refine ls_ex (some 5) (.int .i64 2) rfl rfl (exec_assign _ rfl (.int .i64 2) rfl) ?_
  go_frame
  refine wpList_nil ?_
  go_wp2_with fail
  refine bodyPost_ret (results_at2 rfl _ _ w.heap.size _ _ _ rfl _ rfl hz5 Try.underlying31 rfl 5 (by kernel_rfl) rfl) rfl ?_
  unfold ResT tZ tL
  rw [HC.out]
  exact ⟨_, rfl, OwnI.nil _ _, hB⟩
set_option maxHeartbeats 4000000 in
theorem implTri_b (p n : Int) (w : World) (hp : primeB p = true) (hn : (decide (1 ≤ n) && decide (n ≤ 3)) = false) :
    Calls Try.prog 26 #[.int .i64 p, .int .i64 n] w (ResT w (tZ (triCode p n) p) (tZ (triCode p n) (triS n.toNat : Nat)) (tZ (triCode p n) (triS n.toNat : Nat)) (tZ (triCode p n) (triS n.toNat : Nat)) (tL (triCode p n) (triL p n.toNat)) (triCode p n)) := by
  have hB := Below.refl w.heap.size w
  have HC : Hid (triCode p n = 2) := Lib.hid (by unfold triCode; rw [hp, hn]; rfl)
  have HP := Lib.hid hp
  have HN := Lib.hid hn
  clear hp hn
  go_enter Try.func26, Try.ntmps26
  go_upto_region 0 with (fail)
  refine wp_region_lit ?_
  refine ls_op rfl (fun K' hK' => ?_)
  have lz1 := hB.size
  refine wp_new (some 4) rfl (al_impl_Tensor rfl) (fun Wz2 nnz3 => ?_)
  have bz4 := nnz3.below (Below.refl _ _) (Nat.le_refl _)
  replace hB := below_after hB bz4
  have hz5 : At Wz2 w.heap.size (.cells #[.int .i64 0, .int .i64 0, .int .i64 0, .int .i64 0, .slice none 0 0] 31 (0, 0)) := nnz3.at_
  refine hK' _ _ ?_
  clear hK' K' nnz3 bz4
  go_frame
  refine ls_ex (some 5) (.int .i64 0) rfl rfl (exec_assign _ rfl (.int .i64 0) rfl) ?_
  go_frame
  refine wpList_nil ?_
  go_upto_region 1 with (fail)
  refine wp_region_lit ?_
  refine ls_ex (some 10) (.int .i64 p) rfl rfl (exec_move _ rfl (.int .i64 p) rfl) ?_
  go_frame
  refine ls_op rfl (fun K' hK' => ?_)
  have lz8 := hB.size
  have lz9 := hz5.lt
  refine wp_call1 (some 11) rfl 43 _ _ rfl (fun args w => by kernel_rfl) _ rfl _ (isPrime_c p _) (fun e Wz6 h => ?_)
  obtain ⟨rfl, rfl⟩ := h
  rw [HP.out]
  refine ⟨_, rfl, ?_⟩
  refine hK' _ _ ?_
  clear hK' K'
  go_frame
  refine ls_ex (some 12) (.bool false) rfl rfl (exec_not _ _ rfl true rfl) ?_
  go_frame
  refine ls_ex (some 13) (.bool false) rfl rfl (exec_move _ rfl (.bool false) rfl) ?_
  go_frame
  refine ls_ex_g (some 14) (.int .i64 n) rfl rfl (exec_move _ rfl (.int .i64 n) rfl) ?_
  go_frame
  refine ls_op_g rfl (fun K' hK' => ?_)
  have lz12 := hB.size
  have lz13 := hz5.lt
  refine wp_call3 (some 15) rfl 44 _ _ _ _ rfl (fun args w => by kernel_rfl) _ _ _ rfl rfl rfl _ (isBetweenT_c 1 n 3 _) (fun e Wz10 h => ?_)
  obtain ⟨rfl, rfl⟩ := h
  rw [HN.out]
  refine ⟨_, rfl, ?_⟩
  refine hK' _ _ ?_
  clear hK' K'
  go_frame
  refine ls_ex_g (some 16) (.bool true) rfl rfl (exec_not _ _ rfl false rfl) ?_
  go_frame
  refine ls_ex (some 17) (.bool true) rfl rfl (exec_pick _ _ _ rfl false rfl (.bool true) rfl) ?_
  go_frame
  refine wpList_nil ?_
  go_upto_region 2 with (fail)
  refine wp_region_lit ?_
  refine ls_ex (some 18) (.agg #[.int .i64 0, .int .i64 0, .int .i64 0, .int .i64 0, .slice none 0 0]) rfl rfl (exec_build_nil 31 rfl _ (by kernel_rfl)) ?_
  go_frame
  refine ls_op rfl (fun K' hK' => ?_)
  refine wp_store_all 31 _ _ rfl rfl w.heap.size rfl #[.int .i64 0, .int .i64 0, .int .i64 0, .int .i64 0, .slice none 0 0] rfl _ _ hz5 5 (by kernel_rfl) rfl rfl (one5 _ _ _ _ _ _ _) (fun Wz14 pz15 => ?_)
  replace hB := pz15.below hB (by omega)
  replace hz5 : At Wz14 w.heap.size (.cells #[.int .i64 0, .int .i64 0, .int .i64 0, .int .i64 0, .slice none 0 0] 31 (0, 0)) := pz15.at_
  refine hK' _ _ ?_
  clear hK' K' pz15
  refine ls_ex (some 5) (.int .i64 2) rfl rfl (exec_assign _ rfl (.int .i64 2) rfl) ?_
  go_frame
  refine wpList_nil ?_
  go_wp2_with fail
  refine bodyPost_ret (results_at2 rfl _ _ w.heap.size _ _ _ rfl _ rfl hz5 Try.underlying31 rfl 5 (by kernel_rfl) rfl) rfl ?_
  unfold ResT tZ tL
  rw [HC.out]
  exact ⟨_, rfl, OwnI.nil _ _, hB⟩
set_option maxHeartbeats 25600000 in
theorem implTri_y (p : Int) (n : Nat) (w : World) (hp : primeB p = true) (hn : (decide (1 ≤ (n : Int)) && decide ((n : Int) ≤ 3)) = true) :
    Calls Try.prog 26 #[.int .i64 p, .int .i64 n] w (ResT w (tZ (triCode p n) p) (tZ (triCode p n) (triS n : Nat)) (tZ (triCode p n) (triS n : Nat)) (tZ (triCode p n) (triS n : Nat)) (tL (triCode p n) (triL p n)) (triCode p n)) := by
  have hB := Below.refl w.heap.size w
  have hn3 : 1 ≤ n ∧ n ≤ 3 := by simp only [Bool.and_eq_true, decide_eq_true_eq] at hn; omega
  have hn4 : n < 4 := by omega
  have HC : Hid (triCode p n = 0) := Lib.hid (by unfold triCode; rw [hp, hn]; rfl)
  have hp5 := prime_le5 hp
  have hsb := triS_b n hn4
  obtain ⟨S, hS⟩ : ∃ S, triS n = S := ⟨_, rfl⟩
  rw [hS] at hsb
  have hS1 : 1 ≤ S := by have h3 : n = 1 ∨ n = 2 ∨ n = 3 := by omega
                         rcases h3 with rfl | rfl | rfl <;> omega
  have hS9 : S ≤ 9 := by omega
  have hNN := places_729 (n0 := S) (n1 := S) (n2 := S) hS9 hS9 hS9
  obtain ⟨N, hNe⟩ : ∃ N, S * S * S = N := ⟨_, rfl⟩
  rw [hNe] at hNN
  have HNe := Lib.hid hNe
  have HNe2 : Hid (triN n = N) := Lib.hid (by unfold triN; rw [hS, hNe])
  have HNl : Hid ((triL p n).length = N) := Lib.hid (by rw [triL_len, HNe2.out])
  have HS := Lib.hid hS
  have HTl : Hid (genL S S p (oneF (triB n)) (S * S * S) = triL p n) := Lib.hid (by unfold triL; rw [hS])
  have HSb : Hid (sideB S = true) := Lib.hid (by simp [sideB]; omega)
  have HEa : Hid ((entP n n n).length = S) := Lib.hid (by rw [ent_all n hn4, hS])
  have HE0 : Hid (entP n 0 0 = []) := Lib.hid (by simp [entP, entA])
  have HP := Lib.hid hp
  have HN := Lib.hid hn
  clear hp hn hS hNe hsb
  go_enter Try.func26, Try.ntmps26
  go_upto_region 0 with (fail)
  refine wp_region_lit ?_
  refine ls_op rfl (fun K' hK' => ?_)
  have lz1 := hB.size
  refine wp_new (some 4) rfl (al_impl_Tensor rfl) (fun Wz2 nnz3 => ?_)
  have bz4 := nnz3.below (Below.refl _ _) (Nat.le_refl _)
  replace hB := below_after hB bz4
  have hz5 : At Wz2 w.heap.size (.cells #[.int .i64 0, .int .i64 0, .int .i64 0, .int .i64 0, .slice none 0 0] 31 (0, 0)) := nnz3.at_
  refine hK' _ _ ?_
  clear hK' K' nnz3 bz4
  go_frame
  refine ls_ex (some 5) (.int .i64 0) rfl rfl (exec_assign _ rfl (.int .i64 0) rfl) ?_
  go_frame
  refine wpList_nil ?_
  go_upto_region 1 with (fail)
  refine wp_region_lit ?_
  refine ls_ex (some 10) (.int .i64 p) rfl rfl (exec_move _ rfl (.int .i64 p) rfl) ?_
  go_frame
  refine ls_op rfl (fun K' hK' => ?_)
  have lz8 := hB.size
  have lz9 := hz5.lt
  refine wp_call1 (some 11) rfl 43 _ _ rfl (fun args w => by kernel_rfl) _ rfl _ (isPrime_c p _) (fun e Wz6 h => ?_)
  obtain ⟨rfl, rfl⟩ := h
  rw [HP.out]
  refine ⟨_, rfl, ?_⟩
  refine hK' _ _ ?_
  clear hK' K'
  go_frame
  refine ls_ex (some 12) (.bool false) rfl rfl (exec_not _ _ rfl true rfl) ?_
  go_frame
  refine ls_ex (some 13) (.bool false) rfl rfl (exec_move _ rfl (.bool false) rfl) ?_
  go_frame
  refine ls_ex_g (some 14) (.int .i64 n) rfl rfl (exec_move _ rfl (.int .i64 n) rfl) ?_
  go_frame
  refine ls_op_g rfl (fun K' hK' => ?_)
  have lz12 := hB.size
  have lz13 := hz5.lt
  refine wp_call3 (some 15) rfl 44 _ _ _ _ rfl (fun args w => by kernel_rfl) _ _ _ rfl rfl rfl _ (isBetweenT_c 1 n 3 _) (fun e Wz10 h => ?_)
  obtain ⟨rfl, rfl⟩ := h
  rw [HN.out]
  refine ⟨_, rfl, ?_⟩
  refine hK' _ _ ?_
  clear hK' K'
  go_frame
  refine ls_ex_g (some 16) (.bool false) rfl rfl (exec_not _ _ rfl true rfl) ?_
  go_frame
  refine ls_ex (some 17) (.bool false) rfl rfl (exec_pick _ _ _ rfl false rfl (.bool false) rfl) ?_
  go_frame
  refine wpList_nil ?_
  go_upto_region 3 with (fail)
  refine wp_region_lit ?_
  refine ls_op rfl (fun K' hK' => ?_)
  have lz14 := hB.size
  have lz15 := hz5.lt
  refine wp_new (some 6) rfl (al___impl_entry rfl) (fun Wz16 nnz17 => ?_)
  have bz18 := nnz17.below (Below.refl _ _) (Nat.le_refl _)
  replace hB := below_after hB bz18
  replace hz5 := hz5.after bz18
  have hz19 : At Wz16 Wz2.heap.size (.cells #[.slice none 0 0] 72 (0, 0)) := nnz17.at_
  refine hK' _ _ ?_
  clear hK' K' nnz17 bz18
  go_frame
  refine wpList_nil ?_
  go_upto_region 4 with (fail)
  refine wp_region_lit ?_
  refine ls_ex (some 19) (.int .i64 n) rfl rfl (exec_move _ rfl (.int .i64 n) rfl) ?_
  go_frame
  refine ls_ex (some 20) (.int .i64 0) rfl rfl (exec_move _ rfl (.int .i64 0) rfl) ?_
  go_frame
  refine wpList_nil ?_
  go_wp2_with fail
  go_loopw [20] (fun s20 wr => ∃ (a : Nat) (v : Value), a ≤ n ∧ s20 = .int .i64 a ∧ Below w.heap.size w wr ∧ At wr w.heap.size (.cells #[.int .i64 0, .int .i64 0, .int .i64 0, .int .i64 0, .slice none 0 0] 31 (0, 0)) ∧ At wr Wz2.heap.size (.cells #[v] 72 (0, 0)) ∧ OwnK 74 2 wr w.heap.size v (entP n a a)) (fun s20 _ => n - (intOf s20).toNat)
  case atStart => exact ⟨0, _, by omega, rfl, hB, hz5, hz19, by rw [HE0.out]; exact OwnK.nil _ _ _ _⟩
  case round =>
    clear hB hz5 hz19
    obtain ⟨a, v, ha, rfl, hB, h1, h2, ho⟩ := hrel
    by_cases hlt : a < n
    · go_upto_region 5 with (fail)
      refine wp_region_lit ?_
      refine ls_ex (some 21) (.bool true) rfl rfl (exec_lss _ _ _ _ rfl a n rfl rfl true (decide_eq_true (by omega))) ?_
      go_frame
      refine wpList_nil ?_
      go_upto_region 6 with (fail)
      refine wp_region_lit ?_
      refine ls_ex (some 22) (.int .i64 a) rfl rfl (exec_move _ rfl (.int .i64 a) rfl) ?_
      go_frame
      refine ls_ex (some 7) (.int .i64 a) rfl rfl (exec_assign _ rfl (.int .i64 a) rfl) ?_
      go_frame
      refine wpList_nil ?_
      go_upto_region 7 with (fail)
      refine wp_region_lit ?_
      refine ls_ex (some 23) (.int .i64 a) rfl rfl (exec_move _ rfl (.int .i64 a) rfl) ?_
      go_frame
      refine ls_ex (some 8) (.int .i64 a) rfl rfl (exec_assign _ rfl (.int .i64 a) rfl) ?_
      go_frame
      refine wpList_nil ?_
      go_wp2_with fail
      obtain ⟨we, rfl⟩ : ∃ x : World, x = wr := ⟨_, rfl⟩
      go_loopw [8] (fun s8 wr => ∃ (b : Nat) (v : Value), a ≤ b ∧ b ≤ n ∧ s8 = .int .i64 b ∧ Below w.heap.size w wr ∧ At wr w.heap.size (.cells #[.int .i64 0, .int .i64 0, .int .i64 0, .int .i64 0, .slice none 0 0] 31 (0, 0)) ∧ At wr Wz2.heap.size (.cells #[v] 72 (0, 0)) ∧ OwnK 74 2 wr w.heap.size v (entP n a b)) (fun s8 _ => n - (intOf s8).toNat)
      case atStart => exact ⟨a, _, by omega, by omega, rfl, hB, h1, h2, ho⟩
      case round =>
        clear hB h1 h2 ho
        obtain ⟨b, v, hab, hb, rfl, hB, h1, h2, ho⟩ := hrel
        by_cases hlt2 : b < n
        · obtain ⟨M9, hM9⟩ : ∃ N, (entP n a b).length = N := ⟨_, rfl⟩
          obtain ⟨A9, c9, rfl⟩ := OwnK.rdE ho (n := M9) hM9
          have HES : Hid (entP n a b ++ [[(a : Int), (b : Int)]] = entP n a (b + 1)) := Lib.hid (entP_step n hn4 a hlt b hlt2 hab)
          have HEl : Hid ((entP n a b).length ≤ 20) := Lib.hid (entP_len n hn4 a (by omega) b (by omega))
          obtain ⟨M6, hM6⟩ : ∃ N, (entP n a (b + 1)).length = N := ⟨_, rfl⟩
          have HM6 := Lib.hid hM6
          clear hM6 hM9
          go_upto_region 8 with (fail)
          refine wp_region_lit ?_
          refine ls_ex (some 24) (.int .i64 b) rfl rfl (exec_move _ rfl (.int .i64 b) rfl) ?_
          go_frame
          refine ls_ex (some 25) (.int .i64 n) rfl rfl (exec_move _ rfl (.int .i64 n) rfl) ?_
          go_frame
          refine ls_ex (some 26) (.bool true) rfl rfl (exec_lss _ _ _ _ rfl b n rfl rfl true (decide_eq_true (by omega))) ?_
          go_frame
          refine wpList_nil ?_
          go_upto_region 10 with (fail)
          refine wp_region_lit ?_
          refine ls_ex (some 29) (.slice A9 M9 c9) rfl rfl (exec_load_one 72 _ rfl Wz2.heap.size 0 rfl (.slice A9 M9 c9) _ Try.underlying72 rfl (h2.at_ 0)) ?_
          go_frame
          refine ls_ex (some 30) (.int .i64 a) rfl rfl (exec_move _ rfl (.int .i64 a) rfl) ?_
          go_frame
          refine ls_ex (some 31) (.int .i64 b) rfl rfl (exec_move _ rfl (.int .i64 b) rfl) ?_
          go_frame
          refine ls_ex (some 32) (.agg #[.int .i64 a, .int .i64 b]) rfl rfl (exec_build_ent _ _ rfl a b rfl rfl) ?_
          go_frame
          refine ls_op rfl (fun K' hK' => ?_)
          have lz20 := hB.size
          have lz21 := h1.lt
          have lz22 := h2.lt
          refine wp_new (some 33) rfl (exec_bs1Ent _ rfl a b rfl) (fun Wz23 nnz24 => ?_)
          have bz25 := nnz24.below (Below.refl _ _) (Nat.le_refl _)
          replace hB := below_after hB bz25
          replace h1 := h1.after bz25
          replace h2 := h2.after bz25
          replace ho := ho.below bz25
          have hqz26 : At Wz23 wr.heap.size (.cells #[.int .i64 a, .int .i64 b] 74 (0, 0)) := nnz24.at_
          refine hK' _ _ ?_
          clear hK' K' nnz24 bz25
          go_frame
          refine ls_op rfl (fun K' hK' => ?_)
          have lz30 := hB.size
          have lz31 := h1.lt
          have lz32 := h2.lt
          have lz33 := hqz26.lt
          refine wp_appEnt (some 34) rfl _ _ rfl (.slice A9 M9 c9) (entP n a b) a b rfl ho wr.heap.size rfl hqz26 (by have := HEl.out; omega) (by omega) (fun v6 Wz27 noz29 grz28 => ?_)
          rw [HES.out] at noz29
          obtain ⟨A6, c6, rfl⟩ := OwnK.rdE noz29 (n := M6) HM6.out
          replace hB := below_grownE hB grz28 ho (by omega)
          replace h1 := h1.grown grz28 (ho.off h1 (by decide))
          replace h2 := h2.grown grz28 (ho.off h2 (by decide))
          replace ho := noz29
          refine hK' _ _ ?_
          clear hK' K' grz28 hqz26
          go_frame
          refine ls_op rfl (fun K' hK' => ?_)
          refine wp_store_one 72 _ _ rfl rfl Wz2.heap.size 0 rfl (.slice A6 M6 c6) rfl rfl rfl _ _ h2 (by kernel_rfl) (by simp) (fun Wz34 pz35 => ?_)
          replace hB := pz35.below hB (by omega)
          replace h1 := pz35.other h1 (by omega)
          replace ho := ho.put pz35 (ho.off h2 (by decide))
          replace h2 : At Wz34 Wz2.heap.size (.cells #[.slice A6 M6 c6] 72 (0, 0)) := pz35.at_
          refine hK' _ _ ?_
          clear hK' K' pz35
          refine wpList_nil ?_
          go_upto_region 9 with (fail)
          refine wp_region_lit ?_
          refine ls_ex (some 27) (.int .i64 b) rfl rfl (exec_move _ rfl (.int .i64 b) rfl) ?_
          go_frame
          refine ls_ex (some 28) (.int .i64 (b + 1)) rfl rfl (exec_add _ _ _ _ rfl b 1 (b + 1) rfl rfl (IntWalk.i64_in _ (by omega))) ?_
          go_frame
          refine ls_ex (some 8) (.int .i64 (b + 1)) rfl rfl (exec_assign _ rfl (.int .i64 (b + 1)) rfl) ?_
          go_frame
          refine wpList_nil ?_
          go_wp2_with fail
          go_roundw
          case rel => exact ⟨b + 1, _, by omega, by omega, by go_num, hB, h1, h2, ho⟩
          case measure => simp [intOf]; omega
        · have HE : Hid (entP n a b = entP n (a + 1) (a + 1)) := Lib.hid (by rw [show b = n by omega]; exact entP_b n hn4 a hlt)
          rw [HE.out] at ho
          go_upto_region 8 with (fail)
          refine wp_region_lit ?_
          refine ls_ex (some 24) (.int .i64 b) rfl rfl (exec_move _ rfl (.int .i64 b) rfl) ?_
          go_frame
          refine ls_ex (some 25) (.int .i64 n) rfl rfl (exec_move _ rfl (.int .i64 n) rfl) ?_
          go_frame
          refine ls_ex (some 26) (.bool false) rfl rfl (exec_lss _ _ _ _ rfl b n rfl rfl false (decide_eq_false (by omega))) ?_
          go_frame
          refine wpList_nil ?_
          go_upto_region 11 with (fail)
          refine wp_region_lit ?_
          refine ls_ex (some 35) (.int .i64 (a + 1)) rfl rfl (exec_add _ _ _ _ rfl a 1 (a + 1) rfl rfl (IntWalk.i64_in _ (by omega))) ?_
          go_frame
          refine ls_ex (some 20) (.int .i64 (a + 1)) rfl rfl (exec_move _ rfl (.int .i64 (a + 1)) rfl) ?_
          go_frame
          refine wpList_nil ?_
          go_wp2_with fail
          go_roundw
          case rel => exact ⟨a + 1, _, by omega, by go_num, hB, h1, h2, ho⟩
          case measure => simp [intOf]; omega
    · have HE : Hid (entP n a a = entP n n n) := Lib.hid (by rw [show a = n by omega])
      rw [HE.out] at ho
      obtain ⟨A9, c9, rfl⟩ := OwnK.rdE ho (n := S) HEa.out
      go_upto_region 5 with (fail)
      refine wp_region_lit ?_
      refine ls_ex (some 21) (.bool false) rfl rfl (exec_lss _ _ _ _ rfl a n rfl rfl false (decide_eq_false (by omega))) ?_
      go_frame
      refine wpList_nil ?_
      go_upto_region 12 with (fail)
      refine wp_region_lit ?_
      refine ls_ex (some 36) (.slice A9 S c9) rfl rfl (exec_load_one 72 _ rfl Wz2.heap.size 0 rfl (.slice A9 S c9) _ Try.underlying72 rfl (h2.at_ 0)) ?_
      go_frame
      refine ls_ex (some 37) (.int .i64 S) rfl rfl (exec_len _ 72 74 rfl A9 S c9 rfl Try.underlying72) ?_
      go_frame
      refine ls_ex (some 9) (.int .i64 S) rfl rfl (exec_assign _ rfl (.int .i64 S) rfl) ?_
      go_frame
      refine wpList_nil ?_
      go_upto_region 13 with (fail)
      refine wp_region_lit ?_
      refine ls_ex (some 38) (.int .i64 p) rfl rfl (exec_move _ rfl (.int .i64 p) rfl) ?_
      go_frame
      refine ls_ex (some 39) (.int .i64 S) rfl rfl (exec_move _ rfl (.int .i64 S) rfl) ?_
      go_frame
      refine ls_ex (some 40) (.int .i64 S) rfl rfl (exec_move _ rfl (.int .i64 S) rfl) ?_
      go_frame
      refine ls_ex (some 41) (.int .i64 S) rfl rfl (exec_move _ rfl (.int .i64 S) rfl) ?_
      go_frame
      refine ls_ex (some 42) (.agg #[.int .i64 S, .int .i64 S, .int .i64 S]) rfl rfl (exec_build_boxT _ _ _ rfl S S S rfl rfl rfl) ?_
      go_frame
      refine ls_ex (some 43) (.func (.func 54) #[] #[.pointer (some ⟨Wz2.heap.size, 0, none⟩)]) rfl rfl (exec_mkfn1o _ _ rfl (.pointer (some ⟨Wz2.heap.size, 0, none⟩)) rfl) ?_
      go_frame
      refine ls_op rfl (fun K' hK' => ?_)
      have lz38 := hB.size
      have lz39 := h1.lt
      have lz40 := h2.lt
      refine wp_call3 (some 44) rfl 51 _ _ _ _ rfl (fun args w => by kernel_rfl) _ _ _ rfl rfl rfl _ (tensorOfOnesTri_c p S S S Wz2.heap.size (triB n) _ (by omega) HSb.out HSb.out HSb.out (fun i j k w9 hi hj hk hb => tri1_t n i j k c9 Wz2.heap.size A9 w9 S HS.out hn4 hi hj hk (h2.after hb) (ho.rd'.keep hb))) (fun e Wz36 h => ?_)
      obtain ⟨v7, rfl, hoT, bz37⟩ := h
      replace hB := below_after hB bz37
      replace h1 := h1.after bz37
      replace h2 := h2.after bz37
      replace ho := ho.below bz37
      rw [HTl.out] at hoT
      obtain ⟨A7, c7, rfl, _⟩ := hoT.rd
      rw [HNl.out] at hoT ⊢
      clear bz37
      refine ⟨_, rfl, ?_⟩
      refine hK' _ _ ?_
      clear hK' K'
      go_frame
      refine ls_op rfl (fun K' hK' => ?_)
      refine wp_store_all 31 _ _ rfl rfl w.heap.size rfl #[.int .i64 p, .int .i64 S, .int .i64 S, .int .i64 S, .slice A7 N c7] rfl _ _ h1 5 (by kernel_rfl) rfl rfl (one5 _ _ _ _ _ _ _) (fun Wz41 pz42 => ?_)
      replace hB := pz42.below hB (by omega)
      replace h2 := pz42.other h2 (by omega)
      replace ho := ho.put pz42 (ho.off h1 (by decide))
      replace hoT := hoT.put pz42 (hoT.ne_lt9 (by omega))
      replace h1 : At Wz41 w.heap.size (.cells #[.int .i64 p, .int .i64 S, .int .i64 S, .int .i64 S, .slice A7 N c7] 31 (0, 0)) := pz42.at_
      refine hK' _ _ ?_
      clear hK' K' pz42
      refine ls_ex (some 5) (.int .i64 0) rfl rfl (exec_assign _ rfl (.int .i64 0) rfl) ?_
      go_frame
      refine wpList_nil ?_
      go_wp2_with fail
      refine bodyPost_ret (results_at2 rfl _ _ w.heap.size _ _ _ rfl _ rfl h1 Try.underlying31 rfl 5 (by kernel_rfl) rfl) rfl ?_
      unfold ResT tZ tL
      rw [HC.out, HS.out]
      exact ⟨_, rfl, hoT.mono (by omega), hB⟩
theorem implTriangularTensor_c (p n : Int) (w : World) : Calls Try.prog 26 #[.int .i64 p, .int .i64 n] w (ResT w (tZ (triCode p n) p) (tZ (triCode p n) (triS n.toNat : Nat)) (tZ (triCode p n) (triS n.toNat : Nat)) (tZ (triCode p n) (triS n.toNat : Nat)) (tL (triCode p n) (triL p n.toNat)) (triCode p n)) := by
  cases hp : primeB p with
  | false => exact implTri_a p n w hp
  | true =>
    cases hn : (decide (1 ≤ n) && decide (n ≤ 3)) with
    | false => exact implTri_b p n w hp hn
    | true =>
      have hn2 := hn
      simp only [Bool.and_eq_true, decide_eq_true_eq] at hn2
      obtain ⟨a, rfl⟩ := Int.eq_ofNat_of_zero_le (show 0 ≤ n by omega)
      exact implTri_y p a w hp hn
end Go.Proofs.Ytdbcgbbokodndaa
