/-
  Rows of plain programs: spec.l07Row. (Made by mkpgd.py.)
-/
import Derived.Test.YtoaibfbamecdlaaPgC
import Derived.Test.YtoaibfbamecdlaaPg4
import Derived.Test.YtoaibfbamecdlaaNrm4
import Derived.Test.YtoaibfbamecdlaaHeldT
namespace Go.Proofs.Ytoaibfbamecdlaa
open Go.RowKit
set_option maxRecDepth 100000
attribute [local irreducible] wpList
theorem pd_max2 {P : Program} {o : Oper} {a : Act} {w : World} (x y : Operand) (t : TypeId) (ho : o.op = .call { callee := .builtin .max, args := #[x, y], argTypes := #[t, t] }) (m0 m1 : Int) (hx : a.eval x = .int .i64 m0) (hy : a.eval y = .int .i64 m1) (r : Int)
    (hr : (if m0 < m1 then m1 else m0) = r) : (execOp a.eval o).run P w = .ok (.value (.int .i64 r)) w := by
  subst hr
  unfold execOp
  simp only [ho, hx, hy, resolve, invoke, builtin, Sem.run_bind, Sem.run_pure, Result.andThen_ok, List.map_toArray, List.map_cons, List.map_nil]
  simp [go_sem]
  rw [Int.max_def]
  split <;> split <;> omega
theorem exec_build_step {o : Oper} {a : Act} {w : World} (x y z : Operand) (ho : o.op = .build 66 #[(0, x), (1, y), (2, z)]) (l r f : Int) (hx : a.eval x = .int .i64 l) (hy : a.eval y = .int .i64 r) (hz : a.eval z = .int .i64 f) :
    (execOp a.eval o).run Try.prog w = .ok (.value (.agg #[.int .i64 l, .int .i64 r, .int .i64 f])) w := by
  have hb : Try.prog.built 66 [(0, .int .i64 l), (1, .int .i64 r), (2, .int .i64 f)] = some #[.int .i64 l, .int .i64 r, .int .i64 f] := by kernel_rfl
  have h := run_build (P := Try.prog) w 66 _ _ hb
  unfold execOp
  simp [ho, hx, hy, hz, h]
theorem exec_build_out {o : Oper} {a : Act} {w : World} (x y : Operand) (ho : o.op = .build 68 #[(0, x), (1, y)]) (v f : Int) (hx : a.eval x = .int .i64 v) (hy : a.eval y = .int .i64 f) :
    (execOp a.eval o).run Try.prog w = .ok (.value (.agg #[.int .i64 v, .int .i64 f])) w := by
  have hb : Try.prog.built 68 [(0, .int .i64 v), (1, .int .i64 f)] = some #[.int .i64 v, .int .i64 f] := by kernel_rfl
  have h := run_build (P := Try.prog) w 68 _ _ hb
  unfold execOp
  simp [ho, hx, hy, h]
theorem rdI_getI {w : World} {b off : Nat} {xs : List Int} (h : RdI w (some ⟨b, off, none⟩) xs) {k : Nat} (hk : k < xs.length) : w.cell? ⟨b, off + k, none⟩ = some (.int .i64 (getI xs k)) := by
  obtain ⟨b', off', e, hc⟩ := h.at_ hk
  simp only [Option.some.injEq, Addr.mk.injEq, and_true] at e
  obtain ⟨rfl, rfl⟩ := e
  rw [hc]
  simp [getI, hk]
theorem OwnK.rdN {t : TypeId} {s n : Nat} {w : World} {lo : Nat} {v : Value} {qs : List (List Int)} (h : OwnK t s w lo v qs) (he : qs.length = n) : ∃ A c, v = .slice A n c := by
  subst he
  obtain ⟨A, c, e, _⟩ := h.rd
  exact ⟨A, c, e⟩
theorem OwnK.belowG {t : TypeId} {s : Nat} {w w' : World} {lo : Nat} {v : Value} {qs : List (List Int)} (h : OwnK t s w lo v qs) (gr : w.grownBy w' v.ownBlock) (hl : lo ≤ w.heap.size) : Below lo w w' :=
  ⟨gr.os, gr.tape, gr.output, gr.size, fun k hk => gr.block k (by omega) (fun e => by have := (h.lt e.symm).1; omega)⟩
theorem OwnK.apart {t t' : TypeId} {s s' : Nat} {w : World} {lo lo' : Nat} {v v' : Value} {qs qs' : List (List Int)} (h : OwnK t s w lo v qs) (h' : OwnK t' s' w lo' v' qs') (ht : t ≠ t') : v.ownBlock = none ∨ v.ownBlock ≠ v'.ownBlock := by
  rcases h.2.2 with ⟨rfl, _⟩ | ⟨g', cap, cur, rfl, hb, hgg, _⟩
  · exact .inl rfl
  · exact .inr (h'.off (g := g') (cs := cur) (t' := t) hgg ht)
/-- Steps, value and first number behind the first numbers of a row. -/
structure RS where
  ss : List (List Int)
  v : Int
  f : Int
def rowSt (p : Int) (N : Nat) (row : List Int) (s0 : List (List Int)) : Nat → RS
  | 0 => ⟨s0, 0, 0⟩
  | k + 1 => if getI row k = 0 then rowSt p N row s0 k else if (rowSt p N row s0 k).f = 0 then ⟨(rowSt p N row s0 k).ss, (k : Int), getI row k⟩
    else ⟨(rowSt p N row s0 k).ss ++ [[(rowSt p N row s0 k).v, (k : Int), (getI row k * inv p (rowSt p N row s0 k).f).tmod p]], ((N + (rowSt p N row s0 k).ss.length : Nat) : Int), (rowSt p N row s0 k).f⟩
section
variable {p : Int} {N k n0 : Nat} {row : List Int} {s0 : List (List Int)} {S : RS}
theorem rowSt_zero (h : getI row k = 0) : rowSt p N row s0 (k + 1) = rowSt p N row s0 k := by simp only [rowSt]; rw [if_pos h]
theorem rowSt_first (h : getI row k ≠ 0) (hf : (rowSt p N row s0 k).f = 0) : rowSt p N row s0 (k + 1) = ⟨(rowSt p N row s0 k).ss, (k : Int), getI row k⟩ := by
  simp only [rowSt]; rw [if_neg h, if_pos hf]
theorem rowSt_more (h : getI row k ≠ 0) (hf : (rowSt p N row s0 k).f ≠ 0) : rowSt p N row s0 (k + 1) = ⟨(rowSt p N row s0 k).ss ++ [[(rowSt p N row s0 k).v, (k : Int), (getI row k * inv p (rowSt p N row s0 k).f).tmod p]], ((N + (rowSt p N row s0 k).ss.length : Nat) : Int), (rowSt p N row s0 k).f⟩ := by
  simp only [rowSt]; rw [if_neg h, if_neg hf]
structure RSok (p : Int) (N n0 k : Nat) (S : RS) : Prop where
  len : S.ss.length ≤ n0 + k
  f0 : 0 ≤ S.f
  fp : S.f < p
  v0 : 0 ≤ S.v
  vz : S.f = 0 → S.v = 0
theorem RSok.start (p : Int) (N : Nat) (ss : List (List Int)) (hp : 2 ≤ p) : RSok p N ss.length 0 ⟨ss, 0, 0⟩ := ⟨Nat.le_refl _, Int.le_refl _, by show (0 : Int) < p; omega, Int.le_refl _, fun _ => rfl⟩
theorem RSok.more (h : RSok p N n0 k S) : RSok p N n0 (k + 1) S := ⟨by have := h.len; omega, h.f0, h.fp, h.v0, h.vz⟩
theorem RSok.first {x : Int} (h : RSok p N n0 k S) (hx : 0 ≤ x ∧ x < p) (hn : x ≠ 0) : RSok p N n0 (k + 1) ⟨S.ss, (k : Int), x⟩ := ⟨by have := h.len; show S.ss.length ≤ _; omega, hx.1, hx.2, by show (0 : Int) ≤ (k : Int); omega, fun e => absurd e hn⟩
theorem RSok.step {q : List Int} (h : RSok p N n0 k S) (hf : S.f ≠ 0) : RSok p N n0 (k + 1) ⟨S.ss ++ [q], ((N + S.ss.length : Nat) : Int), S.f⟩ := ⟨by have := h.len; show (S.ss ++ [q]).length ≤ _; rw [List.length_append]; simp; omega, h.f0, h.fp, by show (0 : Int) ≤ ((N + S.ss.length : Nat) : Int); omega, fun e => absurd e hf⟩
theorem rowSt_len (p : Int) (N : Nat) (row : List Int) (s0 : List (List Int)) (k : Nat) : (rowSt p N row s0 k).ss.length ≤ s0.length + k := by
  induction k with
  | zero => exact Nat.le_refl _
  | succ k ih =>
    simp only [rowSt]
    split
    · omega
    · split
      · show (rowSt p N row s0 k).ss.length ≤ _; omega
      · show ((rowSt p N row s0 k).ss ++ [_]).length ≤ _; rw [List.length_append]; simp; omega
theorem RSok.facts (h : RSok p N n0 k S) (hf : S.f ≠ 0) : 1 ≤ S.f ∧ S.f < p ∧ 0 ≤ S.v ∧ S.ss.length ≤ n0 + k := ⟨by have := h.f0; omega, h.fp, h.v0, h.len⟩
theorem RSok.zero (h : RSok p N n0 k S) : 0 ≤ S.v ∧ (S.f = 0 → S.v = 0) := ⟨h.v0, h.vz⟩
end
set_option maxHeartbeats 4000000 in
theorem addStep_c (p : Int) (N lo gp n9 : Nat) (v0 u0 : Value) (ss os : List (List Int)) (l r f : Int) (w : World) (hg : At w gp (.cells #[.int .i64 p, .int .i64 (N : Int), v0, u0] 33 (0, 0))) (hv : OwnK 66 3 w lo v0 ss) (hu : OwnK 68 2 w lo u0 os) (hlo : lo ≤ gp) (hn91 : n9 ≤ ss.length + 1) (hn92 : ss.length + 1 ≤ n9) (hss : ss.length ≤ 100000) (hN : N ≤ 30) :
    Calls Try.prog 75 #[.pointer (some ⟨gp, 0, none⟩), .agg #[.int .i64 l, .int .i64 r, .int .i64 f]] w (fun e w' => ∃ A c, e = .returned (.int .i64 ((N + ss.length : Nat) : Int)) ∧ At w' gp (.cells #[.int .i64 p, .int .i64 (N : Int), .slice A n9 c, u0] 33 (0, 0)) ∧ OwnK 66 3 w' lo (.slice A n9 c) (ss ++ [[l, r, f]]) ∧ OwnK 68 2 w' lo u0 os ∧ Below lo w w' ∧ (∀ k cs t, At w k (.cells cs t (0, 0)) → k ≠ gp → t ≠ 66 → At w' k (.cells cs t (0, 0)))) := by
  have hB := Below.refl w.heap.size w
  have hL := Below.refl lo w
  have hlg := hg.lt
  have hz : lo ≤ w.heap.size := by omega
  have hF : ∀ k cs t, At w k (.cells cs t (0, 0)) → k ≠ gp → t ≠ 66 → At w k (.cells cs t (0, 0)) := fun k cs t h0 _ _ => h0
  clear hB
  go_enter Try.func75, Try.ntmps75
  go_upto_region 0 with (fail)
  refine wp_region_lit ?_
  refine ls_op rfl (fun K' hK' => ?_)
  have lz1 := hg.lt
  have naz6 := hv.away_new
  have naz7 := hu.away_new
  refine wp_new (some 3) rfl (exec_box 66 _ rfl (#[.int .i64 l, .int .i64 r, .int .i64 f]) rfl) (fun Wz2 nnz3 => ?_)
  have bz4 := nnz3.below (Below.refl _ _) (Nat.le_refl _)
  replace hL := hL.trans (below_mono bz4 (by omega))
  replace hz := size_after hz bz4
  replace hF := fun k cs t h0 h1 h2 => (hF k cs t h0 h1 h2).after bz4
  replace hg := hg.after bz4
  replace hv := hv.below bz4
  replace hu := hu.below bz4
  have hz5 : At Wz2 w.heap.size (.cells #[.int .i64 l, .int .i64 r, .int .i64 f] 66 (0, 0)) := nnz3.at_
  refine hK' _ _ ?_
  clear hK' K' nnz3 bz4
  go_frame
  refine ls_ex (some 4) (.int .i64 0) rfl rfl (exec_assign _ rfl (.int .i64 0) rfl) ?_
  go_frame
  refine wpList_nil ?_
  go_upto_region 1 with (fail)
  refine wp_region_y (zs := [7, 10]) (S := fun w' => True) (S2 := fun w' => At w' gp (.cells #[.int .i64 p, .int .i64 (N : Int), v0, u0] 33 (0, 0)) ∧ At w' w.heap.size (.cells #[.int .i64 l, .int .i64 r, .int .i64 f] 66 (0, 0))) (by kernel_rfl) ?_
  change wpAnyY _ _ _ _ _ _ _ _ _ _ (World.drew _)
  generalize hwdz8 : World.drew _ = wdz8
  replace hL : Below lo w wdz8 := by rw [← hwdz8]; exact hL.drew
  replace hz : lo ≤ wdz8.heap.size := by rw [← hwdz8]; exact hz
  replace hF : ∀ k cs t, At w k (.cells cs t (0, 0)) → k ≠ gp → t ≠ 66 → At wdz8 k (.cells cs t (0, 0)) := by rw [← hwdz8]; exact hF
  replace hg : At wdz8 gp (.cells #[.int .i64 p, .int .i64 (N : Int), v0, u0] 33 (0, 0)) := by rw [← hwdz8]; exact hg
  replace hv : OwnK 66 3 wdz8 lo v0 ss := by rw [← hwdz8]; exact hv.drew
  replace hu : OwnK 68 2 wdz8 lo u0 os := by rw [← hwdz8]; exact hu.drew
  replace hz5 : At wdz8 w.heap.size (.cells #[.int .i64 l, .int .i64 r, .int .i64 f] 66 (0, 0)) := by rw [← hwdz8]; exact hz5
  clear hwdz8
  refine y_yield 0 (some 5) (.pointer (some ⟨gp, 0, none⟩)) rfl (by kernel_rfl) (by kernel_rfl) (by kernel_rfl) (fun _ _ _ h => h) rfl rfl trivial (fun w' h' => exec_move _ rfl (.pointer (some ⟨gp, 0, none⟩)) rfl) ?_
  go_frame
  refine y_yield 1 (some 6) (.pointer (some ⟨gp, 0, none⟩)) rfl (by kernel_rfl) (by kernel_rfl) (by kernel_rfl) (fun _ _ _ h => h) rfl rfl trivial (fun w' h' => exec_move _ rfl (.pointer (some ⟨gp, 0, none⟩)) rfl) ?_
  go_frame
  refine y_yield 2 (some 7) (.pointer (some ⟨gp, 0, none⟩)) rfl (by kernel_rfl) (by kernel_rfl) (by kernel_rfl) (fun _ _ _ h => h) rfl rfl trivial (fun w' h' => exec_nilCheck _ rfl ⟨gp, 0, none⟩ rfl) ?_
  go_frame
  refine y_yield 3 (some 8) (.pointer (some ⟨gp, 2, none⟩)) rfl (by kernel_rfl) (by kernel_rfl) (by kernel_rfl) (fun _ _ _ h => h) rfl rfl trivial (fun w' h' => exec_fieldAddr 33 _ 2 rfl _ (by kernel_rfl)) ?_
  go_frame
  refine y_yield3 4 (some 9) (v0) rfl 11 (by kernel_rfl) (by kernel_rfl) (by kernel_rfl) (by kernel_rfl) (by kernel_rfl) (fun _ _ _ h => h) rfl rfl trivial ⟨hg, hz5⟩ (fun w' h' h2' => exec_load_one 30 _ rfl gp 2 rfl (v0) _ Try.underlying30 rfl (h2'.1.at_ 2)) ?_
  go_frame
  refine y_yield3 5 (some 10) (.agg #[.int .i64 l, .int .i64 r, .int .i64 f]) rfl 11 (by kernel_rfl) (by kernel_rfl) (by kernel_rfl) (by kernel_rfl) (by kernel_rfl) (fun _ _ _ h => h) rfl rfl trivial ⟨hg, hz5⟩ (fun w' h' h2' => exec_load_all 66 _ rfl w.heap.size rfl _ _ _ h2'.2 Try.underlying66 rfl 3 (by kernel_rfl) rfl) ?_
  go_frame
  refine y_oper 6 (by kernel_rfl) rfl rfl (fun K' hK' => ?_)
  have lz9 := hg.lt
  have lz10 := hz5.lt
  refine wp_new (some 11) rfl (exec_bs1Step _ rfl l r f rfl) (fun Wz11 nnz12 => ?_)
  have bz13 := nnz12.below (Below.refl _ _) (Nat.le_refl _)
  replace hL := hL.trans (below_mono bz13 (by omega))
  replace hz := size_after hz bz13
  replace hF := fun k cs t h0 h1 h2 => (hF k cs t h0 h1 h2).after bz13
  replace hg := hg.after bz13
  replace hv := hv.below bz13
  replace hu := hu.below bz13
  replace hz5 := hz5.after bz13
  have hqz14 : At Wz11 wdz8.heap.size (.cells #[.int .i64 l, .int .i64 r, .int .i64 f] 66 (0, 0)) := nnz12.at_
  refine hK' _ _ trivial (fun _ => ⟨hg, hz5⟩) ?_
  clear hK' K' nnz12 bz13
  go_frame
  refine y_oper 7 (by kernel_rfl) rfl rfl (fun K' hK' => ?_)
  have lz18 := hg.lt
  have lz19 := hz5.lt
  have lz20 := hqz14.lt
  refine wp_appStep (some 12) rfl _ _ rfl v0 ss l r f rfl hv wdz8.heap.size rfl hqz14 (by omega) hz (fun v9 Wz15 noz17 grz16 => ?_)
  obtain ⟨An9, cn9, rfl⟩ := OwnK.rdN noz17 (n := n9) (by simp; omega)
  replace hL := hL.trans (OwnK.belowG hv grz16 hz)
  replace hz := Nat.le_trans hz grz16.size
  replace hF := fun k cs t h0 h1 h2 => (hF k cs t h0 h1 h2).grown grz16 (hv.off (hF k cs t h0 h1 h2) h2)
  replace hg := hg.grown grz16 (hv.off hg (by decide))
  replace hu := hu.grown grz16 (OwnK.apart hu hv (by decide))
  replace hv := noz17
  refine hK' _ _ trivial (fun h => absurd (by decide) h) ?_
  clear hK' K' grz16
  go_frame
  refine y_yield 8 (some 13) (.pointer (some ⟨gp, 0, none⟩)) rfl (by kernel_rfl) (by kernel_rfl) (by kernel_rfl) (fun _ _ _ h => h) rfl rfl trivial (fun w' h' => exec_nilCheck _ rfl ⟨gp, 0, none⟩ rfl) ?_
  go_frame
  refine y_yield 9 (some 14) (.pointer (some ⟨gp, 2, none⟩)) rfl (by kernel_rfl) (by kernel_rfl) (by kernel_rfl) (fun _ _ _ h => h) rfl rfl trivial (fun w' h' => exec_fieldAddr 33 _ 2 rfl _ (by kernel_rfl)) ?_
  go_frame
  refine y_oper 10 (by kernel_rfl) rfl rfl (fun K' hK' => ?_)
  refine wp_store_one 30 _ _ rfl rfl gp 2 rfl (.slice An9 n9 cn9) rfl rfl rfl _ _ hg (by kernel_rfl) (by simp) (fun Wz21 pz22 => ?_)
  replace hL := pz22.below hL (by omega)
  replace hz : lo ≤ Wz21.heap.size := Nat.le_trans hz (Nat.le_of_eq (pz22.size rfl).symm)
  replace hF := fun k cs t h0 h1 h2 => pz22.other (hF k cs t h0 h1 h2) (by have := h0.lt; omega)
  replace hv := hv.put pz22 (hv.off hg (by decide))
  replace hu := hu.put pz22 (hu.off hg (by decide))
  replace hg : At Wz21 gp (.cells #[.int .i64 p, .int .i64 (N : Int), .slice An9 n9 cn9, u0] 33 (0, 0)) := pz22.at_
  refine hK' _ _ trivial (fun h => absurd (by decide) h) ?_
  clear hK' K' pz22
  refine y_done (by kernel_rfl) ?_ _
  go_upto_region 2 with (fail)
  refine wp_region_y (zs := []) (S := fun w' => At w' gp (.cells #[.int .i64 p, .int .i64 (N : Int), .slice An9 n9 cn9, u0] 33 (0, 0))) (S2 := fun w' => True) (by kernel_rfl) ?_
  change wpAnyY _ _ _ _ _ _ _ _ _ _ (World.drew _)
  generalize hwdz23 : World.drew _ = wdz23
  replace hL : Below lo w wdz23 := by rw [← hwdz23]; exact hL.drew
  replace hz : lo ≤ wdz23.heap.size := by rw [← hwdz23]; exact hz
  replace hF : ∀ k cs t, At w k (.cells cs t (0, 0)) → k ≠ gp → t ≠ 66 → At wdz23 k (.cells cs t (0, 0)) := by rw [← hwdz23]; exact hF
  replace hg : At wdz23 gp (.cells #[.int .i64 p, .int .i64 (N : Int), .slice An9 n9 cn9, u0] 33 (0, 0)) := by rw [← hwdz23]; exact hg
  replace hv : OwnK 66 3 wdz23 lo (.slice An9 n9 cn9) (ss ++ [[l, r, f]]) := by rw [← hwdz23]; exact hv.drew
  replace hu : OwnK 68 2 wdz23 lo u0 os := by rw [← hwdz23]; exact hu.drew
  clear hwdz23
  refine y_yield 0 (some 15) (.pointer (some ⟨gp, 0, none⟩)) rfl (by kernel_rfl) (by kernel_rfl) (by kernel_rfl) (fun _ _ _ h => h) rfl rfl hg (fun w' h' => exec_move _ rfl (.pointer (some ⟨gp, 0, none⟩)) rfl) ?_
  go_frame
  refine y_yield 1 (some 16) (.pointer (some ⟨gp, 0, none⟩)) rfl (by kernel_rfl) (by kernel_rfl) (by kernel_rfl) (fun _ _ _ h => h) rfl rfl hg (fun w' h' => exec_nilCheck _ rfl ⟨gp, 0, none⟩ rfl) ?_
  go_frame
  refine y_yield 2 (some 17) (.pointer (some ⟨gp, 1, none⟩)) rfl (by kernel_rfl) (by kernel_rfl) (by kernel_rfl) (fun _ _ _ h => h) rfl rfl hg (fun w' h' => exec_fieldAddr 33 _ 1 rfl _ (by kernel_rfl)) ?_
  go_frame
  refine y_yield 3 (some 18) (.int .i64 (N : Int)) rfl (by kernel_rfl) (by kernel_rfl) (by kernel_rfl) (fun _ _ _ h => h) rfl rfl hg (fun w' h' => exec_load_one 2 _ rfl gp 1 rfl (.int .i64 (N : Int)) _ Try.underlying2 rfl (h'.at_ 1)) ?_
  go_frame
  refine y_yield 4 (some 19) (.pointer (some ⟨gp, 0, none⟩)) rfl (by kernel_rfl) (by kernel_rfl) (by kernel_rfl) (fun _ _ _ h => h) rfl rfl hg (fun w' h' => exec_move _ rfl (.pointer (some ⟨gp, 0, none⟩)) rfl) ?_
  go_frame
  refine y_yield 5 (some 20) (.pointer (some ⟨gp, 0, none⟩)) rfl (by kernel_rfl) (by kernel_rfl) (by kernel_rfl) (fun _ _ _ h => h) rfl rfl hg (fun w' h' => exec_nilCheck _ rfl ⟨gp, 0, none⟩ rfl) ?_
  go_frame
  refine y_yield 6 (some 21) (.pointer (some ⟨gp, 2, none⟩)) rfl (by kernel_rfl) (by kernel_rfl) (by kernel_rfl) (fun _ _ _ h => h) rfl rfl hg (fun w' h' => exec_fieldAddr 33 _ 2 rfl _ (by kernel_rfl)) ?_
  go_frame
  refine y_yield 7 (some 22) (.slice An9 n9 cn9) rfl (by kernel_rfl) (by kernel_rfl) (by kernel_rfl) (fun _ _ _ h => h) rfl rfl hg (fun w' h' => exec_load_one 30 _ rfl gp 2 rfl (.slice An9 n9 cn9) _ Try.underlying30 rfl (h'.at_ 2)) ?_
  go_frame
  refine y_yield 8 (some 23) (.int .i64 (n9 : Int)) rfl (by kernel_rfl) (by kernel_rfl) (by kernel_rfl) (fun _ _ _ h => h) rfl rfl hg (fun w' h' => exec_len _ 30 66 rfl An9 n9 cn9 rfl Try.underlying30) ?_
  go_frame
  refine y_yield 9 (some 24) (.int .i64 ((N : Int) + n9)) rfl (by kernel_rfl) (by kernel_rfl) (by kernel_rfl) (fun _ _ _ h => h) rfl rfl hg (fun w' h' => exec_add _ _ _ _ rfl (N : Int) (n9 : Int) _ rfl rfl (IntWalk.i64_in _ (by omega))) ?_
  go_frame
  refine y_yield 10 (some 25) (.int .i64 ((N + ss.length : Nat) : Int)) rfl (by kernel_rfl) (by kernel_rfl) (by kernel_rfl) (fun _ _ _ h => h) rfl rfl hg (fun w' h' => exec_sub _ _ _ _ rfl ((N : Int) + n9) 1 ((N + ss.length : Nat) : Int) rfl rfl (by rw [IntWalk.i64_in _ (by omega)]; omega)) ?_
  go_frame
  refine y_oper 11 (by kernel_rfl) rfl rfl (fun K' hK' => ?_)
  refine wp_exec (some 4) rfl (.int .i64 ((N + ss.length : Nat) : Int)) (exec_assign _ rfl (.int .i64 ((N + ss.length : Nat) : Int)) rfl) ?_
  refine hK' _ _ hg (fun _ => trivial) ?_
  clear hK' K'
  go_frame
  refine y_done (by kernel_rfl) ?_ _
  go_wp2_with fail
  go_ret
  exact ⟨An9, cn9, rfl, hg, hv, hu, hL, hF⟩
set_option maxHeartbeats 25600000 in
theorem addRow_c (p : Int) (N lo gp : Nat) (v0 u0 : Value) (ss os : List (List Int)) (bx offx cx : Nat) (row : List Int) (w : World) (hv0 : OwnK 66 3 w lo v0 ss) (hu0 : OwnK 68 2 w lo u0 os) (hg0 : At w gp (.cells #[.int .i64 p, .int .i64 (N : Int), v0, u0] 33 (0, 0))) (hgp : lo ≤ gp) (hx0 : ∀ w', Below lo w w' → RdI w' (some ⟨bx, offx, none⟩) row) (hp : primeB p = true) (hrl : row.length ≤ 1000) (hss : ss.length ≤ 1000) (hos : os.length ≤ 1000) (hN : N ≤ 30) (hnums : NumsP p row) :
    Calls Try.prog 65 #[.pointer (some ⟨gp, 0, none⟩), .slice (some ⟨bx, offx, none⟩) row.length cx] w (fun e w' => ∃ r v u, e = .returned r ∧ At w' gp (.cells #[.int .i64 p, .int .i64 (N : Int), v, u] 33 (0, 0)) ∧ OwnK 66 3 w' lo v (rowSt p N row ss row.length).ss ∧ OwnK 68 2 w' lo u (os ++ [[(rowSt p N row ss row.length).v, (rowSt p N row ss row.length).f]]) ∧ Below lo w w' ∧ (∀ k cs t, At w k (.cells cs t (0, 0)) → k ≠ gp → t ≠ 66 → t ≠ 68 → At w' k (.cells cs t (0, 0)))) := by
  have hB := Below.refl w.heap.size w
  have hp5 := primeB_bounds hp
  have hL := Below.refl lo w
  have hz : lo ≤ w.heap.size := by have := hg0.lt; omega
  have hlg := hg0.lt
  have hg := hg0
  have hub := hu0.away_new
  have hF : ∀ k cs t, At w k (.cells cs t (0, 0)) → k ≠ gp → t ≠ 66 → t ≠ 68 → At w k (.cells cs t (0, 0)) := fun k cs t h0 _ _ _ => h0
  have hv := hv0
  have hu := hu0
  have hx := Lib.hid hx0
  have HN := Lib.hid hnums
  have HPr := Lib.hid hp
  clear hg0 hB hv0 hu0 hx0 hnums hp
  go_enter Try.func65, Try.ntmps65
  go_upto_region 0 with (fail)
  refine wp_region_lit ?_
  refine ls_op rfl (fun K' hK' => ?_)
  have lz1 := hg.lt
  have naz6 := hv.away_new
  have naz7 := hu.away_new
  refine wp_new (some 4) rfl (al_impl_Output rfl) (fun Wz2 nnz3 => ?_)
  have bz4 := nnz3.below (Below.refl _ _) (Nat.le_refl _)
  replace hL := hL.trans (below_mono bz4 (by omega))
  replace hz := size_after hz bz4
  replace hF := fun k cs t h0 h1 h2 h3 => (hF k cs t h0 h1 h2 h3).after bz4
  replace hg := hg.after bz4
  replace hv := hv.below bz4
  replace hu := hu.below bz4
  have hz5 : At Wz2 w.heap.size (.cells #[.int .i64 0, .int .i64 0] 68 (0, 0)) := nnz3.at_
  refine hK' _ _ ?_
  clear hK' K' nnz3 bz4
  go_frame
  refine wpList_nil ?_
  go_upto_region 1 with (fail)
  refine wp_region_lit ?_
  refine ls_ex (some 8) (.slice (some ⟨bx, offx, none⟩) row.length cx) rfl rfl (exec_move _ rfl (.slice (some ⟨bx, offx, none⟩) row.length cx) rfl) ?_
  go_frame
  refine ls_ex (some 9) (.int .i64 row.length) rfl rfl (exec_len _ 26 2 rfl ((some ⟨bx, offx, none⟩)) row.length cx rfl Try.underlying26) ?_
  go_frame
  refine ls_ex (some 10) (.int .i64 0) rfl rfl (exec_move _ rfl (.int .i64 0) rfl) ?_
  go_frame
  refine wpList_nil ?_
  go_wp2_with fail
  go_loopw [10] (fun s10 wr => ∃ (k : Nat) (S : RS) (vv : Value), k ≤ row.length ∧ s10 = .int .i64 k ∧ Hid (rowSt p N row ss k = S) ∧ RSok p N ss.length k S ∧ Below lo w wr ∧ lo ≤ wr.heap.size ∧ (∀ k cs t, At w k (.cells cs t (0, 0)) → k ≠ gp → t ≠ 66 → t ≠ 68 → At wr k (.cells cs t (0, 0))) ∧ At wr gp (.cells #[.int .i64 p, .int .i64 (N : Int), vv, u0] 33 (0, 0)) ∧ At wr w.heap.size (.cells #[.int .i64 S.v, .int .i64 S.f] 68 (0, 0)) ∧ OwnK 66 3 wr lo vv S.ss ∧ OwnK 68 2 wr lo u0 os) (fun s10 _ => row.length - (intOf s10).toNat)
  case atStart => exact ⟨0, ⟨ss, 0, 0⟩, v0, by omega, rfl, Lib.hid rfl, RSok.start p N ss (by omega), hL, hz, hF, hg, hz5, hv, hu⟩
  case round =>
    clear hL hz hF hg hv hu hz5
    obtain ⟨k, S, vv, hk, rfl, HG, hok, hL, hz, hF, hg, hT, hv, hu⟩ := hrel
    by_cases hlt : k < row.length
    · by_cases hx1 : getI row k = 0
      · have hxk := HN.out k
        have HZ : Hid ((getI row k == 0) = true) := Lib.hid (by simpa using hx1)
        have HS : Hid (rowSt p N row ss (k + 1) = S) := Lib.hid (by rw [rowSt_zero hx1]; exact HG.out)
        have HO := RSok.more hok
        clear hx1
        go_upto_region 2 with (fail)
        refine wp_region_lit ?_
        refine ls_ex (some 11) (.bool true) rfl rfl (exec_lss _ _ _ _ rfl k row.length rfl rfl true (decide_eq_true (by omega))) ?_
        go_frame
        refine wpList_nil ?_
        go_upto_region 3 with (fail)
        refine wp_region_lit ?_
        refine ls_ex (some 12) (.int .i64 k) rfl rfl (exec_move _ rfl (.int .i64 k) rfl) ?_
        go_frame
        refine ls_ex (some 13) (.pointer (some ⟨bx, offx + k * 1, none⟩)) rfl rfl (exec_index_slice _ 2 _ _ rfl bx offx row.length cx k 1 rfl rfl Try.underlying26 (by kernel_rfl) (by omega)) ?_
        go_frame
        refine ls_ex (some 14) (.int .i64 (getI row k)) rfl rfl (exec_load_one 2 _ rfl bx (offx + k * 1) rfl (.int .i64 (getI row k)) _ Try.underlying2 rfl (by rw [Nat.mul_one]; exact rdI_getI (hx.out _ hL) hlt)) ?_
        go_frame
        refine ls_ex (some 5) (.int .i64 k) rfl rfl (exec_assign _ rfl (.int .i64 k) rfl) ?_
        go_frame
        refine ls_ex (some 6) (.int .i64 (getI row k)) rfl rfl (exec_assign _ rfl (.int .i64 (getI row k)) rfl) ?_
        go_frame
        refine wpList_nil ?_
        go_upto_region 4 with (fail)
        refine wp_region_lit ?_
        refine ls_ex (some 15) (.int .i64 (getI row k)) rfl rfl (exec_move _ rfl (.int .i64 (getI row k)) rfl) ?_
        go_frame
        refine ls_ex (some 16) (.bool true) rfl rfl (exec_eql _ _ _ _ rfl ((getI row k)) 0 rfl rfl true HZ.out) ?_
        go_frame
        refine wpList_nil ?_
        go_upto_region 9 with (fail)
        refine wp_region_lit ?_
        refine ls_ex (some 45) (.int .i64 (k + 1)) rfl rfl (exec_add _ _ _ _ rfl k 1 (k + 1) rfl rfl (IntWalk.i64_in _ (by omega))) ?_
        go_frame
        refine ls_ex (some 10) (.int .i64 (k + 1)) rfl rfl (exec_move _ rfl (.int .i64 (k + 1)) rfl) ?_
        go_frame
        refine wpList_nil ?_
        go_wp2_with fail
        go_roundw
        case rel => exact ⟨k + 1, S, vv, by omega, by go_num, HS, HO, hL, hz, hF, hg, hT, hv, hu⟩
        case measure => simp [intOf]; omega
      · by_cases hf : S.f = 0
        · have hxk := HN.out k
          have HZ : Hid ((getI row k == 0) = false) := Lib.hid (by simpa using hx1)
          have HF : Hid ((S.f == 0) = true) := Lib.hid (by simpa using hf)
          have HS : Hid (rowSt p N row ss (k + 1) = ⟨S.ss, (k : Int), getI row k⟩) := Lib.hid (by rw [rowSt_first hx1 (by rw [HG.out]; exact hf), HG.out])
          have HO : RSok p N ss.length (k + 1) ⟨S.ss, (k : Int), getI row k⟩ := RSok.first hok hxk hx1
          clear hx1 hf
          go_upto_region 2 with (fail)
          refine wp_region_lit ?_
          refine ls_ex (some 11) (.bool true) rfl rfl (exec_lss _ _ _ _ rfl k row.length rfl rfl true (decide_eq_true (by omega))) ?_
          go_frame
          refine wpList_nil ?_
          go_upto_region 3 with (fail)
          refine wp_region_lit ?_
          refine ls_ex (some 12) (.int .i64 k) rfl rfl (exec_move _ rfl (.int .i64 k) rfl) ?_
          go_frame
          refine ls_ex (some 13) (.pointer (some ⟨bx, offx + k * 1, none⟩)) rfl rfl (exec_index_slice _ 2 _ _ rfl bx offx row.length cx k 1 rfl rfl Try.underlying26 (by kernel_rfl) (by omega)) ?_
          go_frame
          refine ls_ex (some 14) (.int .i64 (getI row k)) rfl rfl (exec_load_one 2 _ rfl bx (offx + k * 1) rfl (.int .i64 (getI row k)) _ Try.underlying2 rfl (by rw [Nat.mul_one]; exact rdI_getI (hx.out _ hL) hlt)) ?_
          go_frame
          refine ls_ex (some 5) (.int .i64 k) rfl rfl (exec_assign _ rfl (.int .i64 k) rfl) ?_
          go_frame
          refine ls_ex (some 6) (.int .i64 (getI row k)) rfl rfl (exec_assign _ rfl (.int .i64 (getI row k)) rfl) ?_
          go_frame
          refine wpList_nil ?_
          go_upto_region 4 with (fail)
          refine wp_region_lit ?_
          refine ls_ex (some 15) (.int .i64 (getI row k)) rfl rfl (exec_move _ rfl (.int .i64 (getI row k)) rfl) ?_
          go_frame
          refine ls_ex (some 16) (.bool false) rfl rfl (exec_eql _ _ _ _ rfl ((getI row k)) 0 rfl rfl false HZ.out) ?_
          go_frame
          refine wpList_nil ?_
          go_upto_region 5 with (fail)
          refine wp_region_lit ?_
          refine ls_ex (some 17) (.pointer (some ⟨w.heap.size, 1, none⟩)) rfl rfl (exec_fieldAddr 68 _ 1 rfl _ (by kernel_rfl)) ?_
          go_frame
          refine ls_ex (some 18) (.int .i64 S.f) rfl rfl (exec_load_one 2 _ rfl w.heap.size 1 rfl (.int .i64 S.f) _ Try.underlying2 rfl (hT.at_ 1)) ?_
          go_frame
          refine ls_ex (some 19) (.bool true) rfl rfl (exec_eql _ _ _ _ rfl S.f 0 rfl rfl true HF.out) ?_
          go_frame
          refine wpList_nil ?_
          go_upto_region 6 with (fail)
          refine wp_region_lit ?_
          refine ls_ex (some 20) (.int .i64 k) rfl rfl (exec_move _ rfl (.int .i64 k) rfl) ?_
          go_frame
          refine ls_ex (some 21) (.int .i64 (getI row k)) rfl rfl (exec_move _ rfl (.int .i64 (getI row k)) rfl) ?_
          go_frame
          refine ls_ex (some 22) (.agg #[.int .i64 (k : Int), .int .i64 (getI row k)]) rfl rfl (exec_build_out _ _ rfl (k : Int) (getI row k) rfl rfl) ?_
          go_frame
          refine ls_op rfl (fun K' hK' => ?_)
          refine wp_store_all 68 _ _ rfl rfl w.heap.size rfl #[.int .i64 (k : Int), .int .i64 (getI row k)] rfl _ _ hT 2 (by kernel_rfl) rfl rfl (by intro x hx; simp at hx; rcases hx with rfl | rfl <;> rfl) (fun Wz8 pz9 => ?_)
          replace hL := pz9.below hL (by omega)
          replace hz : lo ≤ Wz8.heap.size := Nat.le_trans hz (Nat.le_of_eq (pz9.size rfl).symm)
          replace hF := fun k cs t h0 h1 h2 h3 => pz9.other (hF k cs t h0 h1 h2 h3) (by have := h0.lt; omega)
          replace hg := pz9.other hg (by omega)
          replace hv := hv.put pz9 (hv.off hT (by decide))
          replace hu := hu.put pz9 hub
          replace hT : At Wz8 w.heap.size (.cells #[.int .i64 (k : Int), .int .i64 (getI row k)] 68 (0, 0)) := pz9.at_
          refine hK' _ _ ?_
          clear hK' K' pz9
          refine wpList_nil ?_
          go_upto_region 9 with (fail)
          refine wp_region_lit ?_
          refine ls_ex (some 45) (.int .i64 (k + 1)) rfl rfl (exec_add _ _ _ _ rfl k 1 (k + 1) rfl rfl (IntWalk.i64_in _ (by omega))) ?_
          go_frame
          refine ls_ex (some 10) (.int .i64 (k + 1)) rfl rfl (exec_move _ rfl (.int .i64 (k + 1)) rfl) ?_
          go_frame
          refine wpList_nil ?_
          go_wp2_with fail
          go_roundw
          case rel => exact ⟨k + 1, ⟨S.ss, (k : Int), getI row k⟩, vv, by omega, by go_num, HS, HO, hL, hz, hF, hg, hT, hv, hu⟩
          case measure => simp [intOf]; omega
        · have hxk := HN.out k
          have HZ : Hid ((getI row k == 0) = false) := Lib.hid (by simpa using hx1)
          have HF : Hid ((S.f == 0) = false) := Lib.hid (by simpa using hf)
          have hb := RSok.facts hok hf
          have hi := inv_range HPr.out (show 1 ≤ S.f by omega) hb.2.1
          have hm := mul25 hp5.2 hxk.1 hxk.2 (show 0 ≤ inv p S.f by omega) (show inv p S.f < p by omega)
          have HS : Hid (rowSt p N row ss (k + 1) = ⟨S.ss ++ [[S.v, (k : Int), (getI row k * inv p S.f).tmod p]], ((N + S.ss.length : Nat) : Int), S.f⟩) := Lib.hid (by rw [rowSt_more hx1 (by rw [HG.out]; exact hf), HG.out])
          have HO : RSok p N ss.length (k + 1) ⟨S.ss ++ [[S.v, (k : Int), (getI row k * inv p S.f).tmod p]], ((N + S.ss.length : Nat) : Int), S.f⟩ := RSok.step hok hf
          obtain ⟨n9, hn91, hn92⟩ : ∃ n9, n9 ≤ S.ss.length + 1 ∧ S.ss.length + 1 ≤ n9 := ⟨_, Nat.le_refl _, Nat.le_refl _⟩
          clear hx1 hf
          go_upto_region 2 with (fail)
          refine wp_region_lit ?_
          refine ls_ex (some 11) (.bool true) rfl rfl (exec_lss _ _ _ _ rfl k row.length rfl rfl true (decide_eq_true (by omega))) ?_
          go_frame
          refine wpList_nil ?_
          go_upto_region 3 with (fail)
          refine wp_region_lit ?_
          refine ls_ex (some 12) (.int .i64 k) rfl rfl (exec_move _ rfl (.int .i64 k) rfl) ?_
          go_frame
          refine ls_ex (some 13) (.pointer (some ⟨bx, offx + k * 1, none⟩)) rfl rfl (exec_index_slice _ 2 _ _ rfl bx offx row.length cx k 1 rfl rfl Try.underlying26 (by kernel_rfl) (by omega)) ?_
          go_frame
          refine ls_ex (some 14) (.int .i64 (getI row k)) rfl rfl (exec_load_one 2 _ rfl bx (offx + k * 1) rfl (.int .i64 (getI row k)) _ Try.underlying2 rfl (by rw [Nat.mul_one]; exact rdI_getI (hx.out _ hL) hlt)) ?_
          go_frame
          refine ls_ex (some 5) (.int .i64 k) rfl rfl (exec_assign _ rfl (.int .i64 k) rfl) ?_
          go_frame
          refine ls_ex (some 6) (.int .i64 (getI row k)) rfl rfl (exec_assign _ rfl (.int .i64 (getI row k)) rfl) ?_
          go_frame
          refine wpList_nil ?_
          go_upto_region 4 with (fail)
          refine wp_region_lit ?_
          refine ls_ex (some 15) (.int .i64 (getI row k)) rfl rfl (exec_move _ rfl (.int .i64 (getI row k)) rfl) ?_
          go_frame
          refine ls_ex (some 16) (.bool false) rfl rfl (exec_eql _ _ _ _ rfl ((getI row k)) 0 rfl rfl false HZ.out) ?_
          go_frame
          refine wpList_nil ?_
          go_upto_region 5 with (fail)
          refine wp_region_lit ?_
          refine ls_ex (some 17) (.pointer (some ⟨w.heap.size, 1, none⟩)) rfl rfl (exec_fieldAddr 68 _ 1 rfl _ (by kernel_rfl)) ?_
          go_frame
          refine ls_ex (some 18) (.int .i64 S.f) rfl rfl (exec_load_one 2 _ rfl w.heap.size 1 rfl (.int .i64 S.f) _ Try.underlying2 rfl (hT.at_ 1)) ?_
          go_frame
          refine ls_ex (some 19) (.bool false) rfl rfl (exec_eql _ _ _ _ rfl S.f 0 rfl rfl false HF.out) ?_
          go_frame
          refine wpList_nil ?_
          go_upto_region 7 with (fail)
          refine wp_region_y (zs := []) (S := fun w' => At w' gp (.cells #[.int .i64 p, .int .i64 (N : Int), vv, u0] 33 (0, 0)) ∧ At w' w.heap.size (.cells #[.int .i64 S.v, .int .i64 S.f] 68 (0, 0))) (S2 := fun w' => True) (by kernel_rfl) ?_
          change wpAnyY _ _ _ _ _ _ _ _ _ _ (World.drew _)
          generalize hwdz10 : World.drew _ = wdz10
          replace hL : Below lo w wdz10 := by rw [← hwdz10]; exact hL.drew
          replace hz : lo ≤ wdz10.heap.size := by rw [← hwdz10]; exact hz
          replace hF : ∀ k cs t, At w k (.cells cs t (0, 0)) → k ≠ gp → t ≠ 66 → t ≠ 68 → At wdz10 k (.cells cs t (0, 0)) := by rw [← hwdz10]; exact hF
          replace hg : At wdz10 gp (.cells #[.int .i64 p, .int .i64 (N : Int), vv, u0] 33 (0, 0)) := by rw [← hwdz10]; exact hg
          replace hT : At wdz10 w.heap.size (.cells #[.int .i64 S.v, .int .i64 S.f] 68 (0, 0)) := by rw [← hwdz10]; exact hT
          replace hv : OwnK 66 3 wdz10 lo vv S.ss := by rw [← hwdz10]; exact hv.drew
          replace hu : OwnK 68 2 wdz10 lo u0 os := by rw [← hwdz10]; exact hu.drew
          clear hwdz10
          refine y_yield 0 (some 23) (.int .i64 (getI row k)) rfl (by kernel_rfl) (by kernel_rfl) (by kernel_rfl) (fun _ _ _ h => h) rfl rfl ⟨hg, hT⟩ (fun w' h' => exec_move _ rfl (.int .i64 (getI row k)) rfl) ?_
          go_frame
          refine y_yield 1 (some 24) (.pointer (some ⟨gp, 0, none⟩)) rfl (by kernel_rfl) (by kernel_rfl) (by kernel_rfl) (fun _ _ _ h => h) rfl rfl ⟨hg, hT⟩ (fun w' h' => exec_move _ rfl (.pointer (some ⟨gp, 0, none⟩)) rfl) ?_
          go_frame
          refine y_yield 2 (some 25) (.pointer (some ⟨gp, 0, none⟩)) rfl (by kernel_rfl) (by kernel_rfl) (by kernel_rfl) (fun _ _ _ h => h) rfl rfl ⟨hg, hT⟩ (fun w' h' => exec_nilCheck _ rfl ⟨gp, 0, none⟩ rfl) ?_
          go_frame
          refine y_yield 3 (some 26) (.pointer (some ⟨gp, 0, none⟩)) rfl (by kernel_rfl) (by kernel_rfl) (by kernel_rfl) (fun _ _ _ h => h) rfl rfl ⟨hg, hT⟩ (fun w' h' => exec_fieldAddr 33 _ 0 rfl _ (by kernel_rfl)) ?_
          go_frame
          refine y_yield 4 (some 27) (.int .i64 p) rfl (by kernel_rfl) (by kernel_rfl) (by kernel_rfl) (fun _ _ _ h => h) rfl rfl ⟨hg, hT⟩ (fun w' h' => exec_load_one 2 _ rfl gp 0 rfl (.int .i64 p) _ Try.underlying2 rfl (h'.1.at_ 0)) ?_
          go_frame
          refine y_yield 5 (some 28) (.pointer (some ⟨w.heap.size, 1, none⟩)) rfl (by kernel_rfl) (by kernel_rfl) (by kernel_rfl) (fun _ _ _ h => h) rfl rfl ⟨hg, hT⟩ (fun w' h' => exec_fieldAddr 68 _ 1 rfl _ (by kernel_rfl)) ?_
          go_frame
          refine y_yield 6 (some 29) (.int .i64 S.f) rfl (by kernel_rfl) (by kernel_rfl) (by kernel_rfl) (fun _ _ _ h => h) rfl rfl ⟨hg, hT⟩ (fun w' h' => exec_load_one 2 _ rfl w.heap.size 1 rfl (.int .i64 S.f) _ Try.underlying2 rfl (h'.2.at_ 1)) ?_
          go_frame
          refine y_yield 9 (some 32) (.pointer (some ⟨gp, 0, none⟩)) rfl (by kernel_rfl) (by kernel_rfl) (by kernel_rfl) (fun _ _ _ h => h) rfl rfl ⟨hg, hT⟩ (fun w' h' => exec_move _ rfl (.pointer (some ⟨gp, 0, none⟩)) rfl) ?_
          go_frame
          refine y_yield 10 (some 33) (.pointer (some ⟨gp, 0, none⟩)) rfl (by kernel_rfl) (by kernel_rfl) (by kernel_rfl) (fun _ _ _ h => h) rfl rfl ⟨hg, hT⟩ (fun w' h' => exec_nilCheck _ rfl ⟨gp, 0, none⟩ rfl) ?_
          go_frame
          refine y_yield 11 (some 34) (.pointer (some ⟨gp, 0, none⟩)) rfl (by kernel_rfl) (by kernel_rfl) (by kernel_rfl) (fun _ _ _ h => h) rfl rfl ⟨hg, hT⟩ (fun w' h' => exec_fieldAddr 33 _ 0 rfl _ (by kernel_rfl)) ?_
          go_frame
          refine y_yield 12 (some 35) (.int .i64 p) rfl (by kernel_rfl) (by kernel_rfl) (by kernel_rfl) (fun _ _ _ h => h) rfl rfl ⟨hg, hT⟩ (fun w' h' => exec_load_one 2 _ rfl gp 0 rfl (.int .i64 p) _ Try.underlying2 rfl (h'.1.at_ 0)) ?_
          go_frame
          refine y_oper 7 (by kernel_rfl) rfl rfl (fun K' hK' => ?_)
          have lz13 := hg.lt
          have lz14 := hT.lt
          refine wp_call2 (some 30) rfl 74 _ _ _ rfl (fun args w => by kernel_rfl) _ _ rfl rfl _ (inverseOf_c p S.f _ HPr.out (by omega) hb.2.1) (fun e Wz11 h => ?_)
          obtain ⟨rfl, rfl⟩ := h
          refine ⟨_, rfl, ?_⟩
          refine hK' _ _ ⟨hg, hT⟩ (fun _ => trivial) ?_
          clear hK' K'
          go_frame
          refine y_yield 8 (some 31) (.int .i64 ((getI row k) * (inv p S.f))) rfl (by kernel_rfl) (by kernel_rfl) (by kernel_rfl) (fun _ _ _ h => h) rfl rfl ⟨hg, hT⟩ (fun w' h' => exec_mul _ _ _ _ rfl ((getI row k)) ((inv p S.f)) ((getI row k) * (inv p S.f)) rfl rfl (IntWalk.i64_in _ (by omega))) ?_
          go_frame
          refine y_yield 13 (some 36) (.int .i64 ((getI row k * inv p S.f).tmod p)) rfl (by kernel_rfl) (by kernel_rfl) (by kernel_rfl) (fun _ _ _ h => h) rfl rfl ⟨hg, hT⟩ (fun w' h' => exec_rem _ _ _ _ rfl (getI row k * inv p S.f) p _ rfl rfl (by omega) rfl) ?_
          go_frame
          refine y_oper 14 (by kernel_rfl) rfl rfl (fun K' hK' => ?_)
          refine wp_exec (some 7) rfl (.int .i64 ((getI row k * inv p S.f).tmod p)) (exec_assign _ rfl (.int .i64 ((getI row k * inv p S.f).tmod p)) rfl) ?_
          refine hK' _ _ ⟨hg, hT⟩ (fun _ => trivial) ?_
          clear hK' K'
          go_frame
          refine y_done (by kernel_rfl) ?_ _
          go_upto_region 8 with (fail)
          refine wp_region_lit ?_
          refine ls_ex (some 37) (.pointer (some ⟨gp, 0, none⟩)) rfl rfl (exec_move _ rfl (.pointer (some ⟨gp, 0, none⟩)) rfl) ?_
          go_frame
          refine ls_ex (some 38) (.pointer (some ⟨w.heap.size, 0, none⟩)) rfl rfl (exec_fieldAddr 68 _ 0 rfl _ (by kernel_rfl)) ?_
          go_frame
          refine ls_ex (some 39) (.int .i64 S.v) rfl rfl (exec_load_one 2 _ rfl w.heap.size 0 rfl (.int .i64 S.v) _ Try.underlying2 rfl (hT.at_ 0)) ?_
          go_frame
          refine ls_ex (some 40) (.int .i64 k) rfl rfl (exec_move _ rfl (.int .i64 k) rfl) ?_
          go_frame
          refine ls_ex (some 41) (.int .i64 ((getI row k * inv p S.f).tmod p)) rfl rfl (exec_move _ rfl (.int .i64 ((getI row k * inv p S.f).tmod p)) rfl) ?_
          go_frame
          refine ls_ex (some 42) (.agg #[.int .i64 S.v, .int .i64 (k : Int), .int .i64 ((getI row k * inv p S.f).tmod p)]) rfl rfl (exec_build_step _ _ _ rfl S.v (k : Int) _ rfl rfl rfl) ?_
          go_frame
          refine ls_op rfl (fun K' hK' => ?_)
          have lz16 := hg.lt
          have lz17 := hT.lt
          refine wp_call2 (some 43) rfl 75 _ _ _ rfl (fun args w => by kernel_rfl) _ _ rfl rfl _ (addStep_c p N lo gp n9 vv u0 S.ss os S.v ((k : Int)) ((getI row k * inv p S.f).tmod p) _ hg hv hu hgp hn91 hn92 (by have := hok.len; omega) hN) (fun e Wz15 h => ?_)
          obtain ⟨An9, cn9, rfl, hg9, hv9, hu9, hL9, hF9⟩ := h
          replace hF := fun k cs t h0 h1 h2 h3 => hF9 k cs t (hF k cs t h0 h1 h2 h3) h1 h2
          replace hT := hF9 _ _ _ hT (by omega) (by decide)
          replace hL := hL.trans hL9
          replace hz := Nat.le_trans hz hL9.size
          replace hg := hg9
          replace hv := hv9
          replace hu := hu9
          clear hF9 hL9 hg9 hv9 hu9
          refine ⟨_, rfl, ?_⟩
          refine hK' _ _ ?_
          clear hK' K'
          go_frame
          refine ls_ex (some 44) (.pointer (some ⟨w.heap.size, 0, none⟩)) rfl rfl (exec_fieldAddr 68 _ 0 rfl _ (by kernel_rfl)) ?_
          go_frame
          refine ls_op rfl (fun K' hK' => ?_)
          refine wp_store_one 2 _ _ rfl rfl w.heap.size 0 rfl (.int .i64 ((N + S.ss.length : Nat) : Int)) rfl rfl rfl _ _ hT (by kernel_rfl) (by simp) (fun Wz18 pz19 => ?_)
          replace hL := pz19.below hL (by omega)
          replace hz : lo ≤ Wz18.heap.size := Nat.le_trans hz (Nat.le_of_eq (pz19.size rfl).symm)
          replace hF := fun k cs t h0 h1 h2 h3 => pz19.other (hF k cs t h0 h1 h2 h3) (by have := h0.lt; omega)
          replace hg := pz19.other hg (by omega)
          replace hv := hv.put pz19 (hv.off hT (by decide))
          replace hu := hu.put pz19 hub
          replace hT : At Wz18 w.heap.size (.cells #[.int .i64 ((N + S.ss.length : Nat) : Int), .int .i64 S.f] 68 (0, 0)) := pz19.at_
          refine hK' _ _ ?_
          clear hK' K' pz19
          refine wpList_nil ?_
          go_upto_region 9 with (fail)
          refine wp_region_lit ?_
          refine ls_ex (some 45) (.int .i64 (k + 1)) rfl rfl (exec_add _ _ _ _ rfl k 1 (k + 1) rfl rfl (IntWalk.i64_in _ (by omega))) ?_
          go_frame
          refine ls_ex (some 10) (.int .i64 (k + 1)) rfl rfl (exec_move _ rfl (.int .i64 (k + 1)) rfl) ?_
          go_frame
          refine wpList_nil ?_
          go_wp2_with fail
          go_roundw
          case rel => exact ⟨k + 1, ⟨S.ss ++ [[S.v, (k : Int), (getI row k * inv p S.f).tmod p]], ((N + S.ss.length : Nat) : Int), S.f⟩, _, by omega, by go_num, HS, HO, hL, hz, hF, hg, hT, hv, hu⟩
          case measure => simp [intOf]; omega
    · have hk9 : k = row.length := by omega
      have HE : Hid (rowSt p N row ss row.length = S) := Lib.hid (by rw [← hk9]; exact HG.out)
      obtain ⟨n8, hn81, hn82⟩ : ∃ n8, n8 ≤ os.length + 1 ∧ os.length + 1 ≤ n8 := ⟨_, Nat.le_refl _, Nat.le_refl _⟩
      obtain ⟨n7, hn71, hn72⟩ : ∃ n7, n7 ≤ S.ss.length ∧ S.ss.length ≤ n7 := ⟨_, Nat.le_refl _, Nat.le_refl _⟩
      obtain ⟨An7, cn7, rfl⟩ := OwnK.rdN hv (n := n7) (by omega)
      clear hk9
      go_upto_region 2 with (fail)
      refine wp_region_lit ?_
      refine ls_ex (some 11) (.bool false) rfl rfl (exec_lss _ _ _ _ rfl k row.length rfl rfl false (decide_eq_false (by omega))) ?_
      go_frame
      refine wpList_nil ?_
      go_upto_region 10 with (fail)
      refine wp_region_y (zs := [7, 10]) (S := fun w' => True) (S2 := fun w' => At w' gp (.cells #[.int .i64 p, .int .i64 (N : Int), (.slice An7 n7 cn7), u0] 33 (0, 0)) ∧ At w' w.heap.size (.cells #[.int .i64 S.v, .int .i64 S.f] 68 (0, 0))) (by kernel_rfl) ?_
      change wpAnyY _ _ _ _ _ _ _ _ _ _ (World.drew _)
      generalize hwdz20 : World.drew _ = wdz20
      replace hL : Below lo w wdz20 := by rw [← hwdz20]; exact hL.drew
      replace hz : lo ≤ wdz20.heap.size := by rw [← hwdz20]; exact hz
      replace hF : ∀ k cs t, At w k (.cells cs t (0, 0)) → k ≠ gp → t ≠ 66 → t ≠ 68 → At wdz20 k (.cells cs t (0, 0)) := by rw [← hwdz20]; exact hF
      replace hg : At wdz20 gp (.cells #[.int .i64 p, .int .i64 (N : Int), (.slice An7 n7 cn7), u0] 33 (0, 0)) := by rw [← hwdz20]; exact hg
      replace hT : At wdz20 w.heap.size (.cells #[.int .i64 S.v, .int .i64 S.f] 68 (0, 0)) := by rw [← hwdz20]; exact hT
      replace hv : OwnK 66 3 wdz20 lo (.slice An7 n7 cn7) S.ss := by rw [← hwdz20]; exact hv.drew
      replace hu : OwnK 68 2 wdz20 lo u0 os := by rw [← hwdz20]; exact hu.drew
      clear hwdz20
      refine y_yield 0 (some 46) (.pointer (some ⟨gp, 0, none⟩)) rfl (by kernel_rfl) (by kernel_rfl) (by kernel_rfl) (fun _ _ _ h => h) rfl rfl trivial (fun w' h' => exec_move _ rfl (.pointer (some ⟨gp, 0, none⟩)) rfl) ?_
      go_frame
      refine y_yield 1 (some 47) (.pointer (some ⟨gp, 0, none⟩)) rfl (by kernel_rfl) (by kernel_rfl) (by kernel_rfl) (fun _ _ _ h => h) rfl rfl trivial (fun w' h' => exec_move _ rfl (.pointer (some ⟨gp, 0, none⟩)) rfl) ?_
      go_frame
      refine y_yield 2 (some 48) (.pointer (some ⟨gp, 0, none⟩)) rfl (by kernel_rfl) (by kernel_rfl) (by kernel_rfl) (fun _ _ _ h => h) rfl rfl trivial (fun w' h' => exec_nilCheck _ rfl ⟨gp, 0, none⟩ rfl) ?_
      go_frame
      refine y_yield 3 (some 49) (.pointer (some ⟨gp, 3, none⟩)) rfl (by kernel_rfl) (by kernel_rfl) (by kernel_rfl) (fun _ _ _ h => h) rfl rfl trivial (fun w' h' => exec_fieldAddr 33 _ 3 rfl _ (by kernel_rfl)) ?_
      go_frame
      refine y_yield3 4 (some 50) (u0) rfl 11 (by kernel_rfl) (by kernel_rfl) (by kernel_rfl) (by kernel_rfl) (by kernel_rfl) (fun _ _ _ h => h) rfl rfl trivial ⟨hg, hT⟩ (fun w' h' h2' => exec_load_one 31 _ rfl gp 3 rfl (u0) _ Try.underlying31 rfl (h2'.1.at_ 3)) ?_
      go_frame
      refine y_yield3 5 (some 51) (.agg #[.int .i64 S.v, .int .i64 S.f]) rfl 11 (by kernel_rfl) (by kernel_rfl) (by kernel_rfl) (by kernel_rfl) (by kernel_rfl) (fun _ _ _ h => h) rfl rfl trivial ⟨hg, hT⟩ (fun w' h' h2' => exec_load_all 68 _ rfl w.heap.size rfl _ _ _ h2'.2 Try.underlying68 rfl 2 (by kernel_rfl) rfl) ?_
      go_frame
      refine y_oper 6 (by kernel_rfl) rfl rfl (fun K' hK' => ?_)
      have lz21 := hg.lt
      have lz22 := hT.lt
      refine wp_new (some 52) rfl (exec_bs1Output _ rfl S.v S.f rfl) (fun Wz23 nnz24 => ?_)
      have bz25 := nnz24.below (Below.refl _ _) (Nat.le_refl _)
      replace hL := hL.trans (below_mono bz25 (by omega))
      replace hz := size_after hz bz25
      replace hF := fun k cs t h0 h1 h2 h3 => (hF k cs t h0 h1 h2 h3).after bz25
      replace hg := hg.after bz25
      replace hT := hT.after bz25
      replace hv := hv.below bz25
      replace hu := hu.below bz25
      have hqz26 : At Wz23 wdz20.heap.size (.cells #[.int .i64 S.v, .int .i64 S.f] 68 (0, 0)) := nnz24.at_
      refine hK' _ _ trivial (fun _ => ⟨hg, hT⟩) ?_
      clear hK' K' nnz24 bz25
      go_frame
      refine y_oper 7 (by kernel_rfl) rfl rfl (fun K' hK' => ?_)
      have lz30 := hg.lt
      have lz31 := hT.lt
      have lz32 := hqz26.lt
      refine wp_appOutput (some 53) rfl _ _ rfl u0 os S.v S.f rfl hu wdz20.heap.size rfl hqz26 (by omega) hz (fun u9 Wz27 noz29 grz28 => ?_)
      obtain ⟨An8, cn8, rfl⟩ := OwnK.rdN noz29 (n := n8) (by simp; omega)
      replace hL := hL.trans (OwnK.belowG hu grz28 hz)
      replace hz := Nat.le_trans hz grz28.size
      replace hF := fun k cs t h0 h1 h2 h3 => (hF k cs t h0 h1 h2 h3).grown grz28 (hu.off (hF k cs t h0 h1 h2 h3) h3)
      replace hg := hg.grown grz28 (hu.off hg (by decide))
      replace hv := hv.grown grz28 (OwnK.apart hv hu (by decide))
      replace hu := noz29
      refine hK' _ _ trivial (fun h => absurd (by decide) h) ?_
      clear hK' K' grz28
      go_frame
      refine y_yield 8 (some 54) (.pointer (some ⟨gp, 0, none⟩)) rfl (by kernel_rfl) (by kernel_rfl) (by kernel_rfl) (fun _ _ _ h => h) rfl rfl trivial (fun w' h' => exec_nilCheck _ rfl ⟨gp, 0, none⟩ rfl) ?_
      go_frame
      refine y_yield 9 (some 55) (.pointer (some ⟨gp, 3, none⟩)) rfl (by kernel_rfl) (by kernel_rfl) (by kernel_rfl) (fun _ _ _ h => h) rfl rfl trivial (fun w' h' => exec_fieldAddr 33 _ 3 rfl _ (by kernel_rfl)) ?_
      go_frame
      refine y_oper 10 (by kernel_rfl) rfl rfl (fun K' hK' => ?_)
      refine wp_store_one 31 _ _ rfl rfl gp 3 rfl (.slice An8 n8 cn8) rfl rfl rfl _ _ hg (by kernel_rfl) (by simp) (fun Wz33 pz34 => ?_)
      replace hL := pz34.below hL (by omega)
      replace hz : lo ≤ Wz33.heap.size := Nat.le_trans hz (Nat.le_of_eq (pz34.size rfl).symm)
      replace hF := fun k cs t h0 h1 h2 h3 => pz34.other (hF k cs t h0 h1 h2 h3) (by have := h0.lt; omega)
      replace hv := hv.put pz34 (hv.off hg (by decide))
      replace hu := hu.put pz34 (hu.off hg (by decide))
      replace hg : At Wz33 gp (.cells #[.int .i64 p, .int .i64 (N : Int), .slice An7 n7 cn7, .slice An8 n8 cn8] 33 (0, 0)) := pz34.at_
      refine hK' _ _ trivial (fun h => absurd (by decide) h) ?_
      clear hK' K' pz34
      refine y_done (by kernel_rfl) ?_ _
      go_wp2_with fail
      (first | (refine bodyPost_ret (results_none rfl _ _ _) rfl ?_) | (refine bodyPost_end (results_none rfl _ _ _) rfl ?_))
      exact ⟨_, _, _, rfl, hg, by rw [HE.out]; exact hv, by rw [HE.out]; exact hu, hL, hF⟩
set_option maxHeartbeats 25600000 in
theorem l07Row_c (p : Int) (N lo : Nat) (v0 u0 : Value) (ss os : List (List Int)) (bx offx cx : Nat) (row : List Int) (w : World) (hv0 : OwnK 66 3 w lo v0 ss) (hu0 : OwnK 68 2 w lo u0 os) (hlo : lo ≤ w.heap.size) (hx0 : ∀ w', Below lo w w' → RdI w' (some ⟨bx, offx, none⟩) row) (hp : primeB p = true) (hrl : row.length ≤ 1000) (hss : ss.length ≤ 1000) (hos : os.length ≤ 1000) (hN : N ≤ 30) (hnums : NumsP p row) :
    Calls Try.prog 60 #[.agg #[.int .i64 p, .int .i64 (N : Int), v0, u0], .slice (some ⟨bx, offx, none⟩) row.length cx] w (fun e w' => ∃ v u, e = .returned (.agg #[.int .i64 p, .int .i64 (N : Int), v, u]) ∧ OwnK 66 3 w' lo v (rowSt p N row ss row.length).ss ∧ OwnK 68 2 w' lo u (os ++ [[(rowSt p N row ss row.length).v, (rowSt p N row ss row.length).f]]) ∧ Below lo w w' ∧ (∀ k cs t, At w k (.cells cs t (0, 0)) → t ≠ 66 → t ≠ 68 → At w' k (.cells cs t (0, 0)))) := by
  have hB := Below.refl w.heap.size w
  have hp5 := primeB_bounds hp
  have hL := Below.refl lo w
  have hz := hlo
  have hv := hv0
  have hu := hu0
  have hF : ∀ k cs t, At w k (.cells cs t (0, 0)) → t ≠ 66 → t ≠ 68 → At w k (.cells cs t (0, 0)) := fun k cs t h0 _ _ => h0
  have hx := Lib.hid hx0
  have HN := Lib.hid hnums
  have HPr := Lib.hid hp
  clear hB hv0 hu0 hx0 hnums hp
  go_enter Try.func60, Try.ntmps60
  go_upto_region 0 with (fail)
  refine wp_region_lit ?_
  refine ls_op rfl (fun K' hK' => ?_)
  have naz5 := hv.away_new
  have naz6 := hu.away_new
  refine wp_new (some 2) rfl (exec_box 33 _ rfl (#[.int .i64 p, .int .i64 (N : Int), v0, u0]) rfl) (fun Wz1 nnz2 => ?_)
  have bz3 := nnz2.below (Below.refl _ _) (Nat.le_refl _)
  replace hL := hL.trans (below_mono bz3 (by omega))
  replace hz := size_after hz bz3
  replace hF := fun k cs t h0 h1 h2 => (hF k cs t h0 h1 h2).after bz3
  replace hv := hv.below bz3
  replace hu := hu.below bz3
  have hz4 : At Wz1 w.heap.size (.cells #[.int .i64 p, .int .i64 (N : Int), v0, u0] 33 (0, 0)) := nnz2.at_
  refine hK' _ _ ?_
  clear hK' K' nnz2 bz3
  go_frame
  refine ls_op rfl (fun K' hK' => ?_)
  have lz7 := hz4.lt
  have naz12 := hv.away_new
  have naz13 := hu.away_new
  refine wp_new (some 4) rfl (al_impl_Program rfl) (fun Wz8 nnz9 => ?_)
  have bz10 := nnz9.below (Below.refl _ _) (Nat.le_refl _)
  replace hL := hL.trans (below_mono bz10 (by omega))
  replace hz := size_after hz bz10
  replace hF := fun k cs t h0 h1 h2 => (hF k cs t h0 h1 h2).after bz10
  replace hv := hv.below bz10
  replace hu := hu.below bz10
  replace hz4 := hz4.after bz10
  have hz11 : At Wz8 Wz1.heap.size (.cells #[.int .i64 0, .int .i64 0, .slice none 0 0, .slice none 0 0] 33 (0, 0)) := nnz9.at_
  refine hK' _ _ ?_
  clear hK' K' nnz9 bz10
  go_frame
  refine wpList_nil ?_
  go_upto_region 1 with (fail)
  refine wp_region_lit ?_
  refine ls_ex (some 5) (.int .i64 (-1)) rfl rfl (exec_assign _ rfl (.int .i64 (-1)) rfl) ?_
  go_frame
  refine ls_ex (some 6) (.int .i64 0) rfl rfl (exec_assign _ rfl (.int .i64 0) rfl) ?_
  go_frame
  refine wpList_nil ?_
  go_upto_region 2 with (fail)
  refine wp_region_lit ?_
  refine ls_ex (some 7) (.int .i64 0) rfl rfl (exec_assign _ rfl (.int .i64 0) rfl) ?_
  go_frame
  refine wpList_nil ?_
  go_wp2_with fail
  go_loopw [7, 5, 6] (fun s7 s5 s6 wr => ∃ (k : Nat) (S : RS) (vv : Value) (val : Int), k ≤ row.length ∧ s7 = .int .i64 k ∧ s5 = .int .i64 val ∧ s6 = .int .i64 S.f ∧ Hid (rowSt p N row ss k = S) ∧ RSok p N ss.length k S ∧ ((S.f = 0 ∧ val = -1) ∨ (S.f ≠ 0 ∧ val = S.v)) ∧ Below lo w wr ∧ lo ≤ wr.heap.size ∧ (∀ k cs t, At w k (.cells cs t (0, 0)) → t ≠ 66 → t ≠ 68 → At wr k (.cells cs t (0, 0))) ∧ At wr w.heap.size (.cells #[.int .i64 p, .int .i64 (N : Int), vv, u0] 33 (0, 0)) ∧ At wr Wz1.heap.size (.cells #[.int .i64 0, .int .i64 0, .slice none 0 0, .slice none 0 0] 33 (0, 0)) ∧ OwnK 66 3 wr lo vv S.ss ∧ OwnK 68 2 wr lo u0 os) (fun s7 _ _ _ => row.length - (intOf s7).toNat)
  case atStart => exact ⟨0, ⟨ss, 0, 0⟩, v0, -1, by omega, rfl, rfl, rfl, Lib.hid rfl, RSok.start p N ss (by omega), .inl ⟨rfl, rfl⟩, hL, hz, hF, hz4, hz11, hv, hu⟩
  case round =>
    clear hL hz hF hv hu hz4 hz11
    obtain ⟨k, S, vv, val, hk, rfl, rfl, rfl, HG, hok, hval, hL, hz, hF, h0, hR, hv, hu⟩ := hrel
    by_cases hlt : k < row.length
    · by_cases hx1 : getI row k = 0
      · have hxk := HN.out k
        have HZ : Hid ((getI row k == 0) = true) := Lib.hid (by simpa using hx1)
        have HS : Hid (rowSt p N row ss (k + 1) = S) := Lib.hid (by rw [rowSt_zero hx1]; exact HG.out)
        have HO := RSok.more hok
        clear hx1
        go_upto_region 3 with (fail)
        refine wp_region_lit ?_
        refine ls_ex (some 8) (.int .i64 k) rfl rfl (exec_move _ rfl (.int .i64 k) rfl) ?_
        go_frame
        refine ls_ex (some 9) (.slice (some ⟨bx, offx, none⟩) row.length cx) rfl rfl (exec_move _ rfl (.slice (some ⟨bx, offx, none⟩) row.length cx) rfl) ?_
        go_frame
        refine ls_ex (some 10) (.int .i64 row.length) rfl rfl (exec_len _ 26 2 rfl ((some ⟨bx, offx, none⟩)) row.length cx rfl Try.underlying26) ?_
        go_frame
        refine ls_ex (some 11) (.bool true) rfl rfl (exec_lss _ _ _ _ rfl k row.length rfl rfl true (decide_eq_true (by omega))) ?_
        go_frame
        refine wpList_nil ?_
        go_upto_region 7 with (fail)
        refine wp_region_lit ?_
        refine ls_ex (some 42) (.slice (some ⟨bx, offx, none⟩) row.length cx) rfl rfl (exec_move _ rfl (.slice (some ⟨bx, offx, none⟩) row.length cx) rfl) ?_
        go_frame
        refine ls_ex (some 43) (.int .i64 k) rfl rfl (exec_move _ rfl (.int .i64 k) rfl) ?_
        go_frame
        refine ls_ex (some 44) (.pointer (some ⟨bx, offx + k * 1, none⟩)) rfl rfl (exec_index_slice _ 2 _ _ rfl bx offx row.length cx k 1 rfl rfl Try.underlying26 (by kernel_rfl) (by omega)) ?_
        go_frame
        refine ls_ex (some 45) (.int .i64 (getI row k)) rfl rfl (exec_load_one 2 _ rfl bx (offx + k * 1) rfl (.int .i64 (getI row k)) _ Try.underlying2 rfl (by rw [Nat.mul_one]; exact rdI_getI (hx.out _ hL) hlt)) ?_
        go_frame
        refine ls_ex (some 46) (.bool true) rfl rfl (exec_eql _ _ _ _ rfl ((getI row k)) 0 rfl rfl true HZ.out) ?_
        go_frame
        refine ls_ex (some 41) (.bool true) rfl rfl (exec_assign _ rfl (.bool true) rfl) ?_
        go_frame
        refine wpList_nil ?_
        go_upto_region 4 with (fail)
        refine wp_region_lit ?_
        refine ls_ex (some 12) (.int .i64 k) rfl rfl (exec_move _ rfl (.int .i64 k) rfl) ?_
        go_frame
        refine ls_ex (some 13) (.int .i64 (k + 1)) rfl rfl (exec_add _ _ _ _ rfl k 1 (k + 1) rfl rfl (IntWalk.i64_in _ (by omega))) ?_
        go_frame
        refine ls_ex (some 7) (.int .i64 (k + 1)) rfl rfl (exec_assign _ rfl (.int .i64 (k + 1)) rfl) ?_
        go_frame
        refine wpList_nil ?_
        go_wp2_with fail
        go_roundw
        case rel => exact ⟨k + 1, S, vv, val, by omega, by go_num, rfl, rfl, HS, HO, hval, hL, hz, hF, h0, hR, hv, hu⟩
        case measure => simp [intOf]; omega
      · by_cases hf : S.f = 0
        · have hxk := HN.out k
          have HZ : Hid ((getI row k == 0) = false) := Lib.hid (by simpa using hx1)
          obtain rfl : val = -1 := by omega
          have HS : Hid (rowSt p N row ss (k + 1) = ⟨S.ss, (k : Int), getI row k⟩) := Lib.hid (by rw [rowSt_first hx1 (by rw [HG.out]; exact hf), HG.out])
          have HO : RSok p N ss.length (k + 1) ⟨S.ss, (k : Int), getI row k⟩ := RSok.first hok hxk hx1
          have HX : Hid (getI row k ≠ 0) := Lib.hid hx1
          clear hx1
          go_upto_region 3 with (fail)
          refine wp_region_lit ?_
          refine ls_ex (some 8) (.int .i64 k) rfl rfl (exec_move _ rfl (.int .i64 k) rfl) ?_
          go_frame
          refine ls_ex (some 9) (.slice (some ⟨bx, offx, none⟩) row.length cx) rfl rfl (exec_move _ rfl (.slice (some ⟨bx, offx, none⟩) row.length cx) rfl) ?_
          go_frame
          refine ls_ex (some 10) (.int .i64 row.length) rfl rfl (exec_len _ 26 2 rfl ((some ⟨bx, offx, none⟩)) row.length cx rfl Try.underlying26) ?_
          go_frame
          refine ls_ex (some 11) (.bool true) rfl rfl (exec_lss _ _ _ _ rfl k row.length rfl rfl true (decide_eq_true (by omega))) ?_
          go_frame
          refine wpList_nil ?_
          go_upto_region 7 with (fail)
          refine wp_region_lit ?_
          refine ls_ex (some 42) (.slice (some ⟨bx, offx, none⟩) row.length cx) rfl rfl (exec_move _ rfl (.slice (some ⟨bx, offx, none⟩) row.length cx) rfl) ?_
          go_frame
          refine ls_ex (some 43) (.int .i64 k) rfl rfl (exec_move _ rfl (.int .i64 k) rfl) ?_
          go_frame
          refine ls_ex (some 44) (.pointer (some ⟨bx, offx + k * 1, none⟩)) rfl rfl (exec_index_slice _ 2 _ _ rfl bx offx row.length cx k 1 rfl rfl Try.underlying26 (by kernel_rfl) (by omega)) ?_
          go_frame
          refine ls_ex (some 45) (.int .i64 (getI row k)) rfl rfl (exec_load_one 2 _ rfl bx (offx + k * 1) rfl (.int .i64 (getI row k)) _ Try.underlying2 rfl (by rw [Nat.mul_one]; exact rdI_getI (hx.out _ hL) hlt)) ?_
          go_frame
          refine ls_ex (some 46) (.bool false) rfl rfl (exec_eql _ _ _ _ rfl ((getI row k)) 0 rfl rfl false HZ.out) ?_
          go_frame
          refine ls_ex (some 41) (.bool false) rfl rfl (exec_assign _ rfl (.bool false) rfl) ?_
          go_frame
          refine wpList_nil ?_
          go_upto_region 8 with (fail)
          refine wp_region_lit ?_
          refine ls_ex (some 48) (.int .i64 (-1)) rfl rfl (exec_move _ rfl (.int .i64 (-1)) rfl) ?_
          go_frame
          refine ls_ex (some 49) (.bool true) rfl rfl (exec_lss _ _ _ _ rfl ((-1)) 0 rfl rfl true rfl) ?_
          go_frame
          refine ls_ex (some 47) (.bool true) rfl rfl (exec_assign _ rfl (.bool true) rfl) ?_
          go_frame
          refine wpList_nil ?_
          go_upto_region 9 with (fail)
          refine wp_region_lit ?_
          refine ls_ex (some 50) (.int .i64 k) rfl rfl (exec_move _ rfl (.int .i64 k) rfl) ?_
          go_frame
          refine ls_ex (some 5) (.int .i64 k) rfl rfl (exec_assign _ rfl (.int .i64 k) rfl) ?_
          go_frame
          refine wpList_nil ?_
          go_upto_region 10 with (fail)
          refine wp_region_lit ?_
          refine ls_ex (some 51) (.slice (some ⟨bx, offx, none⟩) row.length cx) rfl rfl (exec_move _ rfl (.slice (some ⟨bx, offx, none⟩) row.length cx) rfl) ?_
          go_frame
          refine ls_ex (some 52) (.int .i64 k) rfl rfl (exec_move _ rfl (.int .i64 k) rfl) ?_
          go_frame
          refine ls_ex (some 53) (.pointer (some ⟨bx, offx + k * 1, none⟩)) rfl rfl (exec_index_slice _ 2 _ _ rfl bx offx row.length cx k 1 rfl rfl Try.underlying26 (by kernel_rfl) (by omega)) ?_
          go_frame
          refine ls_ex (some 54) (.int .i64 (getI row k)) rfl rfl (exec_load_one 2 _ rfl bx (offx + k * 1) rfl (.int .i64 (getI row k)) _ Try.underlying2 rfl (by rw [Nat.mul_one]; exact rdI_getI (hx.out _ hL) hlt)) ?_
          go_frame
          refine ls_ex (some 6) (.int .i64 (getI row k)) rfl rfl (exec_assign _ rfl (.int .i64 (getI row k)) rfl) ?_
          go_frame
          refine wpList_nil ?_
          go_upto_region 4 with (fail)
          refine wp_region_lit ?_
          refine ls_ex (some 12) (.int .i64 k) rfl rfl (exec_move _ rfl (.int .i64 k) rfl) ?_
          go_frame
          refine ls_ex (some 13) (.int .i64 (k + 1)) rfl rfl (exec_add _ _ _ _ rfl k 1 (k + 1) rfl rfl (IntWalk.i64_in _ (by omega))) ?_
          go_frame
          refine ls_ex (some 7) (.int .i64 (k + 1)) rfl rfl (exec_assign _ rfl (.int .i64 (k + 1)) rfl) ?_
          go_frame
          refine wpList_nil ?_
          go_wp2_with fail
          go_roundw
          case rel => exact ⟨k + 1, ⟨S.ss, (k : Int), getI row k⟩, vv, (k : Int), by omega, by go_num, rfl, rfl, HS, HO, .inr ⟨HX.out, rfl⟩, hL, hz, hF, h0, hR, hv, hu⟩
          case measure => simp [intOf]; omega
        · have hxk := HN.out k
          have HZ : Hid ((getI row k == 0) = false) := Lib.hid (by simpa using hx1)
          obtain rfl : val = S.v := by omega
          have hb := RSok.facts hok hf
          have hi := inv_range HPr.out (show 1 ≤ S.f by omega) hb.2.1
          have hm := mul25 hp5.2 hxk.1 hxk.2 (show 0 ≤ inv p S.f by omega) (show inv p S.f < p by omega)
          have HS : Hid (rowSt p N row ss (k + 1) = ⟨S.ss ++ [[S.v, (k : Int), (getI row k * inv p S.f).tmod p]], ((N + S.ss.length : Nat) : Int), S.f⟩) := Lib.hid (by rw [rowSt_more hx1 (by rw [HG.out]; exact hf), HG.out])
          have HO : RSok p N ss.length (k + 1) ⟨S.ss ++ [[S.v, (k : Int), (getI row k * inv p S.f).tmod p]], ((N + S.ss.length : Nat) : Int), S.f⟩ := RSok.step hok hf
          have HX : Hid (S.f ≠ 0) := Lib.hid hf
          obtain ⟨n9, hn9⟩ : ∃ n9, n9 = S.ss.length + 1 := ⟨_, rfl⟩
          have Hn9 := Lib.hid hn9
          have hn91 : n9 ≤ S.ss.length + 1 := by omega
          have hn92 : S.ss.length + 1 ≤ n9 := by omega
          clear hx1 hn9
          go_upto_region 3 with (fail)
          refine wp_region_lit ?_
          refine ls_ex (some 8) (.int .i64 k) rfl rfl (exec_move _ rfl (.int .i64 k) rfl) ?_
          go_frame
          refine ls_ex (some 9) (.slice (some ⟨bx, offx, none⟩) row.length cx) rfl rfl (exec_move _ rfl (.slice (some ⟨bx, offx, none⟩) row.length cx) rfl) ?_
          go_frame
          refine ls_ex (some 10) (.int .i64 row.length) rfl rfl (exec_len _ 26 2 rfl ((some ⟨bx, offx, none⟩)) row.length cx rfl Try.underlying26) ?_
          go_frame
          refine ls_ex (some 11) (.bool true) rfl rfl (exec_lss _ _ _ _ rfl k row.length rfl rfl true (decide_eq_true (by omega))) ?_
          go_frame
          refine wpList_nil ?_
          go_upto_region 7 with (fail)
          refine wp_region_lit ?_
          refine ls_ex (some 42) (.slice (some ⟨bx, offx, none⟩) row.length cx) rfl rfl (exec_move _ rfl (.slice (some ⟨bx, offx, none⟩) row.length cx) rfl) ?_
          go_frame
          refine ls_ex (some 43) (.int .i64 k) rfl rfl (exec_move _ rfl (.int .i64 k) rfl) ?_
          go_frame
          refine ls_ex (some 44) (.pointer (some ⟨bx, offx + k * 1, none⟩)) rfl rfl (exec_index_slice _ 2 _ _ rfl bx offx row.length cx k 1 rfl rfl Try.underlying26 (by kernel_rfl) (by omega)) ?_
          go_frame
          refine ls_ex (some 45) (.int .i64 (getI row k)) rfl rfl (exec_load_one 2 _ rfl bx (offx + k * 1) rfl (.int .i64 (getI row k)) _ Try.underlying2 rfl (by rw [Nat.mul_one]; exact rdI_getI (hx.out _ hL) hlt)) ?_
          go_frame
          refine ls_ex (some 46) (.bool false) rfl rfl (exec_eql _ _ _ _ rfl ((getI row k)) 0 rfl rfl false HZ.out) ?_
          go_frame
          refine ls_ex (some 41) (.bool false) rfl rfl (exec_assign _ rfl (.bool false) rfl) ?_
          go_frame
          refine wpList_nil ?_
          go_upto_region 8 with (fail)
          refine wp_region_lit ?_
          refine ls_ex (some 48) (.int .i64 S.v) rfl rfl (exec_move _ rfl (.int .i64 S.v) rfl) ?_
          go_frame
          refine ls_ex (some 49) (.bool false) rfl rfl (exec_lss _ _ _ _ rfl S.v 0 rfl rfl false (decide_eq_false (by omega))) ?_
          go_frame
          refine ls_ex (some 47) (.bool false) rfl rfl (exec_assign _ rfl (.bool false) rfl) ?_
          go_frame
          refine wpList_nil ?_
          go_upto_region 5 with (fail)
          refine wp_region_y (zs := [18, 20]) (S := fun w' => Below lo w w') (S2 := fun w' => At w' w.heap.size (.cells #[.int .i64 p, .int .i64 (N : Int), vv, u0] 33 (0, 0))) (by kernel_rfl) ?_
          change wpAnyY _ _ _ _ _ _ _ _ _ _ (World.drew _)
          generalize hwdz14 : World.drew _ = wdz14
          replace hL : Below lo w wdz14 := by rw [← hwdz14]; exact hL.drew
          replace hz : lo ≤ wdz14.heap.size := by rw [← hwdz14]; exact hz
          replace hF : ∀ k cs t, At w k (.cells cs t (0, 0)) → t ≠ 66 → t ≠ 68 → At wdz14 k (.cells cs t (0, 0)) := by rw [← hwdz14]; exact hF
          replace h0 : At wdz14 w.heap.size (.cells #[.int .i64 p, .int .i64 (N : Int), vv, u0] 33 (0, 0)) := by rw [← hwdz14]; exact h0
          replace hR : At wdz14 Wz1.heap.size (.cells #[.int .i64 0, .int .i64 0, .slice none 0 0, .slice none 0 0] 33 (0, 0)) := by rw [← hwdz14]; exact hR
          replace hv : OwnK 66 3 wdz14 lo vv S.ss := by rw [← hwdz14]; exact hv.drew
          replace hu : OwnK 68 2 wdz14 lo u0 os := by rw [← hwdz14]; exact hu.drew
          clear hwdz14
          refine y_yield 0 (some 14) (.pointer (some ⟨w.heap.size, 2, none⟩)) rfl (by kernel_rfl) (by kernel_rfl) (by kernel_rfl) (fun _ _ _ h => h) rfl rfl hL (fun w' h' => exec_fieldAddr 33 _ 2 rfl _ (by kernel_rfl)) ?_
          go_frame
          refine y_yield3 1 (some 15) (vv) rfl 21 (by kernel_rfl) (by kernel_rfl) (by kernel_rfl) (by kernel_rfl) (by kernel_rfl) (fun _ _ _ h => h) rfl rfl hL h0 (fun w' h' h2' => exec_load_one 30 _ rfl w.heap.size 2 rfl (vv) _ Try.underlying30 rfl (h2'.at_ 2)) ?_
          go_frame
          refine y_yield 2 (some 16) (.int .i64 S.v) rfl (by kernel_rfl) (by kernel_rfl) (by kernel_rfl) (fun _ _ _ h => h) rfl rfl hL (fun w' h' => exec_move _ rfl (.int .i64 S.v) rfl) ?_
          go_frame
          refine y_yield 3 (some 17) (.int .i64 k) rfl (by kernel_rfl) (by kernel_rfl) (by kernel_rfl) (fun _ _ _ h => h) rfl rfl hL (fun w' h' => exec_move _ rfl (.int .i64 k) rfl) ?_
          go_frame
          refine y_yield 4 (some 18) (.slice (some ⟨bx, offx, none⟩) row.length cx) rfl (by kernel_rfl) (by kernel_rfl) (by kernel_rfl) (fun _ _ _ h => h) rfl rfl hL (fun w' h' => exec_move _ rfl (.slice (some ⟨bx, offx, none⟩) row.length cx) rfl) ?_
          go_frame
          refine y_yield 5 (some 19) (.int .i64 k) rfl (by kernel_rfl) (by kernel_rfl) (by kernel_rfl) (fun _ _ _ h => h) rfl rfl hL (fun w' h' => exec_move _ rfl (.int .i64 k) rfl) ?_
          go_frame
          refine y_yield 6 (some 20) (.pointer (some ⟨bx, offx + k * 1, none⟩)) rfl (by kernel_rfl) (by kernel_rfl) (by kernel_rfl) (fun _ _ _ h => h) rfl rfl hL (fun w' h' => exec_index_slice _ 2 _ _ rfl bx offx row.length cx k 1 rfl rfl Try.underlying26 (by kernel_rfl) (by omega)) ?_
          go_frame
          refine y_yield 7 (some 21) (.int .i64 (getI row k)) rfl (by kernel_rfl) (by kernel_rfl) (by kernel_rfl) (fun _ _ _ h => h) rfl rfl hL (fun w' h' => exec_load_one 2 _ rfl bx (offx + k * 1) rfl (.int .i64 (getI row k)) _ Try.underlying2 rfl (by rw [Nat.mul_one]; exact rdI_getI (hx.out _ h') hlt)) ?_
          go_frame
          refine y_yield 8 (some 22) (.pointer (some ⟨w.heap.size, 0, none⟩)) rfl (by kernel_rfl) (by kernel_rfl) (by kernel_rfl) (fun _ _ _ h => h) rfl rfl hL (fun w' h' => exec_fieldAddr 33 _ 0 rfl _ (by kernel_rfl)) ?_
          go_frame
          refine y_yield3 9 (some 23) (.int .i64 p) rfl 21 (by kernel_rfl) (by kernel_rfl) (by kernel_rfl) (by kernel_rfl) (by kernel_rfl) (fun _ _ _ h => h) rfl rfl hL h0 (fun w' h' h2' => exec_load_one 2 _ rfl w.heap.size 0 rfl (.int .i64 p) _ Try.underlying2 rfl (h2'.at_ 0)) ?_
          go_frame
          refine y_yield 10 (some 24) (.int .i64 S.f) rfl (by kernel_rfl) (by kernel_rfl) (by kernel_rfl) (fun _ _ _ h => h) rfl rfl hL (fun w' h' => exec_move _ rfl (.int .i64 S.f) rfl) ?_
          go_frame
          refine y_yield 13 (some 27) (.pointer (some ⟨w.heap.size, 0, none⟩)) rfl (by kernel_rfl) (by kernel_rfl) (by kernel_rfl) (fun _ _ _ h => h) rfl rfl hL (fun w' h' => exec_fieldAddr 33 _ 0 rfl _ (by kernel_rfl)) ?_
          go_frame
          refine y_yield3 14 (some 28) (.int .i64 p) rfl 21 (by kernel_rfl) (by kernel_rfl) (by kernel_rfl) (by kernel_rfl) (by kernel_rfl) (fun _ _ _ h => h) rfl rfl hL h0 (fun w' h' h2' => exec_load_one 2 _ rfl w.heap.size 0 rfl (.int .i64 p) _ Try.underlying2 rfl (h2'.at_ 0)) ?_
          go_frame
          refine y_oper 11 (by kernel_rfl) rfl rfl (fun K' hK' => ?_)
          have lz17 := h0.lt
          have lz18 := hR.lt
          refine wp_call2 (some 25) rfl 69 _ _ _ rfl (fun args w => by kernel_rfl) _ _ rfl rfl _ (l01Inverse_c p S.f _ HPr.out (by omega) hb.2.1) (fun e Wz15 h => ?_)
          obtain ⟨rfl, rfl⟩ := h
          refine ⟨_, rfl, ?_⟩
          refine hK' _ _ hL (fun _ => h0) ?_
          clear hK' K'
          go_frame
          refine y_yield 12 (some 26) (.int .i64 ((getI row k) * (inv p S.f))) rfl (by kernel_rfl) (by kernel_rfl) (by kernel_rfl) (fun _ _ _ h => h) rfl rfl hL (fun w' h' => exec_mul _ _ _ _ rfl ((getI row k)) ((inv p S.f)) ((getI row k) * (inv p S.f)) rfl rfl (IntWalk.i64_in _ (by omega))) ?_
          go_frame
          refine y_yield 15 (some 29) (.int .i64 ((getI row k * inv p S.f).tmod p)) rfl (by kernel_rfl) (by kernel_rfl) (by kernel_rfl) (fun _ _ _ h => h) rfl rfl hL (fun w' h' => exec_rem _ _ _ _ rfl (getI row k * inv p S.f) p _ rfl rfl (by omega) rfl) ?_
          go_frame
          refine y_yield 16 (some 30) (.agg #[.int .i64 S.v, .int .i64 (k : Int), .int .i64 ((getI row k * inv p S.f).tmod p)]) rfl (by kernel_rfl) (by kernel_rfl) (by kernel_rfl) (fun _ _ _ h => h) rfl rfl hL (fun w' h' => exec_build_step _ _ _ rfl S.v (k : Int) _ rfl rfl rfl) ?_
          go_frame
          refine y_oper 17 (by kernel_rfl) rfl rfl (fun K' hK' => ?_)
          have lz19 := h0.lt
          have lz20 := hR.lt
          refine wp_new (some 31) rfl (exec_bs1Step _ rfl S.v ((k : Int)) ((getI row k * inv p S.f).tmod p) rfl) (fun Wz21 nnz22 => ?_)
          have bz23 := nnz22.below (Below.refl _ _) (Nat.le_refl _)
          replace hL := hL.trans (below_mono bz23 (by omega))
          replace hz := size_after hz bz23
          replace hF := fun k cs t h0 h1 h2 => (hF k cs t h0 h1 h2).after bz23
          replace h0 := h0.after bz23
          replace hR := hR.after bz23
          replace hv := hv.below bz23
          replace hu := hu.below bz23
          have hqz24 : At Wz21 wdz14.heap.size (.cells #[.int .i64 S.v, .int .i64 ((k : Int)), .int .i64 ((getI row k * inv p S.f).tmod p)] 66 (0, 0)) := nnz22.at_
          refine hK' _ _ hL (fun _ => h0) ?_
          clear hK' K' nnz22 bz23
          go_frame
          refine y_oper 18 (by kernel_rfl) rfl rfl (fun K' hK' => ?_)
          have lz28 := h0.lt
          have lz29 := hR.lt
          have lz30 := hqz24.lt
          refine wp_appStep (some 32) rfl _ _ rfl vv S.ss S.v ((k : Int)) ((getI row k * inv p S.f).tmod p) rfl hv wdz14.heap.size rfl hqz24 (by omega) hz (fun v9 Wz25 noz27 grz26 => ?_)
          obtain ⟨An9, cn9, rfl⟩ := OwnK.rdN noz27 (n := n9) (by simp; omega)
          replace hL := hL.trans (OwnK.belowG hv grz26 hz)
          replace hz := Nat.le_trans hz grz26.size
          replace hF := fun k cs t h0 h1 h2 => (hF k cs t h0 h1 h2).grown grz26 (hv.off (hF k cs t h0 h1 h2) h1)
          replace h0 := h0.grown grz26 (hv.off h0 (by decide))
          replace hR := hR.grown grz26 (hv.off hR (by decide))
          replace hu := hu.grown grz26 (OwnK.apart hu hv (by decide))
          replace hv := noz27
          refine hK' _ _ hL (fun h => absurd (by decide) h) ?_
          clear hK' K' grz26
          go_frame
          refine y_yield 19 (some 33) (.pointer (some ⟨w.heap.size, 2, none⟩)) rfl (by kernel_rfl) (by kernel_rfl) (by kernel_rfl) (fun _ _ _ h => h) rfl rfl hL (fun w' h' => exec_fieldAddr 33 _ 2 rfl _ (by kernel_rfl)) ?_
          go_frame
          refine y_oper 20 (by kernel_rfl) rfl rfl (fun K' hK' => ?_)
          refine wp_store_one 30 _ _ rfl rfl w.heap.size 2 rfl (.slice An9 n9 cn9) rfl rfl rfl _ _ h0 (by kernel_rfl) (by simp) (fun Wz31 pz32 => ?_)
          replace hL := pz32.below hL (by omega)
          replace hz : lo ≤ Wz31.heap.size := Nat.le_trans hz (Nat.le_of_eq (pz32.size rfl).symm)
          replace hF := fun k cs t h0 h1 h2 => pz32.other (hF k cs t h0 h1 h2) (by have := h0.lt; omega)
          replace hR := pz32.other hR (by omega)
          replace hv := hv.put pz32 (hv.off h0 (by decide))
          replace hu := hu.put pz32 (hu.off h0 (by decide))
          replace h0 : At Wz31 w.heap.size (.cells #[.int .i64 p, .int .i64 (N : Int), .slice An9 n9 cn9, u0] 33 (0, 0)) := pz32.at_
          refine hK' _ _ hL (fun h => absurd (by decide) h) ?_
          clear hK' K' pz32
          refine y_done (by kernel_rfl) ?_ _
          go_upto_region 6 with (fail)
          skip
          refine wp_region_lit ?_
          refine ls_ex (some 34) (.pointer (some ⟨w.heap.size, 1, none⟩)) rfl rfl (exec_fieldAddr 33 _ 1 rfl _ (by kernel_rfl)) ?_
          go_frame
          refine ls_ex (some 35) (.int .i64 (N : Int)) rfl rfl (exec_load_one 2 _ rfl w.heap.size 1 rfl (.int .i64 (N : Int)) _ Try.underlying2 rfl (h0.at_ 1)) ?_
          go_frame
          refine ls_ex (some 36) (.pointer (some ⟨w.heap.size, 2, none⟩)) rfl rfl (exec_fieldAddr 33 _ 2 rfl _ (by kernel_rfl)) ?_
          go_frame
          refine ls_ex (some 37) (.slice An9 n9 cn9) rfl rfl (exec_load_one 30 _ rfl w.heap.size 2 rfl (.slice An9 n9 cn9) _ Try.underlying30 rfl (h0.at_ 2)) ?_
          go_frame
          refine ls_ex (some 38) (.int .i64 (n9 : Int)) rfl rfl (exec_len _ 30 66 rfl An9 n9 cn9 rfl Try.underlying30) ?_
          go_frame
          refine ls_ex (some 39) (.int .i64 (((N : Int) + n9))) rfl rfl (exec_add _ _ _ _ rfl (N : Int) (n9 : Int) _ rfl rfl (IntWalk.i64_in _ (by omega))) ?_
          go_frame
          refine ls_ex (some 40) (.int .i64 ((N + S.ss.length : Nat) : Int)) rfl rfl (exec_sub _ _ _ _ rfl ((N : Int) + n9) 1 ((N + S.ss.length : Nat) : Int) rfl rfl (by rw [IntWalk.i64_in _ (by omega)]; omega)) ?_
          go_frame
          refine ls_ex (some 5) (.int .i64 ((N + S.ss.length : Nat) : Int)) rfl rfl (exec_assign _ rfl (.int .i64 ((N + S.ss.length : Nat) : Int)) rfl) ?_
          go_frame
          refine wpList_nil ?_
          go_upto_region 4 with (fail)
          refine wp_region_lit ?_
          refine ls_ex (some 12) (.int .i64 k) rfl rfl (exec_move _ rfl (.int .i64 k) rfl) ?_
          go_frame
          refine ls_ex (some 13) (.int .i64 (k + 1)) rfl rfl (exec_add _ _ _ _ rfl k 1 (k + 1) rfl rfl (IntWalk.i64_in _ (by omega))) ?_
          go_frame
          refine ls_ex (some 7) (.int .i64 (k + 1)) rfl rfl (exec_assign _ rfl (.int .i64 (k + 1)) rfl) ?_
          go_frame
          refine wpList_nil ?_
          go_wp2_with fail
          go_roundw
          case rel => exact ⟨k + 1, ⟨S.ss ++ [[S.v, (k : Int), (getI row k * inv p S.f).tmod p]], ((N + S.ss.length : Nat) : Int), S.f⟩, _, ((N + S.ss.length : Nat) : Int), by omega, by go_num, rfl, rfl, HS, HO, .inr ⟨HX.out, rfl⟩, hL, hz, hF, h0, hR, hv, hu⟩
          case measure => simp [intOf]; omega
    · have hk9 : k = row.length := by omega
      have HE : Hid (rowSt p N row ss row.length = S) := Lib.hid (by rw [← hk9]; exact HG.out)
      obtain ⟨mx, hmx⟩ : ∃ mx, (if val < 0 then 0 else val) = mx := ⟨_, rfl⟩
      have HMx := Lib.hid hmx
      have Hmv : Hid (mx = S.v) := Lib.hid (by have h9 := RSok.zero hok; rw [← hmx]; split <;> omega)
      obtain ⟨n8, hn81, hn82⟩ : ∃ n8, n8 ≤ os.length + 1 ∧ os.length + 1 ≤ n8 := ⟨_, Nat.le_refl _, Nat.le_refl _⟩
      obtain ⟨n7, hn71, hn72⟩ : ∃ n7, n7 ≤ S.ss.length ∧ S.ss.length ≤ n7 := ⟨_, Nat.le_refl _, Nat.le_refl _⟩
      obtain ⟨An7, cn7, rfl⟩ := OwnK.rdN hv (n := n7) (by omega)
      clear hmx hk9
      go_upto_region 3 with (fail)
      refine wp_region_lit ?_
      refine ls_ex (some 8) (.int .i64 k) rfl rfl (exec_move _ rfl (.int .i64 k) rfl) ?_
      go_frame
      refine ls_ex (some 9) (.slice (some ⟨bx, offx, none⟩) row.length cx) rfl rfl (exec_move _ rfl (.slice (some ⟨bx, offx, none⟩) row.length cx) rfl) ?_
      go_frame
      refine ls_ex (some 10) (.int .i64 row.length) rfl rfl (exec_len _ 26 2 rfl ((some ⟨bx, offx, none⟩)) row.length cx rfl Try.underlying26) ?_
      go_frame
      refine ls_ex (some 11) (.bool false) rfl rfl (exec_lss _ _ _ _ rfl k row.length rfl rfl false (decide_eq_false (by omega))) ?_
      go_frame
      refine wpList_nil ?_
      go_upto_region 11 with (fail)
      refine wp_region_lit ?_
      refine ls_ex (some 55) (.pointer (some ⟨w.heap.size, 3, none⟩)) rfl rfl (exec_fieldAddr 33 _ 3 rfl _ (by kernel_rfl)) ?_
      go_frame
      refine ls_ex (some 56) (u0) rfl rfl (exec_load_one 31 _ rfl w.heap.size 3 rfl (u0) _ Try.underlying31 rfl (h0.at_ 3)) ?_
      go_frame
      refine ls_ex (some 57) (.int .i64 val) rfl rfl (exec_move _ rfl (.int .i64 val) rfl) ?_
      go_frame
      refine ls_ex (some 58) (.int .i64 mx) rfl rfl (pd_max2 _ _ _ rfl val 0 rfl rfl mx HMx.out) ?_
      go_frame
      refine ls_ex (some 59) (.int .i64 S.f) rfl rfl (exec_move _ rfl (.int .i64 S.f) rfl) ?_
      go_frame
      refine ls_ex (some 60) (.agg #[.int .i64 mx, .int .i64 S.f]) rfl rfl (exec_build_out _ _ rfl mx S.f rfl rfl) ?_
      go_frame
      refine ls_op rfl (fun K' hK' => ?_)
      have lz33 := h0.lt
      have lz34 := hR.lt
      refine wp_new (some 61) rfl (exec_bs1Output _ rfl mx S.f rfl) (fun Wz35 nnz36 => ?_)
      have bz37 := nnz36.below (Below.refl _ _) (Nat.le_refl _)
      replace hL := hL.trans (below_mono bz37 (by omega))
      replace hz := size_after hz bz37
      replace hF := fun k cs t h0 h1 h2 => (hF k cs t h0 h1 h2).after bz37
      replace h0 := h0.after bz37
      replace hR := hR.after bz37
      replace hv := hv.below bz37
      replace hu := hu.below bz37
      have hqz38 : At Wz35 wr.heap.size (.cells #[.int .i64 mx, .int .i64 S.f] 68 (0, 0)) := nnz36.at_
      refine hK' _ _ ?_
      clear hK' K' nnz36 bz37
      go_frame
      refine ls_op rfl (fun K' hK' => ?_)
      have lz42 := h0.lt
      have lz43 := hR.lt
      have lz44 := hqz38.lt
      refine wp_appOutput (some 62) rfl _ _ rfl u0 os mx S.f rfl hu wr.heap.size rfl hqz38 (by omega) hz (fun u9 Wz39 noz41 grz40 => ?_)
      obtain ⟨An8, cn8, rfl⟩ := OwnK.rdN noz41 (n := n8) (by simp; omega)
      replace hL := hL.trans (OwnK.belowG hu grz40 hz)
      replace hz := Nat.le_trans hz grz40.size
      replace hF := fun k cs t h0 h1 h2 => (hF k cs t h0 h1 h2).grown grz40 (hu.off (hF k cs t h0 h1 h2) h2)
      replace h0 := h0.grown grz40 (hu.off h0 (by decide))
      replace hR := hR.grown grz40 (hu.off hR (by decide))
      replace hv := hv.grown grz40 (OwnK.apart hv hu (by decide))
      replace hu := noz41
      refine hK' _ _ ?_
      clear hK' K' grz40
      go_frame
      refine ls_ex (some 63) (.pointer (some ⟨w.heap.size, 3, none⟩)) rfl rfl (exec_fieldAddr 33 _ 3 rfl _ (by kernel_rfl)) ?_
      go_frame
      refine ls_op rfl (fun K' hK' => ?_)
      refine wp_store_one 31 _ _ rfl rfl w.heap.size 3 rfl (.slice An8 n8 cn8) rfl rfl rfl _ _ h0 (by kernel_rfl) (by simp) (fun Wz45 pz46 => ?_)
      replace hL := pz46.below hL (by omega)
      replace hz : lo ≤ Wz45.heap.size := Nat.le_trans hz (Nat.le_of_eq (pz46.size rfl).symm)
      replace hF := fun k cs t h0 h1 h2 => pz46.other (hF k cs t h0 h1 h2) (by have := h0.lt; omega)
      replace hR := pz46.other hR (by omega)
      replace hv := hv.put pz46 (hv.off h0 (by decide))
      replace hu := hu.put pz46 (hu.off h0 (by decide))
      replace h0 : At Wz45 w.heap.size (.cells #[.int .i64 p, .int .i64 (N : Int), .slice An7 n7 cn7, .slice An8 n8 cn8] 33 (0, 0)) := pz46.at_
      refine hK' _ _ ?_
      clear hK' K' pz46
      refine wpList_nil ?_
      go_upto_region 12 with (fail)
      refine wp_region_lit ?_
      refine ls_ex (some 64) (.agg #[.int .i64 p, .int .i64 (N : Int), .slice An7 n7 cn7, .slice An8 n8 cn8]) rfl rfl (exec_load_all 33 _ rfl w.heap.size rfl _ _ _ h0 Try.underlying33 rfl 4 (by kernel_rfl) rfl) ?_
      go_frame
      refine ls_op rfl (fun K' hK' => ?_)
      refine wp_store_all 33 _ _ rfl rfl Wz1.heap.size rfl #[.int .i64 p, .int .i64 (N : Int), .slice An7 n7 cn7, .slice An8 n8 cn8] rfl _ _ hR 4 (by kernel_rfl) rfl rfl (by intro x hx; simp at hx; rcases hx with rfl | rfl | rfl | rfl <;> rfl) (fun Wz47 pz48 => ?_)
      replace hL := pz48.below hL (by omega)
      replace hz : lo ≤ Wz47.heap.size := Nat.le_trans hz (Nat.le_of_eq (pz48.size rfl).symm)
      replace hF := fun k cs t h0 h1 h2 => pz48.other (hF k cs t h0 h1 h2) (by have := h0.lt; omega)
      replace h0 := pz48.other h0 (by omega)
      replace hv := hv.put pz48 (hv.off hR (by decide))
      replace hu := hu.put pz48 (hu.off hR (by decide))
      replace hR : At Wz47 Wz1.heap.size (.cells #[.int .i64 p, .int .i64 (N : Int), .slice An7 n7 cn7, .slice An8 n8 cn8] 33 (0, 0)) := pz48.at_
      refine hK' _ _ ?_
      clear hK' K' pz48
      refine wpList_nil ?_
      go_wp2_with fail
      refine bodyPost_ret (results_at rfl _ _ Wz1.heap.size _ _ _ rfl hR Try.underlying33 rfl 4 (by kernel_rfl) rfl) rfl ?_
      exact ⟨_, _, rfl, by rw [HE.out]; exact hv, by rw [HE.out, ← Hmv.out]; exact hu, hL, hF⟩
end Go.Proofs.Ytoaibfbamecdlaa
