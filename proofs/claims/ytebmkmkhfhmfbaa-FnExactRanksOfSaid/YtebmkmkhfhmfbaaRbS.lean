/-
  impl.cutIntoRows. (Made by mkrb.py of Sl2.)
-/
import Derived.Test.YtebmkmkhfhmfbaaLK1
import Derived.Test.YtebmkmkhfhmfbaaSx
import Derived.Test.YtebmkmkhfhmfbaaMat1
namespace Go.Proofs.Ytebmkmkhfhmfbaa
open Go.RowKit
set_option maxRecDepth 100000
theorem infoBS : (Try.prog.info? 90).map (fun i => (i.zero, i.size, i.bytes)) = some (some (.slice none 0 0), 1, 24) := by kernel_rfl
attribute [local irreducible] wpList
def OwnSb (w : World) (lo : Nat) (v : Value) (vs : List Value) : Prop := w.ownsRow lo 90 1 v vs.length vs
theorem OwnSb.below {w w' : World} {lo : Nat} {v : Value} {vs : List Value} (h : OwnSb w lo v vs) (hb : Below w.heap.size w w') : OwnSb w' lo v vs :=
  World.ownsRow.kept (row := none) h ⟨hb.os, hb.tape, hb.output, hb.size, fun k hk _ => hb.block k hk⟩ (by
    rcases hv : v.ownBlock with _ | g
    · exact .inl rfl
    · exact .inr (by simp))
theorem OwnSb.drew {w : World} {lo : Nat} {v : Value} {vs : List Value} (h : OwnSb w lo v vs) : OwnSb w.drew lo v vs := h.below (Below.refl _ _).drew
theorem OwnSb.lt {w : World} {lo : Nat} {v : Value} {vs : List Value} (h : OwnSb w lo v vs) {g : Nat} (hg : v.ownBlock = some g) : lo ≤ g ∧ g < w.heap.size := World.ownsRow.lt h g hg
theorem OwnSb.away_new {w : World} {lo : Nat} {v : Value} {vs : List Value} (h : OwnSb w lo v vs) : some w.heap.size ≠ v.ownBlock := fun e => by
  have := (h.lt e.symm).2
  omega
theorem below_grownSb {w0 w w' : World} {v : Value} {lo : Nat} {vs : List Value} (h : Below w0.heap.size w0 w) (hb : w.grownBy w' v.ownBlock) (ho : OwnSb w lo v vs) (hl : w0.heap.size ≤ lo) : Below w0.heap.size w0 w' :=
  h.grown hb h.size (fun k hk => by have := (ho.lt hk).1; omega)
def rowVsb (G cols n : Nat) : List Value := (List.range n).map fun i => .slice (some ⟨G, i * cols, none⟩) cols cols
theorem OwnSb.nil (w : World) (lo G cols : Nat) : OwnSb w lo (.slice none 0 0) (rowVsb G cols 0) := ⟨by simp [rowVsb], .inl ⟨rfl, by simp [rowVsb]⟩⟩
theorem rowVs_stepb (G cols n : Nat) : rowVsb G cols (n + 1) = rowVsb G cols n ++ [.slice (some ⟨G, n * cols, none⟩) cols cols] := by
  unfold rowVsb
  rw [List.range_succ, List.map_append]
  rfl
def offAb (G _L F : Nat) : Addr := ⟨G, F, none⟩
theorem offA_ltb {G L F : Nat} (_ : F < L) : offAb G L F = ⟨G, F, none⟩ := rfl
theorem elem_i64b : Try.prog.underlying 90 = some (.slice (Try.prog.elem 90)) := by kernel_rfl
theorem size_i64b (w : World) : (sizeOf (Try.prog.elem 90)).run Try.prog w = .ok 1 w := by kernel_rfl
theorem exec_slice3b {o : Oper} {a : Act} {w : World} (x y z u : Operand) (ho : o.op = .slice 90 x (some y) (some z) (some u)) (G L c F cols : Nat) (h1 : F + cols ≤ L) (h2 : 0 < cols ∧ L ≤ c) (hx : a.eval x = .slice (some ⟨G, 0, none⟩) L c) (hy : a.eval y = .int .i64 (F : Int)) (hz : a.eval z = .int .i64 ((F : Int) + cols)) (hu : a.eval u = .int .i64 ((F : Int) + cols)) :
    (execOp a.eval o).run Try.prog w = .ok (.value (.slice (some (offAb G L F)) cols cols)) w := by
  have h := run_slice_lhm (P := Try.prog) (w := w) 90 (some ⟨G, 0, none⟩) L c elem_i64b .i64 .i64 .i64 (F : Int) ((F : Int) + cols) ((F : Int) + cols) (by omega) (by omega) (by omega) (by omega)
  rw [size_i64b] at h
  unfold execOp
  simp only [ho, Option.map_some, Option.map_none, hx, hy, hz, hu, Instr.sliceAt, Sem.run_bind, run_underlying elem_i64b, Result.andThen_ok, h]
  have e1 : ((F : Int) + cols).toNat = F + cols := by omega
  simp only [sliced, offAb, Int.toNat_natCast, e1]
  rw [if_neg (by omega)]
  simp [Addr.add]
  omega
theorem exec_bsM1b {o : Oper} {a : Act} {w : World} (x : Operand) (ho : o.op = .buildSlice 88 1 #[(0, x)]) (A1 : Option Addr) (n1 c1 : Nat) (hx : a.eval x = .slice A1 n1 c1) :
    (execOp a.eval o).run Try.prog w = .ok (.value (.slice (some ⟨w.heap.size, 0, none⟩) 1 1)) (w.alloc (.cells #[.slice A1 n1 c1] 90 (0, 0))) := by
  obtain ⟨i, hi0, hz0, h1, h2⟩ := info_parts infoBS
  have h := run_buildSlice (P := Try.prog) w 88 90 1 #[(0, .slice A1 n1 c1)] #[.slice A1 n1 c1] i (.slice none 0 0) Try.underlying88 hi0 hz0 (by rw [h1]; omega) (by rw [h1]; omega) (by rw [h1]; kernel_rfl)
  unfold execOp
  simp [ho, hx, h]
theorem wp_appSb {o : Oper} {a : Act} {w : World} {K : Act → World → Prop} {Q : Exit → Act → World → Prop} (d : Option Tmp) (hd : o.dst = d) (s x : Operand) (ho : o.op = .call { callee := .builtin .append, args := #[s, x], argTypes := #[88, 88] })
    {lo : Nat} (v : Value) (vs : List Value) (hs : a.eval s = v) (h0 : OwnSb w lo v vs) (u : Value) (h1 : u.oneCell' = true) (g : Nat) (hx : a.eval x = .slice (some ⟨g, 0, none⟩) 1 1) (hg : At w g (.cells #[u] 90 (0, 0))) (hle : vs.length ≤ 1000000) (hlo : lo ≤ w.heap.size)
    (h : ∀ v' w', OwnSb w' lo v' (vs ++ [u]) → w.grownBy w' v.ownBlock → K (a.put d v') w') : Oper.wp Try.prog o a w K Q := by
  obtain ⟨i0, hi, hz0, hz1, hz2⟩ := info_parts infoBS
  refine wp_append' d hd s x 88 ho lo 90 i0 (.slice none 0 0) 1 24 Try.underlying88 hi hz0 hz1 hz2 rfl (by decide) v _ _ hs h0 ⟨g, 0, none⟩ 1 1 [u] hx rfl ?_ (by intro y hy; simp at hy; subst hy; exact h1) (by unfold maxLen; omega) (by omega) hlo ?_
  · intro j y hj
    have hj0 : j = 0 := by
      rcases Nat.eq_zero_or_pos j with h0 | h0
      · exact h0
      · rw [List.getElem?_eq_none (by simp; omega)] at hj
        cases hj
    subst hj0
    have h3 : u = y := by simpa using hj
    subst h3
    exact hg.at_ 0
  · intro v1 w8 own8 gr8 _
    refine h v1 w8 ?_ gr8
    unfold OwnSb
    rw [List.length_append]
    exact own8
set_option maxHeartbeats 4000000 in
theorem cutRowsB_c (G L c cols n : Nat) (w : World) (hL : n * cols = L) (hLc : 0 < cols ∧ L ≤ c) (hn : n ≤ 1000)  (hL6 : L ≤ 1000000) :
    Calls Try.prog 53 #[.slice (some ⟨G, 0, none⟩) L c, .int .i64 cols] w (fun e w' => ∃ v, e = .returned v ∧ OwnSb w' w.heap.size v (rowVsb G cols n) ∧ Below w.heap.size w w') := by
  have hB := Below.refl w.heap.size w
  have hL9 : 0 ≤ L := by omega
  go_enter Try.func53, Try.ntmps53
  go_upto_region 0 with (fail)
  refine wp_region_lit ?_
  refine ls_ex (some 4) (.slice none 0 0) rfl rfl (exec_assign _ rfl (.slice none 0 0) rfl) ?_
  go_frame
  refine wpList_nil ?_
  go_upto_region 1 with (fail)
  refine wp_region_lit ?_
  refine ls_ex (some 5) (.slice none 0 0) rfl rfl (exec_assign _ rfl (.slice none 0 0) rfl) ?_
  go_frame
  refine wpList_nil ?_
  go_upto_region 2 with (fail)
  refine wp_region_lit ?_
  refine ls_ex (some 6) (.int .i64 0) rfl rfl (exec_assign _ rfl (.int .i64 0) rfl) ?_
  go_frame
  refine wpList_nil ?_
  go_wp2_with fail
  go_loopw [5, 6] (fun s5 s6 wr => ∃ (t F : Nat) (v : Value), t ≤ n ∧ t * cols = F ∧ v = s5 ∧ s6 = .int .i64 F ∧ Below w.heap.size w wr ∧ OwnSb wr w.heap.size v (rowVsb G cols t)) (fun _ s6 _ => L - (intOf s6).toNat)
  case atStart => exact ⟨0, 0, _, by omega, Nat.zero_mul _, rfl, rfl, hB, OwnSb.nil _ _ _ _⟩
  case round =>
    clear hB
    obtain ⟨t, F, v, hle, hF, rfl, rfl, hB, ho⟩ := hrel
    by_cases hlt : t < n
    · have hF1 : F + cols ≤ L := by rw [← hL, ← hF, ← Nat.succ_mul]; exact Nat.mul_le_mul_right _ hlt
      have HT : Hid (rowVsb G cols t ++ [.slice (some (offAb G L F)) cols cols] = rowVsb G cols (t + 1)) := Lib.hid (by rw [rowVs_stepb, hF, offA_ltb (by omega)])
      have HLen : Hid ((rowVsb G cols t).length ≤ 1000000) := Lib.hid (by simp [rowVsb]; omega)
      have HF2 : Hid ((t + 1) * cols = F + cols) := Lib.hid (by rw [← hF, Nat.succ_mul])
      clear hF
      go_upto_region 3 with (fail)
      refine wp_region_lit ?_
      refine ls_ex (some 7) (.int .i64 F) rfl rfl (exec_move _ rfl (.int .i64 F) rfl) ?_
      go_frame
      refine ls_ex (some 8) (.slice (some ⟨G, 0, none⟩) L c) rfl rfl (exec_move _ rfl (.slice (some ⟨G, 0, none⟩) L c) rfl) ?_
      go_frame
      refine ls_ex (some 9) (.int .i64 L) rfl rfl (exec_len _ 90 5 rfl ((some ⟨G, 0, none⟩)) L c rfl Try.underlying90) ?_
      go_frame
      refine ls_ex (some 10) (.bool true) rfl rfl (exec_lss _ _ _ _ rfl F L rfl rfl true (decide_eq_true (by omega))) ?_
      go_frame
      refine wpList_nil ?_
      go_upto_region 5 with (fail)
      refine wp_region_lit ?_
      refine ls_ex (some 14) (v) rfl rfl (exec_move _ rfl (v) rfl) ?_
      go_frame
      refine ls_ex (some 15) (.slice (some ⟨G, 0, none⟩) L c) rfl rfl (exec_move _ rfl (.slice (some ⟨G, 0, none⟩) L c) rfl) ?_
      go_frame
      refine ls_ex (some 16) (.int .i64 F) rfl rfl (exec_move _ rfl (.int .i64 F) rfl) ?_
      go_frame
      refine ls_ex (some 17) (.int .i64 F) rfl rfl (exec_move _ rfl (.int .i64 F) rfl) ?_
      go_frame
      refine ls_ex (some 18) (.int .i64 cols) rfl rfl (exec_move _ rfl (.int .i64 cols) rfl) ?_
      go_frame
      refine ls_ex (some 19) (.int .i64 (F + cols)) rfl rfl (exec_add _ _ _ _ rfl F cols (F + cols) rfl rfl (IntWalk.i64_in _ (by omega))) ?_
      go_frame
      refine ls_ex (some 20) (.int .i64 F) rfl rfl (exec_move _ rfl (.int .i64 F) rfl) ?_
      go_frame
      refine ls_ex (some 21) (.int .i64 cols) rfl rfl (exec_move _ rfl (.int .i64 cols) rfl) ?_
      go_frame
      refine ls_ex (some 22) (.int .i64 (F + cols)) rfl rfl (exec_add _ _ _ _ rfl F cols (F + cols) rfl rfl (IntWalk.i64_in _ (by omega))) ?_
      go_frame
      refine ls_ex (some 23) (.slice (some (offAb G L F)) cols cols) rfl rfl (exec_slice3b _ _ _ _ rfl G L c F cols hF1 hLc rfl rfl rfl rfl) ?_
      go_frame
      refine ls_op rfl (fun K' hK' => ?_)
      have lz1 := hB.size
      have naz6 := ho.away_new
      refine wp_new (some 24) rfl (exec_bsM1b _ rfl ((some (offAb G L F))) cols cols rfl) (fun Wz2 nnz3 => ?_)
      have bz4 := nnz3.below (Below.refl _ _) (Nat.le_refl _)
      replace hB := below_after hB bz4
      replace ho := ho.below bz4
      have hz5 : At Wz2 wr.heap.size (.cells #[.slice (some (offAb G L F)) cols cols] 90 (0, 0)) := nnz3.at_
      refine hK' _ _ ?_
      clear hK' K' nnz3 bz4
      go_frame
      refine ls_op rfl (fun K' hK' => ?_)
      have lz10 := hB.size
      have lz11 := hz5.lt
      refine wp_appSb (some 25) rfl _ _ rfl v (rowVsb G cols t) rfl ho _ rfl wr.heap.size rfl hz5 HLen.out (by have := hB.size; omega) (fun v8 Wz7 noz9 grz8 => ?_)
      rw [HT.out] at noz9
      replace hB := below_grownSb hB grz8 ho (by omega)
      replace ho := noz9
      refine hK' _ _ ?_
      clear hK' K' grz8 hz5
      go_frame
      refine ls_ex (some 5) (v8) rfl rfl (exec_assign _ rfl (v8) rfl) ?_
      go_frame
      refine wpList_nil ?_
      go_upto_region 4 with (fail)
      refine wp_region_lit ?_
      refine ls_ex (some 11) (.int .i64 F) rfl rfl (exec_move _ rfl (.int .i64 F) rfl) ?_
      go_frame
      refine ls_ex (some 12) (.int .i64 cols) rfl rfl (exec_move _ rfl (.int .i64 cols) rfl) ?_
      go_frame
      refine ls_ex (some 13) (.int .i64 (F + cols)) rfl rfl (exec_add _ _ _ _ rfl F cols (F + cols) rfl rfl (IntWalk.i64_in _ (by omega))) ?_
      go_frame
      refine ls_ex (some 6) (.int .i64 (F + cols)) rfl rfl (exec_assign _ rfl (.int .i64 (F + cols)) rfl) ?_
      go_frame
      refine wpList_nil ?_
      go_wp2_with fail
      go_roundw
      case rel => exact ⟨t + 1, F + cols, v8, by omega, HF2.out, rfl, by go_num, hB, ho⟩
      case measure => simp [intOf] <;> omega
    · have hF1 : F = L := by rw [← hL, ← hF, show t = n by omega]
      have HT : Hid (rowVsb G cols t = rowVsb G cols n) := Lib.hid (by rw [show t = n by omega])
      go_upto_region 3 with (fail)
      refine wp_region_lit ?_
      refine ls_ex (some 7) (.int .i64 F) rfl rfl (exec_move _ rfl (.int .i64 F) rfl) ?_
      go_frame
      refine ls_ex (some 8) (.slice (some ⟨G, 0, none⟩) L c) rfl rfl (exec_move _ rfl (.slice (some ⟨G, 0, none⟩) L c) rfl) ?_
      go_frame
      refine ls_ex (some 9) (.int .i64 L) rfl rfl (exec_len _ 90 5 rfl ((some ⟨G, 0, none⟩)) L c rfl Try.underlying90) ?_
      go_frame
      refine ls_ex (some 10) (.bool false) rfl rfl (exec_lss _ _ _ _ rfl F L rfl rfl false (decide_eq_false (by omega))) ?_
      go_frame
      refine wpList_nil ?_
      go_upto_region 6 with (fail)
      refine wp_region_lit ?_
      refine ls_ex (some 26) (v) rfl rfl (exec_move _ rfl (v) rfl) ?_
      go_frame
      refine ls_ex (some 4) (v) rfl rfl (exec_assign _ rfl (v) rfl) ?_
      go_frame
      refine wpList_nil ?_
      go_wp2_with fail
      go_ret
      exact ⟨v, rfl, by rw [← HT.out]; exact ho, hB⟩
end Go.Proofs.Ytebmkmkhfhmfbaa
