/-
  slices.Index, slices.Contains at []impl.Form; impl.hasZero. (Made by mkhas.py.)
-/
import Derived.Test.YtemkhlokpinecaaTold
namespace Go.Proofs.Ytemkhlokpinecaa
open Go.RowKit
set_option maxRecDepth 100000
theorem exec_index_at0 {P : Program} {o : Oper} {a : Act} {w : World} (ty e : TypeId) (x i : Operand) (ho : o.op = .indexAddr ty x i) (b len cap k s : Nat) (hx : a.eval x = .slice (some ⟨b, 0, none⟩) len cap) (hi : a.eval i = .int .i64 k)
    (hu : P.underlying ty = some (.slice e)) (hs : (P.info? e).map (·.size) = some s) (hk : k < len) : (execOp a.eval o).run P w = .ok (.value (.pointer (some ⟨b, k * s, none⟩))) w := by
  have h := exec_index_slice (P := P) (o := o) (a := a) (w := w) ty e x i ho b 0 len cap k s hx hi hu hs hk
  rwa [Nat.zero_add] at h
def idxF (f l : List Nat) : Int := if (f == segm l 0 9) = true then 0 else if (f == segm l 9 9) = true then 1 else if (f == segm l 18 9) = true then 2 else -1
theorem idxF_at {f l : List Nat} {j : Nat} (hj : j < 3) (hn : ∀ i, i < j → (f == segm l (i * 9) 9) = false) (hy : (f == segm l (j * 9) 9) = true) : idxF f l = j := by
  unfold idxF
  rcases (show j = 0 ∨ j = 1 ∨ j = 2 by omega) with rfl | rfl | rfl
  · rw [if_pos hy]; rfl
  · have h0 := hn 0 (by omega)
    rw [if_neg (by rw [show (f == segm l 0 9) = false from h0]; exact Bool.false_ne_true), if_pos hy]; rfl
  · have h0 := hn 0 (by omega)
    have h1 := hn 1 (by omega)
    rw [if_neg (by rw [show (f == segm l 0 9) = false from h0]; exact Bool.false_ne_true), if_neg (by rw [show (f == segm l 9 9) = false from h1]; exact Bool.false_ne_true), if_pos hy]; rfl
theorem idxF_no {f l : List Nat} (hn : ∀ i, i < 3 → (f == segm l (i * 9) 9) = false) : idxF f l = -1 := by
  unfold idxF
  have h0 := hn 0 (by omega)
  have h1 := hn 1 (by omega)
  have h2 := hn 2 (by omega)
  rw [if_neg (by rw [show (f == segm l 0 9) = false from h0]; exact Bool.false_ne_true), if_neg (by rw [show (f == segm l 9 9) = false from h1]; exact Bool.false_ne_true), if_neg (by rw [show (f == segm l 18 9) = false from h2]; exact Bool.false_ne_true)]
set_option maxHeartbeats 1600000 in
theorem indexForm_c (g : Nat) (l f : List Nat) (t : TypeId) (w : World) (hl : Bytes 27 l) (hf : Bytes 9 f) (hg0 : At w g (.cells (u8s l) t (0, 0))) :
    Calls Try.prog 111 #[.slice (some ⟨g, 0, none⟩) 3 3, .agg (u8s f)] w fun e w' => e = .returned (.int .i64 (idxF f l)) ∧ Below w.heap.size w w' := by
  go_enter Try.func111, Try.ntmps111
  go_wp2_with fail
  go_loopw [8] (fun i wr => ∃ j : Nat, j ≤ 3 ∧ i = .int .i64 j ∧ (∀ i, i < j → (f == segm l (i * 9) 9) = false) ∧ Below w.heap.size w wr ∧ At wr w.heap.size (.cells (u8s f) 51 (0, 0)) ∧ At wr g (.cells (u8s l) t (0, 0))) (fun i _ => 3 - (intOf i).toNat)
  case atStart => exact ⟨0, by omega, rfl, by omega, below1 _ _, al1_0 _ _, At.after hg0 (below1 _ _)⟩
  case round =>
    clear hg0
    obtain ⟨j, hj, rfl, hn, hB, h0, hg⟩ := hrel
    have Hn := Lib.hid hn
    clear hn
    by_cases hlt : j < 3
    · have e0 : IntKind.i64.wrap ((j : Int) + 1) = (j : Int) + 1 := IntWalk.i64_in _ (by omega)
      have hl27 := hl.len
      have hsk0 : Bytes 9 (segm l (j * 9) 9) := segm_bytes hl (by omega)
      obtain ⟨sk, Hsk⟩ : ∃ sk, Hid (segm l (j * 9) 9 = sk) := ⟨_, Lib.hid rfl⟩
      have hsk : Bytes 9 sk := by rw [← Hsk.out]; exact hsk0
      clear hsk0
      cases hb : (f == sk) with
      | true =>
        have Hb := Lib.hid hb
        have HR : Hid (((j : Nat) : Int) = idxF f l) := Lib.hid (idxF_at hlt Hn.out (by rw [Hsk.out]; exact hb)).symm
        clear hb
        go_wp2_with fail
        refine wp_region_held (S := fun w' => At w' w.heap.size (.cells (u8s f) 51 (0, 0)) ∧ At w' g (.cells (u8s l) t (0, 0))) (by kernel_rfl) ?_
        change wpAnyH _ _ _ _ _ _ _ _ (World.drew _)
        generalize hwd : World.drew _ = wd
        replace hB : Below w.heap.size w wd := by rw [← hwd]; exact hB.drew
        replace h0 : At wd w.heap.size (.cells (u8s f) 51 (0, 0)) := by rw [← hwd]; exact h0
        replace hg : At wd g (.cells (u8s l) t (0, 0)) := by rw [← hwd]; exact hg
        clear hwd
        refine held_yield 0 (some 11) (.agg (u8s f)) rfl (by kernel_rfl) (by kernel_rfl) (by kernel_rfl) (fun _ _ _ h => h) rfl rfl ⟨h0, hg⟩ (fun w' h' => exec_load_all 51 _ rfl w.heap.size rfl _ _ _ h'.1 Try.underlying51 rfl 9 (by kernel_rfl) ((u8s_size _).trans hf.len)) ?_
        go_frame
        refine held_yield 1 (some 12) (.slice (some ⟨g, 0, none⟩) 3 3) rfl (by kernel_rfl) (by kernel_rfl) (by kernel_rfl) (fun _ _ _ h => h) rfl rfl ⟨h0, hg⟩ (fun w' h' => exec_move _ rfl (.slice (some ⟨g, 0, none⟩) 3 3) rfl) ?_
        go_frame
        refine held_yield 2 (some 13) (.int .i64 j) rfl (by kernel_rfl) (by kernel_rfl) (by kernel_rfl) (fun _ _ _ h => h) rfl rfl ⟨h0, hg⟩ (fun w' h' => exec_move _ rfl (.int .i64 j) rfl) ?_
        go_frame
        refine held_yield 3 (some 14) (.pointer (some ⟨g, j * 9, none⟩)) rfl (by kernel_rfl) (by kernel_rfl) (by kernel_rfl) (fun _ _ _ h => h) rfl rfl ⟨h0, hg⟩ (fun w' h' => exec_index_at0 _ 51 _ _ rfl g 3 3 j 9 rfl rfl Try.underlying125 (by kernel_rfl) hlt) ?_
        go_frame
        refine held_yield 4 (some 15) (.agg (u8s sk)) rfl (by kernel_rfl) (by kernel_rfl) (by kernel_rfl) (fun _ _ _ h => h) rfl rfl ⟨h0, hg⟩ (fun w' h' => exec_load_seg 51 _ rfl g (j * 9) rfl _ l _ 9 h'.2 Try.underlying51 rfl (by kernel_rfl) (by omega) sk Hsk.out) ?_
        go_frame
        refine held_yield 5 (some 16) (.bool true) rfl (by kernel_rfl) (by kernel_rfl) (by kernel_rfl) (fun _ _ _ h => h) rfl rfl ⟨h0, hg⟩ (fun w' h' => exec_eql_u8s_b 51 _ 5 _ _ rfl 9 Try.underlying51 Try.underlying5 (by kernel_rfl) (by kernel_rfl) f sk rfl rfl hf.len hsk.len true Hb.out) ?_
        go_frame
        refine wpAnyH_done (by kernel_rfl) ?_ _
        go_wp2_with fail
        go_ret
        exact ⟨ret_i64 HR.out, hB⟩
      | false =>
        have Hb := Lib.hid hb
        have HN : Hid (∀ i, i < j + 1 → (f == segm l (i * 9) 9) = false) := Lib.hid (fun i hi => by
          by_cases e : i = j
          · subst e; rw [Hsk.out]; exact hb
          · exact Hn.out i (by omega))
        clear hb
        go_wp2_with fail
        refine wp_region_held (S := fun w' => At w' w.heap.size (.cells (u8s f) 51 (0, 0)) ∧ At w' g (.cells (u8s l) t (0, 0))) (by kernel_rfl) ?_
        change wpAnyH _ _ _ _ _ _ _ _ (World.drew _)
        generalize hwd : World.drew _ = wd
        replace hB : Below w.heap.size w wd := by rw [← hwd]; exact hB.drew
        replace h0 : At wd w.heap.size (.cells (u8s f) 51 (0, 0)) := by rw [← hwd]; exact h0
        replace hg : At wd g (.cells (u8s l) t (0, 0)) := by rw [← hwd]; exact hg
        clear hwd
        refine held_yield 0 (some 11) (.agg (u8s f)) rfl (by kernel_rfl) (by kernel_rfl) (by kernel_rfl) (fun _ _ _ h => h) rfl rfl ⟨h0, hg⟩ (fun w' h' => exec_load_all 51 _ rfl w.heap.size rfl _ _ _ h'.1 Try.underlying51 rfl 9 (by kernel_rfl) ((u8s_size _).trans hf.len)) ?_
        go_frame
        refine held_yield 1 (some 12) (.slice (some ⟨g, 0, none⟩) 3 3) rfl (by kernel_rfl) (by kernel_rfl) (by kernel_rfl) (fun _ _ _ h => h) rfl rfl ⟨h0, hg⟩ (fun w' h' => exec_move _ rfl (.slice (some ⟨g, 0, none⟩) 3 3) rfl) ?_
        go_frame
        refine held_yield 2 (some 13) (.int .i64 j) rfl (by kernel_rfl) (by kernel_rfl) (by kernel_rfl) (fun _ _ _ h => h) rfl rfl ⟨h0, hg⟩ (fun w' h' => exec_move _ rfl (.int .i64 j) rfl) ?_
        go_frame
        refine held_yield 3 (some 14) (.pointer (some ⟨g, j * 9, none⟩)) rfl (by kernel_rfl) (by kernel_rfl) (by kernel_rfl) (fun _ _ _ h => h) rfl rfl ⟨h0, hg⟩ (fun w' h' => exec_index_at0 _ 51 _ _ rfl g 3 3 j 9 rfl rfl Try.underlying125 (by kernel_rfl) hlt) ?_
        go_frame
        refine held_yield 4 (some 15) (.agg (u8s sk)) rfl (by kernel_rfl) (by kernel_rfl) (by kernel_rfl) (fun _ _ _ h => h) rfl rfl ⟨h0, hg⟩ (fun w' h' => exec_load_seg 51 _ rfl g (j * 9) rfl _ l _ 9 h'.2 Try.underlying51 rfl (by kernel_rfl) (by omega) sk Hsk.out) ?_
        go_frame
        refine held_yield 5 (some 16) (.bool false) rfl (by kernel_rfl) (by kernel_rfl) (by kernel_rfl) (fun _ _ _ h => h) rfl rfl ⟨h0, hg⟩ (fun w' h' => exec_eql_u8s_b 51 _ 5 _ _ rfl 9 Try.underlying51 Try.underlying5 (by kernel_rfl) (by kernel_rfl) f sk rfl rfl hf.len hsk.len false Hb.out) ?_
        go_frame
        refine wpAnyH_done (by kernel_rfl) ?_ _
        go_wp2_with fail
        go_roundw
        case rel => exact ⟨j + 1, by omega, by go_num, HN.out, hB, h0, hg⟩
        case measure => simp [intOf]; omega
    · obtain rfl : j = 3 := by omega
      have HR : Hid ((-1 : Int) = idxF f l) := Lib.hid (idxF_no Hn.out).symm
      go_wp2_with fail
      go_ret
      exact ⟨ret_i64 HR.out, hB⟩
def conF (f l : List Nat) : Bool := f == segm l 0 9 || f == segm l 9 9 || f == segm l 18 9
theorem idxF_conF (f l : List Nat) : decide (0 ≤ idxF f l) = conF f l := by
  unfold idxF conF
  cases f == segm l 0 9 <;> cases f == segm l 9 9 <;> cases f == segm l 18 9 <;> decide
set_option maxHeartbeats 800000 in
theorem containsForm_c (g : Nat) (l f : List Nat) (t : TypeId) (w : World) (hl : Bytes 27 l) (hf : Bytes 9 f) (hg0 : At w g (.cells (u8s l) t (0, 0))) :
    Calls Try.prog 96 #[.slice (some ⟨g, 0, none⟩) 3 3, .agg (u8s f)] w fun e w' => e = .returned (.bool (conF f l)) ∧ Below w.heap.size w w' := by
  have HI := Lib.hid (fun w h => indexForm_c g l f t w hl hf h)
  have HD := Lib.hid (idxF_conF f l)
  generalize idxF f l = r at *
  go_enter Try.func96, Try.ntmps96
  go_wp2_with (refine wpList_load_all rfl 51 _ rfl w.heap.size rfl _ _ _ (al1_0 _ _) Try.underlying51 rfl 9 (by kernel_rfl) ((u8s_size _).trans hf.len) ?_)
  refine (HI.out _ (At.after hg0 (below1 _ _))).mono ?_
  rintro e w1 ⟨rfl, b1⟩
  have hB := below_after (below1 w _) b1
  go_wp2_with fail
  go_ret
  exact ⟨by rw [← HD.out]; rfl, hB⟩
theorem conF_zero (q : List Nat) : conF (List.replicate 9 0) q = !nzB q := by
  unfold conF nzB zeroB
  have e : ∀ s : List Nat, (List.replicate 9 0 == s) = (s == List.replicate 9 0) := fun s => by
    rw [Bool.eq_iff_iff, beq_iff_eq, beq_iff_eq]
    exact ⟨Eq.symm, Eq.symm⟩
  rw [e, e, e]
  cases segm q 0 9 == List.replicate 9 0 <;> cases segm q 9 9 == List.replicate 9 0 <;> cases segm q 18 9 == List.replicate 9 0 <;> rfl
end Go.Proofs.Ytemkhlokpinecaa
