/-
  slices.DeleteFunc at []impl.Product with impl.hasZero.
-/
import Derived.Test.YtemkhlokpinecaaDel2
namespace Go.Proofs.Ytemkhlokpinecaa
open Go.RowKit
set_option maxRecDepth 100000
theorem grown_below {w w' : World} (b : Below w.heap.size w w') (r : Option Nat) : w.grownBy w' r := ⟨b.os, b.tape, b.output, b.size, fun k hk _ => b.block k hk⟩
theorem Own.cap {w : World} {lo c n : Nat} {A : Option Addr} {L : List (List Nat)} (h : Own w lo (.slice A n c) L) : n ≤ c := by
  rcases h.2 with ⟨e, h0⟩ | ⟨g, cap, cur, e, hb, hgg, hle, _⟩
  · simp only [Value.slice.injEq] at e; omega
  · simp only [Value.slice.injEq] at e; omega
theorem take_set_succ {L : List (List Nat)} {i : Nat} (q : List Nat) (hi : i < L.length) : (L.set i q).take (i + 1) = L.take i ++ [q] := by
  rw [List.take_succ_eq_append_getElem (by simpa using hi)]
  simp [List.take_set_of_le]
theorem drop_get {L M : List (List Nat)} {j : Nat} (h : L.drop j = M.drop j) (hl : j < L.length) (hm : j < M.length) : L[j] = M[j] := by
  have h1 : (L.drop j)[0]? = (M.drop j)[0]? := by rw [h]
  simpa [List.getElem?_drop, hl, hm] using h1
theorem drop_succ_of {L M : List (List Nat)} {j : Nat} (h : L.drop j = M.drop j) : L.drop (j + 1) = M.drop (j + 1) := by
  rw [← List.drop_drop, ← List.drop_drop (j := j), h]
def DelPost (w : World) (lo : Nat) (v : Value) (qs : List (List Nat)) (e : Ending) (w' : World) : Prop :=
  ∃ v', e = .returned v' ∧ Own w' lo v' (qs.filter nzB) ∧ w.grownBy w' v.ownBlock
def DelRel (w : World) (lo g c : Nat) (qs : List (List Nat)) (i j : Nat) (wr : World) : Prop :=
  ∃ L : List (List Nat), L.length = qs.length ∧ (∀ q ∈ L, Bytes 27 q) ∧ L.take i = (qs.take j).filter nzB ∧ L.drop j = qs.drop j ∧ Own wr lo (.slice (some ⟨g, 0, none⟩) qs.length c) L ∧ w.grownBy wr (some g)
set_option maxHeartbeats 3200000 in
theorem deleteFunc_c {lo n c : Nat} {A : Option Addr} {qs : List (List Nat)} (w : World) (h : Own w lo (.slice A n c) qs) (hq : ∀ q ∈ qs, Bytes 27 q) (hlen : qs.length ≤ 1000) :
    Calls Try.prog 61 #[.slice A n c, .func (.func 63) #[] #[]] w (DelPost w lo (.slice A n c) qs) := by
  obtain rfl : n = qs.length := h.len
  have Hq := Lib.hid hq
  have hcap := h.cap
  have HI := Lib.hid (indexDel_c A c qs w (h.rd' hq) hlen)
  clear hq
  go_enter Try.func61, Try.ntmps61
  go_wp2_with fail
  refine HI.out.mono ?_
  rintro e w1 ⟨r, rfl, hr, b1⟩
  rcases hr with ⟨rfl, hf⟩ | ⟨i0, rfl, hi0, _, hf2⟩
  · have Hf := Lib.hid hf
    clear hf
    go_wp2_with fail
    go_ret
    exact ⟨_, rfl, by rw [Hf.out]; exact h.below b1, grown_below b1 _⟩
  · obtain ⟨g, rfl, hg⟩ := h.blk (by omega)
    have hne : ((i0 : Int) == -1) = false := by rw [beq_eq_false_iff_ne]; omega
    have e9 : IntKind.i64.wrap ((i0 : Int) + 1) = ((i0 + 1 : Nat) : Int) := IntWalk.i64_in _ (by omega)
    have hR : DelRel w lo g c qs i0 (i0 + 1) w1 := ⟨qs, rfl, Hq.out, hf2.symm, rfl, h.below b1, grown_below b1 _⟩
    have E9 := Lib.hid e9
    clear b1 hf2 h e9
    go_wp2_with fail
    go_loopw [5, 6] (fun iv jv wr => ∃ i j : Nat, i < j ∧ j ≤ qs.length ∧ iv = .int .i64 i ∧ jv = .int .i64 j ∧ DelRel w lo g c qs i j wr) (fun _ jv _ => qs.length - (intOf jv).toNat)
    case atStart => exact ⟨i0, i0 + 1, by omega, by omega, rfl, by go_num, hR⟩
    case round =>
      clear hR hne
      obtain ⟨i, j, hij, hj, rfl, rfl, L, hLl, hLb, hLt, hLd, ho, hG⟩ := hrel
      by_cases hlt : j < qs.length
      · have f0 : IntKind.i64.wrap ((j : Int) + 1) = (j : Int) + 1 := IntWalk.i64_in _ (by omega)
        have f1 : IntKind.i64.wrap ((i : Int) + 1) = (i : Int) + 1 := IntWalk.i64_in _ (by omega)
        have hj' : (j : Int) < (qs.length : Int) := by omega
        have hi' : (i : Int) < (qs.length : Int) := by omega
        have hjL : j < L.length := by omega
        have hcj := Rd.cells27 (ho.rd' hLb) hjL
        rw [drop_get hLd hjL hlt] at hcj
        have Hcj : Hid (∀ j', j' < 27 → wr.cell? ⟨g, j * 27 + j', none⟩ = some (.int .u8 ((qs[j][j']?.getD 0 : Nat) : Int))) := Lib.hid (fun j' h => by have := hcj j' h; rwa [Nat.zero_add] at this)
        clear hcj
        have hqj := Hq.out _ (List.getElem_mem hlt)
        have HF := Lib.hid (filter_snoc qs hlt)
        have HZ := Lib.hid (fun w => hasZero_c _ hqj w)
        have HLt := Lib.hid hLt
        have HLd := Lib.hid (drop_succ_of hLd)
        have HLb := Lib.hid hLb
        have HL27 : Hid (∀ q ∈ L, q.length = 27) := Lib.hid (fun q h => (hLb q h).len)
        have naw := ho.away_new
        clear hLt hLd hLb
        generalize qs[j] = q at *
        go_upto_region 8 with (first | (refine wpList_load_cells rfl 53 _ rfl g (j * 27) rfl q _ 27 Hcj.out Try.underlying53 rfl (by kernel_rfl) hqj.len ?_) | (refine wpList_abs1 ?_; intro W2 hsz2 hB2 s2; replace s2 : At W2 wr.heap.size (.cells (u8s (List.replicate 27 0)) 53 (0, 0)) := s2; replace ho := ho.below hB2) | (refine wpList_store_u8s rfl 53 _ _ rfl rfl wr.heap.size 0 rfl q rfl _ _ s2 27 (by kernel_rfl) hqj.len (by simp) ?_; intro W3 p3))
        replace ho := ho.put p3 naw
        have b3 := p3.below hB2 (Nat.le_refl _)
        have s3 := p3.at_
        rw [over_all (by rw [hqj.len]; simp)] at s3
        replace hG := grown_trans hG (grown_below b3 _)
        clear p3 s2 hsz2 hB2 b3
        cases hz : nzB q with
        | true =>
          have Hz := Lib.hid hz
          have HFT : Hid ((qs.take (j + 1)).filter nzB = L.take i ++ [q]) := Lib.hid (by rw [HF.out, HLt.out, hz]; rfl)
          clear hz
          go_wp2_with (refine wpList_load_all rfl 53 _ rfl wr.heap.size rfl _ _ _ s3 Try.underlying53 rfl 27 (by kernel_rfl) ((u8s_size _).trans hqj.len) ?_)
          refine (HZ.out _).mono ?_
          rintro e w4 ⟨rfl, b4⟩
          rw [Hz.out]
          replace s3 := s3.after b4
          replace ho := ho.below b4
          replace hG := grown_trans hG (grown_below b4 _)
          clear b4
          go_wp2_with (first | (refine wpList_load_all rfl 53 _ rfl wr.heap.size rfl _ _ _ s3 Try.underlying53 rfl 27 (by kernel_rfl) ((u8s_size _).trans hqj.len) ?_) | (refine wpList_store_own rfl 53 _ _ rfl rfl g i rfl q rfl ho HL27.out (by kernel_rfl) (by omega) hqj.len ?_; intro W5 ho5 P5 _))
          go_roundw
          case rel =>
            refine ⟨i + 1, j + 1, by omega, by omega, by go_num, by go_num, L.set i q, by simpa using hLl, fun r hr => ?_, ?_, ?_, ho5, grown_trans hG P5.grown⟩
            · rcases List.mem_or_eq_of_mem_set hr with hr | rfl
              · exact HLb.out r hr
              · exact hqj
            · rw [take_set_succ q (by omega), HFT.out]
            · rw [List.drop_set_of_lt (by omega)]; exact HLd.out
          case measure => simp [intOf]; omega
        | false =>
          have Hz := Lib.hid hz
          have HFT : Hid ((qs.take (j + 1)).filter nzB = L.take i) := Lib.hid (by rw [HF.out, HLt.out, hz]; simp)
          clear hz
          go_wp2_with (refine wpList_load_all rfl 53 _ rfl wr.heap.size rfl _ _ _ s3 Try.underlying53 rfl 27 (by kernel_rfl) ((u8s_size _).trans hqj.len) ?_)
          refine (HZ.out _).mono ?_
          rintro e w4 ⟨rfl, b4⟩
          rw [Hz.out]
          replace ho := ho.below b4
          replace hG := grown_trans hG (grown_below b4 _)
          clear b4
          go_wp2_with fail
          go_roundw
          case rel => exact ⟨i, j + 1, by omega, by omega, rfl, by go_num, L, hLl, HLb.out, HFT.out.symm, HLd.out, ho, hG⟩
          case measure => simp [intOf]; omega
      · obtain rfl : j = qs.length := by omega
        have HL27 : Hid (∀ q ∈ L, q.length = 27) := Lib.hid (fun q h => (hLb q h).len)
        have HR : Hid (L.take i = qs.filter nzB) := Lib.hid (by rw [hLt, List.take_length])
        clear hLt hLd hLb
        go_wp2_with (first | (refine wpList_of_exec rfl (exec_sl_lo _ _ rfl g qs.length c i (by omega) (by omega) rfl rfl) ?_) | (refine wpList_clear_own rfl rfl _ rfl ho HL27.out i (qs.length - i) (c - i) (by omega) (by omega) rfl ?_; intro W8 ho8 g8) | (refine wpList_of_exec rfl (exec_sl_hi _ _ rfl g qs.length c i (by omega) rfl rfl) ?_))
        go_ret
        exact ⟨_, rfl, by rw [← HR.out]; exact ho8, grown_trans hG g8⟩
end Go.Proofs.Ytemkhlokpinecaa
