/-
  impl.AddProduct.
-/
import Derived.Test.YtpoekhpchhmkaaaPrF
import Derived.Test.YtpoekhpchhmkaaaAdd1
import Derived.Test.YtpoekhpchhmkaaaLeft3
namespace Go.Proofs.Ytpoekhpchhmkaaa
open Go.RowKit
set_option maxRecDepth 100000
def addCode (p n m k : Int) (qs : List (List Nat)) (q : List Nat) : Int := if schemeB p n m k qs && prodB p n m k q then (if qs.length = 30 then 3 else 0) else 1
def addQs (p n m k : Int) (qs : List (List Nat)) (q : List Nat) : List (List Nat) := if addCode p n m k qs q = 0 then qs ++ [q] else []
def addZ (p n m k : Int) (qs : List (List Nat)) (q : List Nat) (x : Int) : Int := if addCode p n m k qs q = 0 then x else 0
theorem addCode_len {p n m k : Int} {qs : List (List Nat)} {q : List Nat} (h : addCode p n m k qs q = 0) : qs.length ≤ 30 := by
  unfold addCode at h
  split at h
  · rename_i hs
    simp only [Bool.and_eq_true] at hs
    exact schemeB_len hs.1
  · simp at h
theorem addQs_len (p n m k : Int) (qs : List (List Nat)) (q : List Nat) : (addQs p n m k qs q).length ≤ 31 := by
  unfold addQs
  split
  · rename_i h
    have := addCode_len h
    simp; omega
  · simp
theorem addQs_bytes {qs : List (List Nat)} {q : List Nat} (p n m k : Int) (hqs : ∀ q ∈ qs, Bytes 27 q) (hq : Bytes 27 q) : ∀ r ∈ addQs p n m k qs q, Bytes 27 r := by
  unfold addQs
  split
  · intro r hr
    simp only [List.mem_append, List.mem_singleton] at hr
    rcases hr with hr | rfl
    · exact hqs r hr
    · exact hq
  · simp
set_option maxHeartbeats 1600000 in
theorem implAddProduct_c (p n m k : Int) (A : Option Addr) (cap : Nat) (qs : List (List Nat)) (q : List Nat) (w : World) (hr : Rd w A qs) (hlen : qs.length ≤ 1048576) (hc : A = none → cap = 0) (hq : Bytes 27 q) :
    Calls Try.prog 11 #[.agg #[.int .i64 p, .int .i64 n, .int .i64 m, .int .i64 k, .slice A qs.length cap], .agg (u8s q)] w
      (ResS w (addZ p n m k qs q p) (addZ p n m k qs q n) (addZ p n m k qs q m) (addZ p n m k qs q k) (addQs p n m k qs q) (addCode p n m k qs q)) := by
  have HC := Lib.hid hc
  clear hc
  cases hs : schemeB p n m k qs with
  | false =>
    have Hs := Lib.hid hs
    have Hcode : Hid (addCode p n m k qs q = 1) := Lib.hid (by simp [addCode, hs])
    clear hs
    go_enter Try.func11, Try.ntmps11
    go_wp2_with (first | (refine wpList_abs3 ?_; intro W hsz hB h0 h1 h2) | (refine wpList_load_all rfl 31 _ rfl w.heap.size rfl _ _ _ h0 Try.underlying31 rfl 5 (by kernel_rfl) rfl ?_))
    refine (implIsScheme_c p n m k A cap qs _ (hr.keep hB) hlen).mono ?_
    rintro e w1 ⟨rfl, c1⟩
    replace h2 := h2.after c1
    replace hB := below_after hB c1
    rw [Hs.out]
    clear c1 hsz h0 h1
    go_wp2_with (refine wpList_store_all rfl 31 _ _ rfl rfl (w.heap.size + 1 + 1) rfl _ rfl _ _ h2 5 (by kernel_rfl) rfl rfl (by simp [Value.oneCell']) ?_; intro W2 p2)
    refine bodyPost_ret (results_at2 rfl _ _ (w.heap.size + 1 + 1) _ _ _ rfl _ rfl p2.at_ Try.underlying31 rfl 5 (by kernel_rfl) rfl) rfl ?_
    exact ⟨.slice none 0 0, by simp only [addZ, Hcode.out]; rfl, by simp only [addQs, Hcode.out]; exact Own.nil _ _, p2.below hB (by omega)⟩
  | true =>
    have Hs := Lib.hid hs
    have Hp := Lib.hid (sizesB_parts (schemeB_sizes hs))
    have Hpp := Lib.hid (primeB_pos (sizesB_parts (schemeB_sizes hs)).1)
    have h30 := schemeB_len hs
    cases hpr : prodB p n m k q with
    | false =>
      have Hpr := Lib.hid hpr
      have Hcode : Hid (addCode p n m k qs q = 1) := Lib.hid (by simp [addCode, hs, hpr])
      clear hs hpr
      go_enter Try.func11, Try.ntmps11
      go_wp2_with (first | (refine wpList_abs3 ?_; intro W hsz hB h0 h1 h2) | (refine wpList_load_all rfl 31 _ rfl w.heap.size rfl _ _ _ h0 Try.underlying31 rfl 5 (by kernel_rfl) rfl ?_))
      refine (implIsScheme_c p n m k A cap qs _ (hr.keep hB) hlen).mono ?_
      rintro e w1 ⟨rfl, c1⟩
      replace h0 := h0.after c1
      replace h1 := h1.after c1
      replace h2 := h2.after c1
      replace hB := below_after hB c1
      rw [Hs.out]
      clear c1 hsz
      go_wp2_with (first | (refine wpList_want_exec rfl (exec_load_all 31 _ rfl w.heap.size rfl _ _ _ h0 Try.underlying31 rfl 5 (by kernel_rfl) rfl) ?_) | (refine wpList_want_exec rfl (exec_load_all 37 _ rfl (w.heap.size + 1) rfl _ _ _ h1 Try.underlying37 rfl 27 (by kernel_rfl) ((u8s_size _).trans hq.len)) ?_))
      refine (isProductFor_c p n m k _ q Hpp.out hq Hp.out.2.1 Hp.out.2.2.1 Hp.out.2.2.2 _).mono ?_
      rintro e w2 ⟨rfl, c1⟩
      replace h2 := h2.after c1
      replace hB := below_after hB c1
      rw [Hpr.out]
      clear c1 h0 h1
      go_wp2_with (refine wpList_store_all rfl 31 _ _ rfl rfl (w.heap.size + 1 + 1) rfl _ rfl _ _ h2 5 (by kernel_rfl) rfl rfl (by simp [Value.oneCell']) ?_; intro W2 p2)
      refine bodyPost_ret (results_at2 rfl _ _ (w.heap.size + 1 + 1) _ _ _ rfl _ rfl p2.at_ Try.underlying31 rfl 5 (by kernel_rfl) rfl) rfl ?_
      exact ⟨.slice none 0 0, by simp only [addZ, Hcode.out]; rfl, by simp only [addQs, Hcode.out]; exact Own.nil _ _, p2.below hB (by omega)⟩
    | true =>
      have Hpr := Lib.hid hpr
      by_cases hl : qs.length = 30
      · have hl' : ((qs.length : Int) == 30) = true := by simp; omega
        have Hcode : Hid (addCode p n m k qs q = 3) := Lib.hid (by simp [addCode, hs, hpr, hl])
        clear hs hpr hl
        go_enter Try.func11, Try.ntmps11
        go_wp2_with (first | (refine wpList_abs3 ?_; intro W hsz hB h0 h1 h2) | (refine wpList_load_all rfl 31 _ rfl w.heap.size rfl _ _ _ h0 Try.underlying31 rfl 5 (by kernel_rfl) rfl ?_))
        refine (implIsScheme_c p n m k A cap qs _ (hr.keep hB) hlen).mono ?_
        rintro e w1 ⟨rfl, c1⟩
        replace h0 := h0.after c1
        replace h1 := h1.after c1
        replace h2 := h2.after c1
        replace hB := below_after hB c1
        rw [Hs.out]
        clear c1 hsz
        go_wp2_with (first | (refine wpList_want_exec rfl (exec_load_all 31 _ rfl w.heap.size rfl _ _ _ h0 Try.underlying31 rfl 5 (by kernel_rfl) rfl) ?_) | (refine wpList_want_exec rfl (exec_load_all 37 _ rfl (w.heap.size + 1) rfl _ _ _ h1 Try.underlying37 rfl 27 (by kernel_rfl) ((u8s_size _).trans hq.len)) ?_))
        refine (isProductFor_c p n m k _ q Hpp.out hq Hp.out.2.1 Hp.out.2.2.1 Hp.out.2.2.2 _).mono ?_
        rintro e w2 ⟨rfl, c1⟩
        replace h0 := h0.after c1
        replace h2 := h2.after c1
        replace hB := below_after hB c1
        rw [Hpr.out]
        clear c1 h1
        have x4 : w2.cell? ⟨w.heap.size, 4, none⟩ = some (.slice A qs.length cap) := h0.at_ 4
        go_wp2_with (refine wpList_store_all rfl 31 _ _ rfl rfl (w.heap.size + 1 + 1) rfl _ rfl _ _ h2 5 (by kernel_rfl) rfl rfl (by simp [Value.oneCell']) ?_; intro W2 p2)
        refine bodyPost_ret (results_at2 rfl _ _ (w.heap.size + 1 + 1) _ _ _ rfl _ rfl p2.at_ Try.underlying31 rfl 5 (by kernel_rfl) rfl) rfl ?_
        exact ⟨.slice none 0 0, by simp only [addZ, Hcode.out]; rfl, by simp only [addQs, Hcode.out]; exact Own.nil _ _, p2.below hB (by omega)⟩
      · have hl' : ((qs.length : Int) == 30) = false := by simp; omega
        have Hcode : Hid (addCode p n m k qs q = 0) := Lib.hid (by simp [addCode, hs, hpr, hl])
        clear hs hpr hl
        go_enter Try.func11, Try.ntmps11
        go_wp2_with (first | (refine wpList_abs3 ?_; intro W hsz hB h0 h1 h2) | (refine wpList_load_all rfl 31 _ rfl w.heap.size rfl _ _ _ h0 Try.underlying31 rfl 5 (by kernel_rfl) rfl ?_))
        refine (implIsScheme_c p n m k A cap qs _ (hr.keep hB) hlen).mono ?_
        rintro e w1 ⟨rfl, c1⟩
        replace h0 := h0.after c1
        replace h1 := h1.after c1
        replace h2 := h2.after c1
        replace hB := below_after hB c1
        rw [Hs.out]
        clear c1 hsz
        go_wp2_with (first | (refine wpList_want_exec rfl (exec_load_all 31 _ rfl w.heap.size rfl _ _ _ h0 Try.underlying31 rfl 5 (by kernel_rfl) rfl) ?_) | (refine wpList_want_exec rfl (exec_load_all 37 _ rfl (w.heap.size + 1) rfl _ _ _ h1 Try.underlying37 rfl 27 (by kernel_rfl) ((u8s_size _).trans hq.len)) ?_))
        refine (isProductFor_c p n m k _ q Hpp.out hq Hp.out.2.1 Hp.out.2.2.1 Hp.out.2.2.2 _).mono ?_
        rintro e w2 ⟨rfl, c1⟩
        replace h0 := h0.after c1
        replace h1 := h1.after c1
        replace h2 := h2.after c1
        replace hB := below_after hB c1
        rw [Hpr.out]
        clear c1
        have x4 : w2.cell? ⟨w.heap.size, 4, none⟩ = some (.slice A qs.length cap) := h0.at_ 4
        have hsz2 := hB.size
        have hg2 := h2.lt
        go_wp2_with (first | (refine wpList_load_all rfl 31 _ rfl w.heap.size rfl _ _ _ h0 Try.underlying31 rfl 5 (by kernel_rfl) rfl ?_) | (refine wpList_load_all rfl 37 _ rfl (w.heap.size + 1) rfl _ _ _ h1 Try.underlying37 rfl 27 (by kernel_rfl) ((u8s_size _).trans hq.len) ?_) | (refine wpList_buildSlice1 rfl _ 37 _ rfl _ rfl Try.underlying29 infoProd hq.len ?_; intro W7 n7))
        have b7 := n7.below (Below.refl _ _) (Nat.le_refl _)
        replace h2 := h2.after b7
        replace hB := below_after hB b7
        have hq7 := n7.at_
        clear b7 n7 x4 h0 h1
        have hA7 := al1_0 W7 (.cells #[.slice A qs.length cap, .slice (some ⟨w2.heap.size, 0, none⟩) 1 1] 29 (0, 0))
        have b8 := below1 W7 (.cells #[.slice A qs.length cap, .slice (some ⟨w2.heap.size, 0, none⟩) 1 1] 29 (0, 0))
        have hRq : Rd W7 (some ⟨w2.heap.size, 0, none⟩) [q] := Rd.of_at (t := 37) (by simpa using hq7) (by simpa using hq)
        refine (withProducts2_c p n m k _ rfl W7.heap.size A (some ⟨w2.heap.size, 0, none⟩) cap 1 qs [q] _ hA7 ((hr.keep hB).keep b8) HC.out (hRq.keep b8) (by simp) (by simp; omega)).mono ?_
        rintro e w9 ⟨v, rfl, ho, b9⟩
        replace h2 := (h2.after b8).after b9
        have hsz3 := below_after hB b8
        replace hB := below_after hsz3 b9
        have hoff := ho.off h2 (by decide)
        have hv := ho.shp.cells
        replace ho := ho.mono hsz3.size
        clear b8 b9 hsz3
        go_wp2_with (refine wpList_store_all rfl 31 _ _ rfl rfl (w.heap.size + 1 + 1) rfl _ rfl _ _ h2 5 (by kernel_rfl) rfl rfl (by intro x hx; simp at hx; rcases hx with rfl | rfl | rfl | rfl | rfl <;> first | rfl | exact hv.2) ?_; intro W2 p2)
        refine bodyPost_ret (results_at2 rfl _ _ (w.heap.size + 1 + 1) _ _ _ rfl _ rfl p2.at_ Try.underlying31 rfl 5 (by kernel_rfl) rfl) rfl ?_
        exact ⟨v, by simp only [addZ, Hcode.out]; rfl, by simp only [addQs, Hcode.out]; exact ho.put p2 hoff, p2.below hB (by omega)⟩
end Go.Proofs.Ytpoekhpchhmkaaa
