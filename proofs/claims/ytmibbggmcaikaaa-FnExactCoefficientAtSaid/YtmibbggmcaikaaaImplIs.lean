/-
  impl.IsScheme answers as spec.IsScheme does.
-/
import Derived.Test.YtmibbggmcaikaaaIs
namespace Go.Proofs.Ytmibbggmcaikaaa
open Go.RowKit
set_option maxRecDepth 100000
set_option maxHeartbeats 800000 in
theorem implIsScheme_no (p n m k : Int) (A : Option Addr) (c : Nat) (qs : List (List Nat)) (w : World) (hno : sizesB p n m k = false) :
    Calls Try.prog 51 #[.agg #[.int .i64 p, .int .i64 n, .int .i64 m, .int .i64 k, .slice A qs.length c]] w fun e w' => e = .returned (.bool (schemeB p n m k qs)) ∧ Below w.heap.size w w' := by
  have Hno : Hid (schemeB p n m k qs = false) := Lib.hid (by simp [schemeB, hno])
  have Hs := Lib.hid hno
  clear hno
  go_enter Try.func51, Try.ntmps51
  go_wp2_with fail
  refine (isPrime_c p _).mono ?_
  rintro e w1 ⟨rfl, rfl⟩
  cases hp : primeB p with
  | false =>
    clear hp
    go_wp2_with fail
    go_ret
    exact ⟨by rw [Hno.out]; rfl, below1 _ _⟩
  | true =>
    have Hp := Lib.hid hp
    clear hp
    go_wp2_with fail
    refine (isSize_c n _).mono ?_
    rintro e w1 ⟨rfl, rfl⟩
    cases hn : sizeB n with
    | false =>
      clear hn
      go_wp2_with fail
      go_ret
      exact ⟨by rw [Hno.out]; rfl, below1 _ _⟩
    | true =>
      have Hn := Lib.hid hn
      clear hn
      go_wp2_with fail
      refine (isSize_c m _).mono ?_
      rintro e w1 ⟨rfl, rfl⟩
      cases hm : sizeB m with
      | false =>
        clear hm
        go_wp2_with fail
        go_ret
        exact ⟨by rw [Hno.out]; rfl, below1 _ _⟩
      | true =>
        have hk : sizeB k = false := by
          have h := Hs.out
          simp only [sizesB, Hp.out, Hn.out, hm, Bool.and_true, Bool.true_and] at h
          exact h
        have Hk := Lib.hid hk
        clear hk hm
        go_wp2_with fail
        refine (isSize_c k _).mono ?_
        rintro e w1 ⟨rfl, rfl⟩
        rw [Hk.out]
        go_wp2_with fail
        go_ret
        exact ⟨by rw [Hno.out]; rfl, below1 _ _⟩
set_option maxHeartbeats 800000 in
theorem implIsScheme_yes (p n m k : Int) (A : Option Addr) (c : Nat) (qs : List (List Nat)) (w : World) (hr : Rd w A qs) (hlen : qs.length ≤ 1048576) (hyes : sizesB p n m k = true) :
    Calls Try.prog 51 #[.agg #[.int .i64 p, .int .i64 n, .int .i64 m, .int .i64 k, .slice A qs.length c]] w fun e w' => e = .returned (.bool (schemeB p n m k qs)) ∧ Below w.heap.size w w' := by
  have Hs := Lib.hid hyes
  have Hpp := Lib.hid (primeB_pos (sizesB_parts hyes).1)
  clear hyes
  by_cases h30 : 30 < qs.length
  · have Hno : Hid (schemeB p n m k qs = false) := Lib.hid (by simp [schemeB]; omega)
    have d30 : decide ((30 : Int) < (qs.length : Int)) = true := by simp; omega
    go_enter Try.func51, Try.ntmps51
    go_wp2_with fail
    refine (isPrime_c p _).mono ?_
    rintro e w1 ⟨rfl, rfl⟩
    rw [(sizesB_parts Hs.out).1]
    go_wp2_with fail
    refine (isSize_c n _).mono ?_
    rintro e w1 ⟨rfl, rfl⟩
    rw [(sizesB_parts Hs.out).2.1]
    go_wp2_with fail
    refine (isSize_c m _).mono ?_
    rintro e w1 ⟨rfl, rfl⟩
    rw [(sizesB_parts Hs.out).2.2.1]
    go_wp2_with fail
    refine (isSize_c k _).mono ?_
    rintro e w1 ⟨rfl, rfl⟩
    rw [(sizesB_parts Hs.out).2.2.2]
    go_wp2_with fail
    go_ret
    exact ⟨by rw [Hno.out]; rfl, below1 _ _⟩
  · have d30 : decide ((30 : Int) < (qs.length : Int)) = false := by simp; omega
    go_enter Try.func51, Try.ntmps51
    go_wp2_with fail
    refine (isPrime_c p _).mono ?_
    rintro e w1 ⟨rfl, rfl⟩
    rw [(sizesB_parts Hs.out).1]
    go_wp2_with fail
    refine (isSize_c n _).mono ?_
    rintro e w1 ⟨rfl, rfl⟩
    rw [(sizesB_parts Hs.out).2.1]
    go_wp2_with fail
    refine (isSize_c m _).mono ?_
    rintro e w1 ⟨rfl, rfl⟩
    rw [(sizesB_parts Hs.out).2.2.1]
    go_wp2_with fail
    refine (isSize_c k _).mono ?_
    rintro e w1 ⟨rfl, rfl⟩
    rw [(sizesB_parts Hs.out).2.2.2]
    go_wp2_with fail
    go_loopw [34] (fun i wr => IsRel w p n m k A c qs i wr) (fun i _ => qs.length - (intOf i).toNat)
    case atStart => exact ⟨0, by omega, rfl, below1 _ _, al1_0 _ _, by omega⟩
    case round =>
      obtain ⟨j, hj, rfl, hB, h0, hall⟩ := hrel
      have Hall := Lib.hid hall
      clear hall
      by_cases hlt : j < qs.length
      · obtain ⟨b, off, hA0, hc⟩ := (hr.keep hB).at_ hlt
        have g1 := hr.good qs[j] (List.getElem_mem hlt)
        have Hc := Lib.hid hc
        clear hc
        subst hA0
        have l0 := h0.lt
        have lB := hB.size
        go_wp2_with (first | (refine wpList_load_cells rfl 68 _ rfl b (off + j * 27) rfl qs[j] _ 27 Hc.out Try.underlying68 rfl (by kernel_rfl) g1.len ?_) | (refine wpList_abs1 ?_; intro W2 hsz2 hB2 s2; replace s2 : At W2 wr.heap.size (.cells (u8s (List.replicate 27 0)) 68 (0, 0)) := s2; replace h0 := h0.after hB2; replace hB := below_after hB hB2) | (refine wpList_store_u8s rfl 68 _ _ rfl rfl wr.heap.size 0 rfl _ rfl _ _ s2 27 (by kernel_rfl) g1.len (by simp) ?_; intro W3 p3; replace h0 := p3.other h0 (by omega); replace hB := p3.below hB (by omega); have s3 := p3.at_; rw [over_all (by rw [g1.len]; simp)] at s3) | (refine wpList_load_all rfl 36 _ rfl w.heap.size rfl _ _ _ h0 Try.underlying36 rfl 5 (by kernel_rfl) rfl ?_) | (refine wpList_load_all rfl 68 _ rfl wr.heap.size rfl _ _ _ s3 Try.underlying68 rfl 27 (by kernel_rfl) ((u8s_size _).trans g1.len) ?_))
        refine (isProductFor_c p n m k _ qs[j] Hpp.out g1 (sizesB_parts Hs.out).2.1 (sizesB_parts Hs.out).2.2.1 (sizesB_parts Hs.out).2.2.2 _).mono ?_
        rintro e w2 ⟨rfl, b2⟩
        have hB2' := below_after hB b2
        have h2 := At.after h0 b2
        cases hx : prodB p n m k qs[j] with
        | false =>
          have Hno : Hid (schemeB p n m k qs = false) := Lib.hid (schemeB_no hlt hx)
          clear hx
          go_wp2_with fail
          go_ret
          exact ⟨by rw [Hno.out]; rfl, hB2'⟩
        | true =>
          have Hx := Lib.hid hx
          clear hx
          go_wp2_with fail
          go_roundw
          case rel =>
            refine ⟨j + 1, by omega, by go_num, hB2', h2, fun i hi hij => ?_⟩
            by_cases e : i = j
            · subst e; exact Hx.out
            · exact Hall.out i hi (by omega)
          case measure => simp [intOf]; omega
      · obtain rfl : j = qs.length := by omega
        have Hyes : Hid (schemeB p n m k qs = true) := Lib.hid (schemeB_yes Hs.out (by omega) fun i hi => Hall.out i hi hi)
        go_wp2_with fail
        go_ret
        exact ⟨by rw [Hyes.out]; rfl, hB⟩
theorem implIsScheme_c (p n m k : Int) (A : Option Addr) (c : Nat) (qs : List (List Nat)) (w : World) (hr : Rd w A qs) (hlen : qs.length ≤ 1048576) :
    Calls Try.prog 51 #[.agg #[.int .i64 p, .int .i64 n, .int .i64 m, .int .i64 k, .slice A qs.length c]] w fun e w' => e = .returned (.bool (schemeB p n m k qs)) ∧ Below w.heap.size w w' := by
  cases hs : sizesB p n m k with
  | false => exact implIsScheme_no p n m k A c qs w hs
  | true => exact implIsScheme_yes p n m k A c qs w hr hlen hs
theorem schemeB_len {p n m k : Int} {qs : List (List Nat)} (h : schemeB p n m k qs = true) : qs.length ≤ 30 := by
  simp only [schemeB, Bool.and_eq_true, decide_eq_true_eq] at h
  exact h.1.2
theorem schemeB_sizes {p n m k : Int} {qs : List (List Nat)} (h : schemeB p n m k qs = true) : sizesB p n m k = true := by
  simp only [schemeB, Bool.and_eq_true] at h
  exact h.1.1
end Go.Proofs.Ytmibbggmcaikaaa
