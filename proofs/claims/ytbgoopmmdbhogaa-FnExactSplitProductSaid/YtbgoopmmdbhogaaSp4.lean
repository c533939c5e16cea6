/-
  SplitProduct of spec and of impl. (Made by mksp4.py.)
-/
import Derived.Test.YtbgoopmmdbhogaaSp2A
import Derived.Test.YtbgoopmmdbhogaaSp2B
import Derived.Test.YtbgoopmmdbhogaaSp2C
import Derived.Test.YtbgoopmmdbhogaaSp3A
import Derived.Test.YtbgoopmmdbhogaaSp3B
import Derived.Test.YtbgoopmmdbhogaaSp3C
namespace Go.Proofs.Ytbgoopmmdbhogaa
open Go.RowKit
set_option maxRecDepth 100000
theorem specSplitProduct_c (p n m k : Int) (b0 off0 : Nat) (cap : Nat) (qs : List (List Nat)) (i f : Int) (form : List Nat) (w : World) (hR : Rd w (some ⟨b0, off0, none⟩) qs) (hlen : qs.length ≤ 1048576) (hfm : Bytes 9 form) :
    Calls Try.prog 16 #[.agg #[.int .i64 p, .int .i64 n, .int .i64 m, .int .i64 k, .slice (some ⟨b0, off0, none⟩) qs.length cap], .int .i64 i, .int .i64 f, .agg (u8s form)] w (ResS w (spZ p n m k qs i f form p) (spZ p n m k qs i f form n) (spZ p n m k qs i f form m) (spZ p n m k qs i f form k) (spR p n m k qs i f form) (spCode p n m k qs i f form)) := by
  cases hs : schemeB p n m k qs with
  | false => exact specSplit_a p n m k b0 off0 cap qs i f form w hR hlen hfm hs
  | true =>
    cases hi : inI i qs.length with
    | false => exact specSplit_b p n m k b0 off0 cap qs i f form w hR hlen hfm hs hi
    | true =>
      cases hf : inI f 3 with
      | false => exact specSplit_c p n m k b0 off0 cap qs i f form w hR hlen hfm hs hi hf
      | true =>
        obtain ⟨a, rfl, ha⟩ := inI_nat hi
        obtain ⟨b, rfl, hb⟩ := inI_nat hf
        have hb3 : b = 0 ∨ b = 1 ∨ b = 2 := by omega
        rcases hb3 with rfl | rfl | rfl
        · cases hm : formB p form (n * m) with
          | false => exact specSplit_d0 p n m k b0 off0 cap qs a form w hR hlen hfm hs ha hm
          | true =>
            cases hz : zeroB form with
            | true => exact specSplit_e0 p n m k b0 off0 cap qs a form w hR hlen hfm hs ha hm hz
            | false =>
              cases heq : (form == segm qs[a] 0 9) with
              | true => exact specSplit_g0 p n m k b0 off0 cap qs a form w hR hlen hfm hs ha hm hz heq
              | false =>
                by_cases h30 : qs.length = 30
                · exact specSplit_h0 p n m k b0 off0 cap qs a form w hR hlen hfm hs ha hm hz heq h30
                · exact specSplit_y0 p n m k b0 off0 cap qs a form w hR hlen hfm hs ha hm hz heq h30
        · cases hm : formB p form (m * k) with
          | false => exact specSplit_d1 p n m k b0 off0 cap qs a form w hR hlen hfm hs ha hm
          | true =>
            cases hz : zeroB form with
            | true => exact specSplit_e1 p n m k b0 off0 cap qs a form w hR hlen hfm hs ha hm hz
            | false =>
              cases heq : (form == segm qs[a] 9 9) with
              | true => exact specSplit_g1 p n m k b0 off0 cap qs a form w hR hlen hfm hs ha hm hz heq
              | false =>
                by_cases h30 : qs.length = 30
                · exact specSplit_h1 p n m k b0 off0 cap qs a form w hR hlen hfm hs ha hm hz heq h30
                · exact specSplit_y1 p n m k b0 off0 cap qs a form w hR hlen hfm hs ha hm hz heq h30
        · cases hm : formB p form (n * k) with
          | false => exact specSplit_d2 p n m k b0 off0 cap qs a form w hR hlen hfm hs ha hm
          | true =>
            cases hz : zeroB form with
            | true => exact specSplit_e2 p n m k b0 off0 cap qs a form w hR hlen hfm hs ha hm hz
            | false =>
              cases heq : (form == segm qs[a] 18 9) with
              | true => exact specSplit_g2 p n m k b0 off0 cap qs a form w hR hlen hfm hs ha hm hz heq
              | false =>
                by_cases h30 : qs.length = 30
                · exact specSplit_h2 p n m k b0 off0 cap qs a form w hR hlen hfm hs ha hm hz heq h30
                · exact specSplit_y2 p n m k b0 off0 cap qs a form w hR hlen hfm hs ha hm hz heq h30
theorem implSplitProduct_c (p n m k : Int) (b0 off0 : Nat) (cap : Nat) (qs : List (List Nat)) (i f : Int) (form : List Nat) (w : World) (hR : Rd w (some ⟨b0, off0, none⟩) qs) (hlen : qs.length ≤ 1048576) (hfm : Bytes 9 form) :
    Calls Try.prog 18 #[.agg #[.int .i64 p, .int .i64 n, .int .i64 m, .int .i64 k, .slice (some ⟨b0, off0, none⟩) qs.length cap], .int .i64 i, .int .i64 f, .agg (u8s form)] w (ResS w (spZ p n m k qs i f form p) (spZ p n m k qs i f form n) (spZ p n m k qs i f form m) (spZ p n m k qs i f form k) (spR p n m k qs i f form) (spCode p n m k qs i f form)) := by
  cases hs : schemeB p n m k qs with
  | false => exact implSplit_a p n m k b0 off0 cap qs i f form w hR hlen hfm hs
  | true =>
    cases hi : inI i qs.length with
    | false => exact implSplit_b p n m k b0 off0 cap qs i f form w hR hlen hfm hs hi
    | true =>
      cases hf : inI f 3 with
      | false => exact implSplit_c p n m k b0 off0 cap qs i f form w hR hlen hfm hs hi hf
      | true =>
        obtain ⟨a, rfl, ha⟩ := inI_nat hi
        obtain ⟨b, rfl, hb⟩ := inI_nat hf
        have hb3 : b = 0 ∨ b = 1 ∨ b = 2 := by omega
        rcases hb3 with rfl | rfl | rfl
        · cases hm : formB p form (n * m) with
          | false => exact implSplit_d0 p n m k b0 off0 cap qs a form w hR hlen hfm hs ha hm
          | true =>
            cases hz : zeroB form with
            | true => exact implSplit_e0 p n m k b0 off0 cap qs a form w hR hlen hfm hs ha hm hz
            | false =>
              cases heq : (form == segm qs[a] 0 9) with
              | true => exact implSplit_g0 p n m k b0 off0 cap qs a form w hR hlen hfm hs ha hm hz heq
              | false =>
                by_cases h30 : qs.length = 30
                · exact implSplit_h0 p n m k b0 off0 cap qs a form w hR hlen hfm hs ha hm hz heq h30
                · exact implSplit_y0 p n m k b0 off0 cap qs a form w hR hlen hfm hs ha hm hz heq h30
        · cases hm : formB p form (m * k) with
          | false => exact implSplit_d1 p n m k b0 off0 cap qs a form w hR hlen hfm hs ha hm
          | true =>
            cases hz : zeroB form with
            | true => exact implSplit_e1 p n m k b0 off0 cap qs a form w hR hlen hfm hs ha hm hz
            | false =>
              cases heq : (form == segm qs[a] 9 9) with
              | true => exact implSplit_g1 p n m k b0 off0 cap qs a form w hR hlen hfm hs ha hm hz heq
              | false =>
                by_cases h30 : qs.length = 30
                · exact implSplit_h1 p n m k b0 off0 cap qs a form w hR hlen hfm hs ha hm hz heq h30
                · exact implSplit_y1 p n m k b0 off0 cap qs a form w hR hlen hfm hs ha hm hz heq h30
        · cases hm : formB p form (n * k) with
          | false => exact implSplit_d2 p n m k b0 off0 cap qs a form w hR hlen hfm hs ha hm
          | true =>
            cases hz : zeroB form with
            | true => exact implSplit_e2 p n m k b0 off0 cap qs a form w hR hlen hfm hs ha hm hz
            | false =>
              cases heq : (form == segm qs[a] 18 9) with
              | true => exact implSplit_g2 p n m k b0 off0 cap qs a form w hR hlen hfm hs ha hm hz heq
              | false =>
                by_cases h30 : qs.length = 30
                · exact implSplit_h2 p n m k b0 off0 cap qs a form w hR hlen hfm hs ha hm hz heq h30
                · exact implSplit_y2 p n m k b0 off0 cap qs a form w hR hlen hfm hs ha hm hz heq h30
end Go.Proofs.Ytbgoopmmdbhogaa
