/-
  spec.l02Join. (Made by mkjn2.py.)
-/
import Derived.Test.YtelicajipilhjaaJn1
import Derived.Test.YtelicajipilhjaaAdd1
namespace Go.Proofs.Ytelicajipilhjaa
open Go.RowKit
set_option maxRecDepth 100000
theorem low_to {B lo : Nat} {w w1 w2 : World} (h : Below B w w1) (b : Below lo w1 w2) (hl : B ≤ lo) : Below B w w2 := h.trans ⟨b.os, b.tape, b.output, b.size, fun k hk => b.block k (by omega)⟩
set_option maxHeartbeats 3200000 in
theorem l02Join_0 (p p' : Int) (n m k n' N : Nat) (xA : Option Addr) (xc : Nat) (xq : List (List Nat)) (yA : Option Addr) (yc : Nat) (yq : List (List Nat)) (w : World) (hrx : Rd w xA xq) (hry : Rd w yA yq) (hN : N = n + n') (hN3 : N ≤ 3)
    (hn : 1 ≤ n ∧ n ≤ 3) (hm : 1 ≤ m ∧ m ≤ 3) (hk : 1 ≤ k ∧ k ≤ 3) (hy1 : 1 ≤ n') (hl : xq.length + yq.length ≤ 30) :
    Calls Try.prog 42 #[.agg #[.int .i64 p, .int .i64 n, .int .i64 m, .int .i64 k, .slice xA xq.length xc], .agg #[.int .i64 p', .int .i64 n', .int .i64 m, .int .i64 k, .slice yA yq.length yc], .int .i64 0] w
      fun e w' => ∃ v, e = .returned (.agg #[.int .i64 p, .int .i64 N, .int .i64 m, .int .i64 k, v]) ∧ Own w' w.heap.size v (xq.map (mvQ n m k N m k 0 0 0) ++ yq.map (mvQ n' m k N m k n 0 0)) ∧ Below w.heap.size w w' := by
  have HB1 : Hid (∀ q ∈ ([] ++ xq.map (mvQ n m k N m k 0 0 0)), Bytes 27 q) := Lib.hid (fun q hq => by
    rw [List.nil_append] at hq
    obtain ⟨x, hx, rfl⟩ := List.mem_map.1 hq
    exact mvQ_bytes (hrx.good x hx))
  have HB2 : Hid (∀ q ∈ (([] ++ xq.map (mvQ n m k N m k 0 0 0)) ++ yq.map (mvQ n' m k N m k n 0 0)), Bytes 27 q) := Lib.hid (fun q hq => by
    rcases List.mem_append.1 hq with hq | hq
    · exact HB1.out q hq
    · obtain ⟨x, hx, rfl⟩ := List.mem_map.1 hq
      exact mvQ_bytes (hry.good x hx))
  have hadd : IntKind.i64.wrap ((n : Int) + (n' : Int)) = (N : Int) := by rw [IntWalk.i64_in _ (by omega)]; omega
  have hN1 : n + n' ≤ N := by omega
  clear hN
  go_enter Try.func42, Try.ntmps42
  go_wp2_with (first | (refine wpList_abs3 ?_; intro W hsz hB h0 h1 h2) | (refine wpList_load_all rfl 28 _ rfl w.heap.size rfl _ _ _ h0 Try.underlying28 rfl 5 (by kernel_rfl) rfl ?_))
  refine (l01Empty_c p n m k _ _).mono ?_
  rintro e w3 ⟨v6, rfl, ho, b3⟩
  obtain ⟨l0, hl0⟩ : ∃ l0, l0 = W.heap.size := ⟨_, rfl⟩
  have hls0 : l0 ≤ w3.heap.size := by rw [hl0]; exact b3.size
  have hlw : w.heap.size ≤ l0 := by rw [hl0]; exact hB.size
  rw [← hl0] at ho
  replace h0 := h0.after b3
  replace h1 := h1.after b3
  replace h2 := h2.after b3
  replace hB := below_after hB b3
  clear b3 hsz hl0
  obtain ⟨A6, c6, rfl, _⟩ := ho.rd (by simp)
  have bx0 := below1 w3 (.cells #[.int .i64 p, .int .i64 n, .int .i64 m, .int .i64 k, .slice A6 0 c6] 28 (0, 0))
  have k0 : (w3.alloc (.cells #[.int .i64 p, .int .i64 n, .int .i64 m, .int .i64 k, .slice A6 0 c6] 28 (0, 0))).cell? ⟨w.heap.size, 1, none⟩ = some (.int .i64 n) := (h0.after bx0).at_ 1
  have k1 : (w3.alloc (.cells #[.int .i64 p, .int .i64 n, .int .i64 m, .int .i64 k, .slice A6 0 c6] 28 (0, 0))).cell? ⟨w.heap.size + 1, 1, none⟩ = some (.int .i64 n') := (h1.after bx0).at_ 1
  go_wp2_with fail
  have bx := below1 w3 (.cells #[.int .i64 p, .int .i64 N, .int .i64 m, .int .i64 k, .slice A6 0 c6] 28 (0, 0))
  have hx : At (w3.alloc (.cells #[.int .i64 p, .int .i64 N, .int .i64 m, .int .i64 k, .slice A6 0 c6] 28 (0, 0))) w3.heap.size (.cells #[.int .i64 p, .int .i64 N, .int .i64 m, .int .i64 k, .slice A6 0 c6] 28 (0, 0)) := al1_0 _ _
  have l20 := h2.lt
  have l10 := h1.lt
  have l00 := h0.lt
  have hls : l0 ≤ (w3.alloc (.cells #[.int .i64 p, .int .i64 N, .int .i64 m, .int .i64 k, .slice A6 0 c6] 28 (0, 0))).heap.size := Nat.le_trans hls0 bx.size
  replace h0 := h0.after bx
  replace h1 := h1.after bx
  replace h2 := h2.after bx
  replace hB := below_after hB bx
  replace ho := ho.below bx
  clear bx bx0 k0 k1
  obtain ⟨W4, hW4⟩ : ∃ W4, w3.alloc (.cells #[.int .i64 p, .int .i64 N, .int .i64 m, .int .i64 k, .slice A6 0 c6] 28 (0, 0)) = W4 := ⟨_, rfl⟩
  rw [hW4] at h0 h1 h2 hB ho hx hls ⊢
  clear hW4
  generalize w3.heap.size = bo at *
  refine wp_region_held (S := fun w' => At w' w.heap.size (.cells #[.int .i64 p, .int .i64 n, .int .i64 m, .int .i64 k, .slice xA xq.length xc] 28 (0, 0)) ∧ At w' (w.heap.size + 1) (.cells #[.int .i64 p', .int .i64 n', .int .i64 m, .int .i64 k, .slice yA yq.length yc] 28 (0, 0)) ∧ At w' bo (.cells #[.int .i64 p, .int .i64 N, .int .i64 m, .int .i64 k, .slice A6 0 c6] 28 (0, 0))) (by kernel_rfl) ?_
  change wpAnyH _ _ _ _ _ _ _ _ (World.drew _)
  generalize hwdc0 : World.drew _ = wdc0
  replace hB : Below w.heap.size w wdc0 := by rw [← hwdc0]; exact hB.drew
  replace h0 : At wdc0 w.heap.size (.cells #[.int .i64 p, .int .i64 n, .int .i64 m, .int .i64 k, .slice xA xq.length xc] 28 (0, 0)) := by rw [← hwdc0]; exact h0
  replace h1 : At wdc0 (w.heap.size + 1) (.cells #[.int .i64 p', .int .i64 n', .int .i64 m, .int .i64 k, .slice yA yq.length yc] 28 (0, 0)) := by rw [← hwdc0]; exact h1
  replace h2 : At wdc0 (w.heap.size + 1 + 1) (.cells #[.int .i64 0, .int .i64 0, .int .i64 0, .int .i64 0, .slice none 0 0] 28 (0, 0)) := by rw [← hwdc0]; exact h2
  replace hx : At wdc0 bo (.cells #[.int .i64 p, .int .i64 N, .int .i64 m, .int .i64 k, .slice A6 0 c6] 28 (0, 0)) := by rw [← hwdc0]; exact hx
  replace ho : Own wdc0 l0 (.slice A6 0 c6) [] := by rw [← hwdc0]; exact ho.drew
  replace hls : l0 ≤ wdc0.heap.size := by rw [← hwdc0]; exact hls
  clear hwdc0
  refine held_yield 0 (some 19) (.agg #[.int .i64 p', .int .i64 n', .int .i64 m, .int .i64 k, .slice yA yq.length yc]) rfl (by kernel_rfl) (by kernel_rfl) (by kernel_rfl) (fun _ _ _ h => h) rfl rfl ⟨h0, h1, hx⟩ (fun w' h' => exec_load_all 28 _ rfl (w.heap.size + 1) rfl _ _ _ h'.2.1 Try.underlying28 rfl 5 (by kernel_rfl) rfl) ?_
  go_frame
  refine held_yield 1 (some 20) (.agg #[.int .i64 p, .int .i64 n, .int .i64 m, .int .i64 k, .slice xA xq.length xc]) rfl (by kernel_rfl) (by kernel_rfl) (by kernel_rfl) (fun _ _ _ h => h) rfl rfl ⟨h0, h1, hx⟩ (fun w' h' => exec_load_all 28 _ rfl (w.heap.size) rfl _ _ _ h'.1 Try.underlying28 rfl 5 (by kernel_rfl) rfl) ?_
  go_frame
  refine held_yield 2 (some 21) (.agg #[.int .i64 p, .int .i64 N, .int .i64 m, .int .i64 k, .slice A6 0 c6]) rfl (by kernel_rfl) (by kernel_rfl) (by kernel_rfl) (fun _ _ _ h => h) rfl rfl ⟨h0, h1, hx⟩ (fun w' h' => exec_load_all 28 _ rfl (bo) rfl _ _ _ h'.2.2 Try.underlying28 rfl 5 (by kernel_rfl) rfl) ?_
  go_frame
  refine held_yield 4 (some 23) (.pointer (some ⟨w.heap.size, 1, none⟩)) rfl (by kernel_rfl) (by kernel_rfl) (by kernel_rfl) (fun _ _ _ h => h) rfl rfl ⟨h0, h1, hx⟩ (fun w' h' => exec_fieldAddr 28 _ 1 rfl _ (by kernel_rfl)) ?_
  go_frame
  refine held_yield 5 (some 24) (.int .i64 n) rfl (by kernel_rfl) (by kernel_rfl) (by kernel_rfl) (fun _ _ _ h => h) rfl rfl ⟨h0, h1, hx⟩ (fun w' h' => exec_load_one 2 _ rfl w.heap.size 1 rfl _ _ Try.underlying2 rfl (h'.1.at_ 1)) ?_
  go_frame
  refine held_oper 3 (by kernel_rfl) rfl rfl (fun K' hK' => ?_)
  refine wp_call5 (some 22) rfl 61 _ _ _ _ _ _ rfl (fun args w => by kernel_rfl) _ _ _ _ _ rfl rfl rfl rfl rfl _ (l02Put_c p p n m k N m k 0 0 0 xA xc xq A6 c6 [] l0 _ ho hls (fun w' hb => hrx.keep (low_to hB hb hlw)) (by simp) (by omega) (by omega) (by omega) (by simp; omega)) (fun e wnc01 h => ?_)
  obtain ⟨vc02, rfl, ho2, hlow, hkt⟩ := h
  replace hls := Nat.le_trans hls hlow.size
  replace hB := low_to hB hlow hlw
  replace h0 := h0.kept hkt (by decide)
  replace h1 := h1.kept hkt (by decide)
  replace h2 := h2.kept hkt (by decide)
  replace hx := hx.kept hkt (by decide)
  obtain ⟨A7, c7, rfl, _⟩ := ho2.rd HB1.out
  clear hlow hkt
  have ho := ho2
  clear ho2
  refine ⟨_, rfl, hK' _ _ ⟨h0, h1, hx⟩ ?_⟩
  clear hK' K'
  go_frame
  refine held_oper 6 (by kernel_rfl) rfl rfl (fun K' hK' => ?_)
  refine wp_call5 (some 25) rfl 61 _ _ _ _ _ _ rfl (fun args w => by kernel_rfl) _ _ _ _ _ rfl rfl rfl rfl rfl _ (l02Put_c p' p n' m k N m k n 0 0 yA yc yq A7 c7 ([] ++ xq.map (mvQ n m k N m k 0 0 0)) l0 _ ho hls (fun w' hb => hry.keep (low_to hB hb hlw)) HB1.out (by omega) (by omega) (by omega) (by simp; omega)) (fun e wnc03 h => ?_)
  obtain ⟨vc04, rfl, ho2, hlow, hkt⟩ := h
  replace hls := Nat.le_trans hls hlow.size
  replace hB := low_to hB hlow hlw
  replace h0 := h0.kept hkt (by decide)
  replace h1 := h1.kept hkt (by decide)
  replace h2 := h2.kept hkt (by decide)
  replace hx := hx.kept hkt (by decide)
  obtain ⟨A8, c8, rfl, _⟩ := ho2.rd HB2.out
  clear hlow hkt
  have ho := ho2
  clear ho2
  refine ⟨_, rfl, hK' _ _ ⟨h0, h1, hx⟩ ?_⟩
  clear hK' K'
  go_frame
  refine held_oper 7 (by kernel_rfl) rfl rfl (fun K' hK' => ?_)
  have n2 := ho.off h2 (by decide)
  refine wp_store_all 28 _ _ rfl rfl (w.heap.size + 1 + 1) rfl _ rfl _ _ h2 5 (by kernel_rfl) rfl rfl (one5 _ _ _ _ _ _ _) (fun wsc05 pc06 => ?_)
  replace hB := pc06.below hB (by omega)
  replace h0 := pc06.other h0 (by omega)
  replace h1 := pc06.other h1 (by omega)
  replace hx := pc06.other hx (by omega)
  replace ho := ho.put pc06 n2
  replace h2 := pc06.at_
  clear pc06
  refine hK' _ _ ⟨h0, h1, hx⟩ ?_
  clear hK' K'
  refine wpAnyH_done (by kernel_rfl) ?_ _
  go_wp2_with fail
  refine bodyPost_ret (results_at rfl _ _ (w.heap.size + 1 + 1) _ _ _ rfl h2 Try.underlying28 rfl 5 (by kernel_rfl) rfl) rfl ?_
  exact ⟨_, rfl, by simpa using ho.mono hlw, hB⟩
set_option maxHeartbeats 3200000 in
theorem l02Join_1 (p p' : Int) (n m k m' N : Nat) (xA : Option Addr) (xc : Nat) (xq : List (List Nat)) (yA : Option Addr) (yc : Nat) (yq : List (List Nat)) (w : World) (hrx : Rd w xA xq) (hry : Rd w yA yq) (hN : N = m + m') (hN3 : N ≤ 3)
    (hn : 1 ≤ n ∧ n ≤ 3) (hm : 1 ≤ m ∧ m ≤ 3) (hk : 1 ≤ k ∧ k ≤ 3) (hy1 : 1 ≤ m') (hl : xq.length + yq.length ≤ 30) :
    Calls Try.prog 42 #[.agg #[.int .i64 p, .int .i64 n, .int .i64 m, .int .i64 k, .slice xA xq.length xc], .agg #[.int .i64 p', .int .i64 n, .int .i64 m', .int .i64 k, .slice yA yq.length yc], .int .i64 1] w
      fun e w' => ∃ v, e = .returned (.agg #[.int .i64 p, .int .i64 n, .int .i64 N, .int .i64 k, v]) ∧ Own w' w.heap.size v (xq.map (mvQ n m k n N k 0 0 0) ++ yq.map (mvQ n m' k n N k 0 m 0)) ∧ Below w.heap.size w w' := by
  have HB1 : Hid (∀ q ∈ ([] ++ xq.map (mvQ n m k n N k 0 0 0)), Bytes 27 q) := Lib.hid (fun q hq => by
    rw [List.nil_append] at hq
    obtain ⟨x, hx, rfl⟩ := List.mem_map.1 hq
    exact mvQ_bytes (hrx.good x hx))
  have HB2 : Hid (∀ q ∈ (([] ++ xq.map (mvQ n m k n N k 0 0 0)) ++ yq.map (mvQ n m' k n N k 0 m 0)), Bytes 27 q) := Lib.hid (fun q hq => by
    rcases List.mem_append.1 hq with hq | hq
    · exact HB1.out q hq
    · obtain ⟨x, hx, rfl⟩ := List.mem_map.1 hq
      exact mvQ_bytes (hry.good x hx))
  have hadd : IntKind.i64.wrap ((m : Int) + (m' : Int)) = (N : Int) := by rw [IntWalk.i64_in _ (by omega)]; omega
  have hN1 : m + m' ≤ N := by omega
  clear hN
  go_enter Try.func42, Try.ntmps42
  go_wp2_with (first | (refine wpList_abs3 ?_; intro W hsz hB h0 h1 h2) | (refine wpList_load_all rfl 28 _ rfl w.heap.size rfl _ _ _ h0 Try.underlying28 rfl 5 (by kernel_rfl) rfl ?_))
  refine (l01Empty_c p n m k _ _).mono ?_
  rintro e w3 ⟨v6, rfl, ho, b3⟩
  obtain ⟨l0, hl0⟩ : ∃ l0, l0 = W.heap.size := ⟨_, rfl⟩
  have hls0 : l0 ≤ w3.heap.size := by rw [hl0]; exact b3.size
  have hlw : w.heap.size ≤ l0 := by rw [hl0]; exact hB.size
  rw [← hl0] at ho
  replace h0 := h0.after b3
  replace h1 := h1.after b3
  replace h2 := h2.after b3
  replace hB := below_after hB b3
  clear b3 hsz hl0
  obtain ⟨A6, c6, rfl, _⟩ := ho.rd (by simp)
  have bx0 := below1 w3 (.cells #[.int .i64 p, .int .i64 n, .int .i64 m, .int .i64 k, .slice A6 0 c6] 28 (0, 0))
  have k0 : (w3.alloc (.cells #[.int .i64 p, .int .i64 n, .int .i64 m, .int .i64 k, .slice A6 0 c6] 28 (0, 0))).cell? ⟨w.heap.size, 2, none⟩ = some (.int .i64 m) := (h0.after bx0).at_ 2
  have k1 : (w3.alloc (.cells #[.int .i64 p, .int .i64 n, .int .i64 m, .int .i64 k, .slice A6 0 c6] 28 (0, 0))).cell? ⟨w.heap.size + 1, 2, none⟩ = some (.int .i64 m') := (h1.after bx0).at_ 2
  go_wp2_with fail
  have bx := below1 w3 (.cells #[.int .i64 p, .int .i64 n, .int .i64 N, .int .i64 k, .slice A6 0 c6] 28 (0, 0))
  have hx : At (w3.alloc (.cells #[.int .i64 p, .int .i64 n, .int .i64 N, .int .i64 k, .slice A6 0 c6] 28 (0, 0))) w3.heap.size (.cells #[.int .i64 p, .int .i64 n, .int .i64 N, .int .i64 k, .slice A6 0 c6] 28 (0, 0)) := al1_0 _ _
  have l20 := h2.lt
  have l10 := h1.lt
  have l00 := h0.lt
  have hls : l0 ≤ (w3.alloc (.cells #[.int .i64 p, .int .i64 n, .int .i64 N, .int .i64 k, .slice A6 0 c6] 28 (0, 0))).heap.size := Nat.le_trans hls0 bx.size
  replace h0 := h0.after bx
  replace h1 := h1.after bx
  replace h2 := h2.after bx
  replace hB := below_after hB bx
  replace ho := ho.below bx
  clear bx bx0 k0 k1
  obtain ⟨W4, hW4⟩ : ∃ W4, w3.alloc (.cells #[.int .i64 p, .int .i64 n, .int .i64 N, .int .i64 k, .slice A6 0 c6] 28 (0, 0)) = W4 := ⟨_, rfl⟩
  rw [hW4] at h0 h1 h2 hB ho hx hls ⊢
  clear hW4
  generalize w3.heap.size = bo at *
  refine wp_region_held (S := fun w' => At w' w.heap.size (.cells #[.int .i64 p, .int .i64 n, .int .i64 m, .int .i64 k, .slice xA xq.length xc] 28 (0, 0)) ∧ At w' (w.heap.size + 1) (.cells #[.int .i64 p', .int .i64 n, .int .i64 m', .int .i64 k, .slice yA yq.length yc] 28 (0, 0)) ∧ At w' bo (.cells #[.int .i64 p, .int .i64 n, .int .i64 N, .int .i64 k, .slice A6 0 c6] 28 (0, 0))) (by kernel_rfl) ?_
  change wpAnyH _ _ _ _ _ _ _ _ (World.drew _)
  generalize hwdc1 : World.drew _ = wdc1
  replace hB : Below w.heap.size w wdc1 := by rw [← hwdc1]; exact hB.drew
  replace h0 : At wdc1 w.heap.size (.cells #[.int .i64 p, .int .i64 n, .int .i64 m, .int .i64 k, .slice xA xq.length xc] 28 (0, 0)) := by rw [← hwdc1]; exact h0
  replace h1 : At wdc1 (w.heap.size + 1) (.cells #[.int .i64 p', .int .i64 n, .int .i64 m', .int .i64 k, .slice yA yq.length yc] 28 (0, 0)) := by rw [← hwdc1]; exact h1
  replace h2 : At wdc1 (w.heap.size + 1 + 1) (.cells #[.int .i64 0, .int .i64 0, .int .i64 0, .int .i64 0, .slice none 0 0] 28 (0, 0)) := by rw [← hwdc1]; exact h2
  replace hx : At wdc1 bo (.cells #[.int .i64 p, .int .i64 n, .int .i64 N, .int .i64 k, .slice A6 0 c6] 28 (0, 0)) := by rw [← hwdc1]; exact hx
  replace ho : Own wdc1 l0 (.slice A6 0 c6) [] := by rw [← hwdc1]; exact ho.drew
  replace hls : l0 ≤ wdc1.heap.size := by rw [← hwdc1]; exact hls
  clear hwdc1
  refine held_yield 0 (some 34) (.agg #[.int .i64 p', .int .i64 n, .int .i64 m', .int .i64 k, .slice yA yq.length yc]) rfl (by kernel_rfl) (by kernel_rfl) (by kernel_rfl) (fun _ _ _ h => h) rfl rfl ⟨h0, h1, hx⟩ (fun w' h' => exec_load_all 28 _ rfl (w.heap.size + 1) rfl _ _ _ h'.2.1 Try.underlying28 rfl 5 (by kernel_rfl) rfl) ?_
  go_frame
  refine held_yield 1 (some 35) (.agg #[.int .i64 p, .int .i64 n, .int .i64 m, .int .i64 k, .slice xA xq.length xc]) rfl (by kernel_rfl) (by kernel_rfl) (by kernel_rfl) (fun _ _ _ h => h) rfl rfl ⟨h0, h1, hx⟩ (fun w' h' => exec_load_all 28 _ rfl (w.heap.size) rfl _ _ _ h'.1 Try.underlying28 rfl 5 (by kernel_rfl) rfl) ?_
  go_frame
  refine held_yield 2 (some 36) (.agg #[.int .i64 p, .int .i64 n, .int .i64 N, .int .i64 k, .slice A6 0 c6]) rfl (by kernel_rfl) (by kernel_rfl) (by kernel_rfl) (fun _ _ _ h => h) rfl rfl ⟨h0, h1, hx⟩ (fun w' h' => exec_load_all 28 _ rfl (bo) rfl _ _ _ h'.2.2 Try.underlying28 rfl 5 (by kernel_rfl) rfl) ?_
  go_frame
  refine held_yield 4 (some 38) (.pointer (some ⟨w.heap.size, 2, none⟩)) rfl (by kernel_rfl) (by kernel_rfl) (by kernel_rfl) (fun _ _ _ h => h) rfl rfl ⟨h0, h1, hx⟩ (fun w' h' => exec_fieldAddr 28 _ 2 rfl _ (by kernel_rfl)) ?_
  go_frame
  refine held_yield 5 (some 39) (.int .i64 m) rfl (by kernel_rfl) (by kernel_rfl) (by kernel_rfl) (fun _ _ _ h => h) rfl rfl ⟨h0, h1, hx⟩ (fun w' h' => exec_load_one 2 _ rfl w.heap.size 2 rfl _ _ Try.underlying2 rfl (h'.1.at_ 2)) ?_
  go_frame
  refine held_oper 3 (by kernel_rfl) rfl rfl (fun K' hK' => ?_)
  refine wp_call5 (some 37) rfl 61 _ _ _ _ _ _ rfl (fun args w => by kernel_rfl) _ _ _ _ _ rfl rfl rfl rfl rfl _ (l02Put_c p p n m k n N k 0 0 0 xA xc xq A6 c6 [] l0 _ ho hls (fun w' hb => hrx.keep (low_to hB hb hlw)) (by simp) (by omega) (by omega) (by omega) (by simp; omega)) (fun e wnc11 h => ?_)
  obtain ⟨vc12, rfl, ho2, hlow, hkt⟩ := h
  replace hls := Nat.le_trans hls hlow.size
  replace hB := low_to hB hlow hlw
  replace h0 := h0.kept hkt (by decide)
  replace h1 := h1.kept hkt (by decide)
  replace h2 := h2.kept hkt (by decide)
  replace hx := hx.kept hkt (by decide)
  obtain ⟨A7, c7, rfl, _⟩ := ho2.rd HB1.out
  clear hlow hkt
  have ho := ho2
  clear ho2
  refine ⟨_, rfl, hK' _ _ ⟨h0, h1, hx⟩ ?_⟩
  clear hK' K'
  go_frame
  refine held_oper 6 (by kernel_rfl) rfl rfl (fun K' hK' => ?_)
  refine wp_call5 (some 40) rfl 61 _ _ _ _ _ _ rfl (fun args w => by kernel_rfl) _ _ _ _ _ rfl rfl rfl rfl rfl _ (l02Put_c p' p n m' k n N k 0 m 0 yA yc yq A7 c7 ([] ++ xq.map (mvQ n m k n N k 0 0 0)) l0 _ ho hls (fun w' hb => hry.keep (low_to hB hb hlw)) HB1.out (by omega) (by omega) (by omega) (by simp; omega)) (fun e wnc13 h => ?_)
  obtain ⟨vc14, rfl, ho2, hlow, hkt⟩ := h
  replace hls := Nat.le_trans hls hlow.size
  replace hB := low_to hB hlow hlw
  replace h0 := h0.kept hkt (by decide)
  replace h1 := h1.kept hkt (by decide)
  replace h2 := h2.kept hkt (by decide)
  replace hx := hx.kept hkt (by decide)
  obtain ⟨A8, c8, rfl, _⟩ := ho2.rd HB2.out
  clear hlow hkt
  have ho := ho2
  clear ho2
  refine ⟨_, rfl, hK' _ _ ⟨h0, h1, hx⟩ ?_⟩
  clear hK' K'
  go_frame
  refine held_oper 7 (by kernel_rfl) rfl rfl (fun K' hK' => ?_)
  have n2 := ho.off h2 (by decide)
  refine wp_store_all 28 _ _ rfl rfl (w.heap.size + 1 + 1) rfl _ rfl _ _ h2 5 (by kernel_rfl) rfl rfl (one5 _ _ _ _ _ _ _) (fun wsc15 pc16 => ?_)
  replace hB := pc16.below hB (by omega)
  replace h0 := pc16.other h0 (by omega)
  replace h1 := pc16.other h1 (by omega)
  replace hx := pc16.other hx (by omega)
  replace ho := ho.put pc16 n2
  replace h2 := pc16.at_
  clear pc16
  refine hK' _ _ ⟨h0, h1, hx⟩ ?_
  clear hK' K'
  refine wpAnyH_done (by kernel_rfl) ?_ _
  go_wp2_with fail
  refine bodyPost_ret (results_at rfl _ _ (w.heap.size + 1 + 1) _ _ _ rfl h2 Try.underlying28 rfl 5 (by kernel_rfl) rfl) rfl ?_
  exact ⟨_, rfl, by simpa using ho.mono hlw, hB⟩
set_option maxHeartbeats 3200000 in
theorem l02Join_2 (p p' : Int) (n m k k' N : Nat) (xA : Option Addr) (xc : Nat) (xq : List (List Nat)) (yA : Option Addr) (yc : Nat) (yq : List (List Nat)) (w : World) (hrx : Rd w xA xq) (hry : Rd w yA yq) (hN : N = k + k') (hN3 : N ≤ 3)
    (hn : 1 ≤ n ∧ n ≤ 3) (hm : 1 ≤ m ∧ m ≤ 3) (hk : 1 ≤ k ∧ k ≤ 3) (hy1 : 1 ≤ k') (hl : xq.length + yq.length ≤ 30) :
    Calls Try.prog 42 #[.agg #[.int .i64 p, .int .i64 n, .int .i64 m, .int .i64 k, .slice xA xq.length xc], .agg #[.int .i64 p', .int .i64 n, .int .i64 m, .int .i64 k', .slice yA yq.length yc], .int .i64 2] w
      fun e w' => ∃ v, e = .returned (.agg #[.int .i64 p, .int .i64 n, .int .i64 m, .int .i64 N, v]) ∧ Own w' w.heap.size v (xq.map (mvQ n m k n m N 0 0 0) ++ yq.map (mvQ n m k' n m N 0 0 k)) ∧ Below w.heap.size w w' := by
  have HB1 : Hid (∀ q ∈ ([] ++ xq.map (mvQ n m k n m N 0 0 0)), Bytes 27 q) := Lib.hid (fun q hq => by
    rw [List.nil_append] at hq
    obtain ⟨x, hx, rfl⟩ := List.mem_map.1 hq
    exact mvQ_bytes (hrx.good x hx))
  have HB2 : Hid (∀ q ∈ (([] ++ xq.map (mvQ n m k n m N 0 0 0)) ++ yq.map (mvQ n m k' n m N 0 0 k)), Bytes 27 q) := Lib.hid (fun q hq => by
    rcases List.mem_append.1 hq with hq | hq
    · exact HB1.out q hq
    · obtain ⟨x, hx, rfl⟩ := List.mem_map.1 hq
      exact mvQ_bytes (hry.good x hx))
  have hadd : IntKind.i64.wrap ((k : Int) + (k' : Int)) = (N : Int) := by rw [IntWalk.i64_in _ (by omega)]; omega
  have hN1 : k + k' ≤ N := by omega
  clear hN
  go_enter Try.func42, Try.ntmps42
  go_wp2_with (first | (refine wpList_abs3 ?_; intro W hsz hB h0 h1 h2) | (refine wpList_load_all rfl 28 _ rfl w.heap.size rfl _ _ _ h0 Try.underlying28 rfl 5 (by kernel_rfl) rfl ?_))
  refine (l01Empty_c p n m k _ _).mono ?_
  rintro e w3 ⟨v6, rfl, ho, b3⟩
  obtain ⟨l0, hl0⟩ : ∃ l0, l0 = W.heap.size := ⟨_, rfl⟩
  have hls0 : l0 ≤ w3.heap.size := by rw [hl0]; exact b3.size
  have hlw : w.heap.size ≤ l0 := by rw [hl0]; exact hB.size
  rw [← hl0] at ho
  replace h0 := h0.after b3
  replace h1 := h1.after b3
  replace h2 := h2.after b3
  replace hB := below_after hB b3
  clear b3 hsz hl0
  obtain ⟨A6, c6, rfl, _⟩ := ho.rd (by simp)
  have bx0 := below1 w3 (.cells #[.int .i64 p, .int .i64 n, .int .i64 m, .int .i64 k, .slice A6 0 c6] 28 (0, 0))
  have k0 : (w3.alloc (.cells #[.int .i64 p, .int .i64 n, .int .i64 m, .int .i64 k, .slice A6 0 c6] 28 (0, 0))).cell? ⟨w.heap.size, 3, none⟩ = some (.int .i64 k) := (h0.after bx0).at_ 3
  have k1 : (w3.alloc (.cells #[.int .i64 p, .int .i64 n, .int .i64 m, .int .i64 k, .slice A6 0 c6] 28 (0, 0))).cell? ⟨w.heap.size + 1, 3, none⟩ = some (.int .i64 k') := (h1.after bx0).at_ 3
  go_wp2_with fail
  have bx := below1 w3 (.cells #[.int .i64 p, .int .i64 n, .int .i64 m, .int .i64 N, .slice A6 0 c6] 28 (0, 0))
  have hx : At (w3.alloc (.cells #[.int .i64 p, .int .i64 n, .int .i64 m, .int .i64 N, .slice A6 0 c6] 28 (0, 0))) w3.heap.size (.cells #[.int .i64 p, .int .i64 n, .int .i64 m, .int .i64 N, .slice A6 0 c6] 28 (0, 0)) := al1_0 _ _
  have l20 := h2.lt
  have l10 := h1.lt
  have l00 := h0.lt
  have hls : l0 ≤ (w3.alloc (.cells #[.int .i64 p, .int .i64 n, .int .i64 m, .int .i64 N, .slice A6 0 c6] 28 (0, 0))).heap.size := Nat.le_trans hls0 bx.size
  replace h0 := h0.after bx
  replace h1 := h1.after bx
  replace h2 := h2.after bx
  replace hB := below_after hB bx
  replace ho := ho.below bx
  clear bx bx0 k0 k1
  obtain ⟨W4, hW4⟩ : ∃ W4, w3.alloc (.cells #[.int .i64 p, .int .i64 n, .int .i64 m, .int .i64 N, .slice A6 0 c6] 28 (0, 0)) = W4 := ⟨_, rfl⟩
  rw [hW4] at h0 h1 h2 hB ho hx hls ⊢
  clear hW4
  generalize w3.heap.size = bo at *
  refine wp_region_held (S := fun w' => At w' w.heap.size (.cells #[.int .i64 p, .int .i64 n, .int .i64 m, .int .i64 k, .slice xA xq.length xc] 28 (0, 0)) ∧ At w' (w.heap.size + 1) (.cells #[.int .i64 p', .int .i64 n, .int .i64 m, .int .i64 k', .slice yA yq.length yc] 28 (0, 0)) ∧ At w' bo (.cells #[.int .i64 p, .int .i64 n, .int .i64 m, .int .i64 N, .slice A6 0 c6] 28 (0, 0))) (by kernel_rfl) ?_
  change wpAnyH _ _ _ _ _ _ _ _ (World.drew _)
  generalize hwdc2 : World.drew _ = wdc2
  replace hB : Below w.heap.size w wdc2 := by rw [← hwdc2]; exact hB.drew
  replace h0 : At wdc2 w.heap.size (.cells #[.int .i64 p, .int .i64 n, .int .i64 m, .int .i64 k, .slice xA xq.length xc] 28 (0, 0)) := by rw [← hwdc2]; exact h0
  replace h1 : At wdc2 (w.heap.size + 1) (.cells #[.int .i64 p', .int .i64 n, .int .i64 m, .int .i64 k', .slice yA yq.length yc] 28 (0, 0)) := by rw [← hwdc2]; exact h1
  replace h2 : At wdc2 (w.heap.size + 1 + 1) (.cells #[.int .i64 0, .int .i64 0, .int .i64 0, .int .i64 0, .slice none 0 0] 28 (0, 0)) := by rw [← hwdc2]; exact h2
  replace hx : At wdc2 bo (.cells #[.int .i64 p, .int .i64 n, .int .i64 m, .int .i64 N, .slice A6 0 c6] 28 (0, 0)) := by rw [← hwdc2]; exact hx
  replace ho : Own wdc2 l0 (.slice A6 0 c6) [] := by rw [← hwdc2]; exact ho.drew
  replace hls : l0 ≤ wdc2.heap.size := by rw [← hwdc2]; exact hls
  clear hwdc2
  refine held_yield 0 (some 47) (.agg #[.int .i64 p', .int .i64 n, .int .i64 m, .int .i64 k', .slice yA yq.length yc]) rfl (by kernel_rfl) (by kernel_rfl) (by kernel_rfl) (fun _ _ _ h => h) rfl rfl ⟨h0, h1, hx⟩ (fun w' h' => exec_load_all 28 _ rfl (w.heap.size + 1) rfl _ _ _ h'.2.1 Try.underlying28 rfl 5 (by kernel_rfl) rfl) ?_
  go_frame
  refine held_yield 1 (some 48) (.agg #[.int .i64 p, .int .i64 n, .int .i64 m, .int .i64 k, .slice xA xq.length xc]) rfl (by kernel_rfl) (by kernel_rfl) (by kernel_rfl) (fun _ _ _ h => h) rfl rfl ⟨h0, h1, hx⟩ (fun w' h' => exec_load_all 28 _ rfl (w.heap.size) rfl _ _ _ h'.1 Try.underlying28 rfl 5 (by kernel_rfl) rfl) ?_
  go_frame
  refine held_yield 2 (some 49) (.agg #[.int .i64 p, .int .i64 n, .int .i64 m, .int .i64 N, .slice A6 0 c6]) rfl (by kernel_rfl) (by kernel_rfl) (by kernel_rfl) (fun _ _ _ h => h) rfl rfl ⟨h0, h1, hx⟩ (fun w' h' => exec_load_all 28 _ rfl (bo) rfl _ _ _ h'.2.2 Try.underlying28 rfl 5 (by kernel_rfl) rfl) ?_
  go_frame
  refine held_yield 4 (some 51) (.pointer (some ⟨w.heap.size, 3, none⟩)) rfl (by kernel_rfl) (by kernel_rfl) (by kernel_rfl) (fun _ _ _ h => h) rfl rfl ⟨h0, h1, hx⟩ (fun w' h' => exec_fieldAddr 28 _ 3 rfl _ (by kernel_rfl)) ?_
  go_frame
  refine held_yield 5 (some 52) (.int .i64 k) rfl (by kernel_rfl) (by kernel_rfl) (by kernel_rfl) (fun _ _ _ h => h) rfl rfl ⟨h0, h1, hx⟩ (fun w' h' => exec_load_one 2 _ rfl w.heap.size 3 rfl _ _ Try.underlying2 rfl (h'.1.at_ 3)) ?_
  go_frame
  refine held_oper 3 (by kernel_rfl) rfl rfl (fun K' hK' => ?_)
  refine wp_call5 (some 50) rfl 61 _ _ _ _ _ _ rfl (fun args w => by kernel_rfl) _ _ _ _ _ rfl rfl rfl rfl rfl _ (l02Put_c p p n m k n m N 0 0 0 xA xc xq A6 c6 [] l0 _ ho hls (fun w' hb => hrx.keep (low_to hB hb hlw)) (by simp) (by omega) (by omega) (by omega) (by simp; omega)) (fun e wnc21 h => ?_)
  obtain ⟨vc22, rfl, ho2, hlow, hkt⟩ := h
  replace hls := Nat.le_trans hls hlow.size
  replace hB := low_to hB hlow hlw
  replace h0 := h0.kept hkt (by decide)
  replace h1 := h1.kept hkt (by decide)
  replace h2 := h2.kept hkt (by decide)
  replace hx := hx.kept hkt (by decide)
  obtain ⟨A7, c7, rfl, _⟩ := ho2.rd HB1.out
  clear hlow hkt
  have ho := ho2
  clear ho2
  refine ⟨_, rfl, hK' _ _ ⟨h0, h1, hx⟩ ?_⟩
  clear hK' K'
  go_frame
  refine held_oper 6 (by kernel_rfl) rfl rfl (fun K' hK' => ?_)
  refine wp_call5 (some 53) rfl 61 _ _ _ _ _ _ rfl (fun args w => by kernel_rfl) _ _ _ _ _ rfl rfl rfl rfl rfl _ (l02Put_c p' p n m k' n m N 0 0 k yA yc yq A7 c7 ([] ++ xq.map (mvQ n m k n m N 0 0 0)) l0 _ ho hls (fun w' hb => hry.keep (low_to hB hb hlw)) HB1.out (by omega) (by omega) (by omega) (by simp; omega)) (fun e wnc23 h => ?_)
  obtain ⟨vc24, rfl, ho2, hlow, hkt⟩ := h
  replace hls := Nat.le_trans hls hlow.size
  replace hB := low_to hB hlow hlw
  replace h0 := h0.kept hkt (by decide)
  replace h1 := h1.kept hkt (by decide)
  replace h2 := h2.kept hkt (by decide)
  replace hx := hx.kept hkt (by decide)
  obtain ⟨A8, c8, rfl, _⟩ := ho2.rd HB2.out
  clear hlow hkt
  have ho := ho2
  clear ho2
  refine ⟨_, rfl, hK' _ _ ⟨h0, h1, hx⟩ ?_⟩
  clear hK' K'
  go_frame
  refine held_oper 7 (by kernel_rfl) rfl rfl (fun K' hK' => ?_)
  have n2 := ho.off h2 (by decide)
  refine wp_store_all 28 _ _ rfl rfl (w.heap.size + 1 + 1) rfl _ rfl _ _ h2 5 (by kernel_rfl) rfl rfl (one5 _ _ _ _ _ _ _) (fun wsc25 pc26 => ?_)
  replace hB := pc26.below hB (by omega)
  replace h0 := pc26.other h0 (by omega)
  replace h1 := pc26.other h1 (by omega)
  replace hx := pc26.other hx (by omega)
  replace ho := ho.put pc26 n2
  replace h2 := pc26.at_
  clear pc26
  refine hK' _ _ ⟨h0, h1, hx⟩ ?_
  clear hK' K'
  refine wpAnyH_done (by kernel_rfl) ?_ _
  go_wp2_with fail
  refine bodyPost_ret (results_at rfl _ _ (w.heap.size + 1 + 1) _ _ _ rfl h2 Try.underlying28 rfl 5 (by kernel_rfl) rfl) rfl ?_
  exact ⟨_, rfl, by simpa using ho.mono hlw, hB⟩
end Go.Proofs.Ytelicajipilhjaa
