/-
  spec.AddTensors. (Made by mktend.py.)
-/
import Derived.Test.YtdgaphcpoincpaaTenC
namespace Go.Proofs.Ytdgaphcpoincpaa
open Go.RowKit
set_option maxRecDepth 100000
theorem RdI.cell_at {w : World} {b off : Nat} {xs : List Int} (h : RdI w (some ⟨b, off, none⟩) xs) {i : Nat} (hi : i < xs.length) : w.cell? ⟨b, off + i * 1, none⟩ = some (.int .i64 (nthI xs (i : Int))) := by
  obtain ⟨b', off', e, hc⟩ := h.at_ hi
  simp only [Option.some.injEq, Addr.mk.injEq] at e
  obtain ⟨rfl, rfl, _⟩ := e
  rw [Nat.mul_one, hc]
  simp [nthI, hi]
set_option maxHeartbeats 3200000 in
theorem specAdd_a (p a b c : Int) (A : Option Addr) (cap : Nat) (xs : List Int) (q d e f : Int) (B : Option Addr) (cap2 : Nat) (ys : List Int) (kk : Int) (w : World) (hr : RdI w A xs) (hn : xs.length ≤ 1048576) (hs : RdI w B ys) (hm : ys.length ≤ 1048576) (hx : tenB p a b c xs = false) :
    Calls Try.prog 18 #[.agg #[.int .i64 p, .int .i64 a, .int .i64 b, .int .i64 c, .slice A xs.length cap], .agg #[.int .i64 q, .int .i64 d, .int .i64 e, .int .i64 f, .slice B ys.length cap2], .int .i64 kk] w (ResT w (adZ p a b c xs q d e f ys kk p) (adZ p a b c xs q d e f ys kk a) (adZ p a b c xs q d e f ys kk b) (adZ p a b c xs q d e f ys kk c) (adR p a b c xs q d e f ys kk) (adCode p a b c xs q d e f ys kk)) := by
  have Hcode : Hid (adCode p a b c xs q d e f ys kk = 1) := Lib.hid (by simp [adCode, ckCode, hx])
  have HX := Lib.hid (fun w' (hb : Below w.heap.size w w') => l05Is_c p a b c A cap xs w' (hr.keep hb) hn)
  have HY := Lib.hid (fun w' (hb : Below w.heap.size w w') => l05Is_c q d e f B cap2 ys w' (hs.keep hb) hm)
  have Hz : Hid (∀ x, adZ p a b c xs q d e f ys kk x = 0) := Lib.hid (fun x => by simp [adZ, Hcode.out])
  have Hr : Hid (adR p a b c xs q d e f ys kk = []) := Lib.hid (by simp [adR, Hcode.out])
  rw [hx] at HX
  clear hx HY
  go_enter Try.func18, Try.ntmps18
  go_wp2_with (first | (refine wpList_abs3 ?_; intro W hsz hB h0 h1 h2; have z0 : W.heap.size = w.heap.size + 1 + 1 + 1 := hsz; clear hsz) | (refine wpList_load_all rfl 27 _ rfl w.heap.size rfl _ _ _ h0 Try.underlying27 rfl 5 (by kernel_rfl) rfl ?_))
  refine (HX.out _ hB).mono ?_
  rintro e0 w1 ⟨rfl, b1⟩
  replace hB := below_after hB b1
  replace h0 := h0.after b1
  replace h1 := h1.after b1
  replace h2 := h2.after b1
  clear b1
  go_wp2_with (refine wpList_store_all rfl 27 _ _ rfl rfl (w.heap.size + 1 + 1) rfl #[.int .i64 0, .int .i64 0, .int .i64 0, .int .i64 0, .slice none 0 0] rfl _ _ h2 5 (by kernel_rfl) rfl rfl (by simp [Value.oneCell']) ?_; intro w7 p7)
  refine bodyPost_ret (results_at2 rfl _ _ (w.heap.size + 1 + 1) _ _ _ rfl _ rfl p7.at_ Try.underlying27 rfl 5 (by kernel_rfl) rfl) rfl ?_
  exact ⟨.slice none 0 0, by rw [Hz.out, Hz.out, Hz.out, Hz.out, Hcode.out]; rfl, by rw [Hr.out]; exact OwnI.nil _ _, p7.below hB (by omega)⟩
set_option maxHeartbeats 3200000 in
theorem specAdd_b (p a b c : Int) (A : Option Addr) (cap : Nat) (xs : List Int) (q d e f : Int) (B : Option Addr) (cap2 : Nat) (ys : List Int) (kk : Int) (w : World) (hr : RdI w A xs) (hn : xs.length ≤ 1048576) (hs : RdI w B ys) (hm : ys.length ≤ 1048576) (hx : tenB p a b c xs = true) (hy : tenB q d e f ys = false) :
    Calls Try.prog 18 #[.agg #[.int .i64 p, .int .i64 a, .int .i64 b, .int .i64 c, .slice A xs.length cap], .agg #[.int .i64 q, .int .i64 d, .int .i64 e, .int .i64 f, .slice B ys.length cap2], .int .i64 kk] w (ResT w (adZ p a b c xs q d e f ys kk p) (adZ p a b c xs q d e f ys kk a) (adZ p a b c xs q d e f ys kk b) (adZ p a b c xs q d e f ys kk c) (adR p a b c xs q d e f ys kk) (adCode p a b c xs q d e f ys kk)) := by
  have Hcode : Hid (adCode p a b c xs q d e f ys kk = 1) := Lib.hid (by simp [adCode, ckCode, hx, hy])
  have HX := Lib.hid (fun w' (hb : Below w.heap.size w w') => l05Is_c p a b c A cap xs w' (hr.keep hb) hn)
  have HY := Lib.hid (fun w' (hb : Below w.heap.size w w') => l05Is_c q d e f B cap2 ys w' (hs.keep hb) hm)
  have Hz : Hid (∀ x, adZ p a b c xs q d e f ys kk x = 0) := Lib.hid (fun x => by simp [adZ, Hcode.out])
  have Hr : Hid (adR p a b c xs q d e f ys kk = []) := Lib.hid (by simp [adR, Hcode.out])
  rw [hx] at HX
  rw [hy] at HY
  clear hx hy
  go_enter Try.func18, Try.ntmps18
  go_wp2_with (first | (refine wpList_abs3 ?_; intro W hsz hB h0 h1 h2; have z0 : W.heap.size = w.heap.size + 1 + 1 + 1 := hsz; clear hsz) | (refine wpList_load_all rfl 27 _ rfl w.heap.size rfl _ _ _ h0 Try.underlying27 rfl 5 (by kernel_rfl) rfl ?_))
  refine (HX.out _ hB).mono ?_
  rintro e0 w1 ⟨rfl, b1⟩
  replace hB := below_after hB b1
  replace h0 := h0.after b1
  replace h1 := h1.after b1
  replace h2 := h2.after b1
  clear b1
  go_wp2_with (refine wpList_want_exec rfl (exec_load_all 27 _ rfl (w.heap.size + 1) rfl _ _ _ (by exact h1) Try.underlying27 rfl 5 (by kernel_rfl) rfl) ?_)
  refine (HY.out _ hB).mono ?_
  rintro e0 w2 ⟨rfl, b2⟩
  replace hB := below_after hB b2
  replace h0 := h0.after b2
  replace h1 := h1.after b2
  replace h2 := h2.after b2
  clear b2
  have x0 : w2.cell? ⟨w.heap.size, 0, none⟩ = some (.int .i64 p) := h0.at_ 0
  have y0 : w2.cell? ⟨w.heap.size + 1, 0, none⟩ = some (.int .i64 q) := h1.at_ 0
  have x1 : w2.cell? ⟨w.heap.size, 1, none⟩ = some (.int .i64 a) := h0.at_ 1
  have y1 : w2.cell? ⟨w.heap.size + 1, 1, none⟩ = some (.int .i64 d) := h1.at_ 1
  have x2 : w2.cell? ⟨w.heap.size, 2, none⟩ = some (.int .i64 b) := h0.at_ 2
  have y2 : w2.cell? ⟨w.heap.size + 1, 2, none⟩ = some (.int .i64 e) := h1.at_ 2
  have x3 : w2.cell? ⟨w.heap.size, 3, none⟩ = some (.int .i64 c) := h0.at_ 3
  have y3 : w2.cell? ⟨w.heap.size + 1, 3, none⟩ = some (.int .i64 f) := h1.at_ 3
  go_wp2_with (refine wpList_store_all rfl 27 _ _ rfl rfl (w.heap.size + 1 + 1) rfl #[.int .i64 0, .int .i64 0, .int .i64 0, .int .i64 0, .slice none 0 0] rfl _ _ h2 5 (by kernel_rfl) rfl rfl (by simp [Value.oneCell']) ?_; intro w7 p7)
  refine bodyPost_ret (results_at2 rfl _ _ (w.heap.size + 1 + 1) _ _ _ rfl _ rfl p7.at_ Try.underlying27 rfl 5 (by kernel_rfl) rfl) rfl ?_
  exact ⟨.slice none 0 0, by rw [Hz.out, Hz.out, Hz.out, Hz.out, Hcode.out]; rfl, by rw [Hr.out]; exact OwnI.nil _ _, p7.below hB (by omega)⟩
set_option maxHeartbeats 3200000 in
theorem specAdd_c (p a b c : Int) (A : Option Addr) (cap : Nat) (xs : List Int) (q d e f : Int) (B : Option Addr) (cap2 : Nat) (ys : List Int) (kk : Int) (w : World) (hr : RdI w A xs) (hn : xs.length ≤ 1048576) (hs : RdI w B ys) (hm : ys.length ≤ 1048576) (hx : tenB p a b c xs = true) (hy : tenB q d e f ys = true) (hpq : p ≠ q) :
    Calls Try.prog 18 #[.agg #[.int .i64 p, .int .i64 a, .int .i64 b, .int .i64 c, .slice A xs.length cap], .agg #[.int .i64 q, .int .i64 d, .int .i64 e, .int .i64 f, .slice B ys.length cap2], .int .i64 kk] w (ResT w (adZ p a b c xs q d e f ys kk p) (adZ p a b c xs q d e f ys kk a) (adZ p a b c xs q d e f ys kk b) (adZ p a b c xs q d e f ys kk c) (adR p a b c xs q d e f ys kk) (adCode p a b c xs q d e f ys kk)) := by
  have Hcode : Hid (adCode p a b c xs q d e f ys kk = 2) := Lib.hid (by simp [adCode, ckCode, hx, hy, hpq])
  have HX := Lib.hid (fun w' (hb : Below w.heap.size w w') => l05Is_c p a b c A cap xs w' (hr.keep hb) hn)
  have HY := Lib.hid (fun w' (hb : Below w.heap.size w w') => l05Is_c q d e f B cap2 ys w' (hs.keep hb) hm)
  have Hz : Hid (∀ x, adZ p a b c xs q d e f ys kk x = 0) := Lib.hid (fun x => by simp [adZ, Hcode.out])
  have Hr : Hid (adR p a b c xs q d e f ys kk = []) := Lib.hid (by simp [adR, Hcode.out])
  rw [hx] at HX
  rw [hy] at HY
  have f0 : (p != q) = true := by simp [hpq]
  clear hx hy hpq
  go_enter Try.func18, Try.ntmps18
  go_wp2_with (first | (refine wpList_abs3 ?_; intro W hsz hB h0 h1 h2; have z0 : W.heap.size = w.heap.size + 1 + 1 + 1 := hsz; clear hsz) | (refine wpList_load_all rfl 27 _ rfl w.heap.size rfl _ _ _ h0 Try.underlying27 rfl 5 (by kernel_rfl) rfl ?_))
  refine (HX.out _ hB).mono ?_
  rintro e0 w1 ⟨rfl, b1⟩
  replace hB := below_after hB b1
  replace h0 := h0.after b1
  replace h1 := h1.after b1
  replace h2 := h2.after b1
  clear b1
  go_wp2_with (refine wpList_want_exec rfl (exec_load_all 27 _ rfl (w.heap.size + 1) rfl _ _ _ (by exact h1) Try.underlying27 rfl 5 (by kernel_rfl) rfl) ?_)
  refine (HY.out _ hB).mono ?_
  rintro e0 w2 ⟨rfl, b2⟩
  replace hB := below_after hB b2
  replace h0 := h0.after b2
  replace h1 := h1.after b2
  replace h2 := h2.after b2
  clear b2
  have x0 : w2.cell? ⟨w.heap.size, 0, none⟩ = some (.int .i64 p) := h0.at_ 0
  have y0 : w2.cell? ⟨w.heap.size + 1, 0, none⟩ = some (.int .i64 q) := h1.at_ 0
  have x1 : w2.cell? ⟨w.heap.size, 1, none⟩ = some (.int .i64 a) := h0.at_ 1
  have y1 : w2.cell? ⟨w.heap.size + 1, 1, none⟩ = some (.int .i64 d) := h1.at_ 1
  have x2 : w2.cell? ⟨w.heap.size, 2, none⟩ = some (.int .i64 b) := h0.at_ 2
  have y2 : w2.cell? ⟨w.heap.size + 1, 2, none⟩ = some (.int .i64 e) := h1.at_ 2
  have x3 : w2.cell? ⟨w.heap.size, 3, none⟩ = some (.int .i64 c) := h0.at_ 3
  have y3 : w2.cell? ⟨w.heap.size + 1, 3, none⟩ = some (.int .i64 f) := h1.at_ 3
  go_wp2_with (refine wpList_store_all rfl 27 _ _ rfl rfl (w.heap.size + 1 + 1) rfl #[.int .i64 0, .int .i64 0, .int .i64 0, .int .i64 0, .slice none 0 0] rfl _ _ h2 5 (by kernel_rfl) rfl rfl (by simp [Value.oneCell']) ?_; intro w7 p7)
  refine bodyPost_ret (results_at2 rfl _ _ (w.heap.size + 1 + 1) _ _ _ rfl _ rfl p7.at_ Try.underlying27 rfl 5 (by kernel_rfl) rfl) rfl ?_
  exact ⟨.slice none 0 0, by rw [Hz.out, Hz.out, Hz.out, Hz.out, Hcode.out]; rfl, by rw [Hr.out]; exact OwnI.nil _ _, p7.below hB (by omega)⟩
set_option maxHeartbeats 3200000 in
theorem specAdd_d (p a b c : Int) (A : Option Addr) (cap : Nat) (xs : List Int) (d e f : Int) (B : Option Addr) (cap2 : Nat) (ys : List Int) (kk : Int) (w : World) (hr : RdI w A xs) (hn : xs.length ≤ 1048576) (hs : RdI w B ys) (hm : ys.length ≤ 1048576) (hx : tenB p a b c xs = true) (hy : tenB p d e f ys = true) (hne : a ≠ d) :
    Calls Try.prog 18 #[.agg #[.int .i64 p, .int .i64 a, .int .i64 b, .int .i64 c, .slice A xs.length cap], .agg #[.int .i64 p, .int .i64 d, .int .i64 e, .int .i64 f, .slice B ys.length cap2], .int .i64 kk] w (ResT w (adZ p a b c xs p d e f ys kk p) (adZ p a b c xs p d e f ys kk a) (adZ p a b c xs p d e f ys kk b) (adZ p a b c xs p d e f ys kk c) (adR p a b c xs p d e f ys kk) (adCode p a b c xs p d e f ys kk)) := by
  have Hcode : Hid (adCode p a b c xs p d e f ys kk = 2) := Lib.hid (by have h0 : ckCode p a b c xs p d e f ys = 0 := (by unfold ckCode; rw [if_pos hx, if_pos hy, if_pos rfl]); unfold adCode; rw [if_pos h0, if_neg]; intro h; simp only [Bool.and_eq_true, beq_iff_eq] at h; exact hne h.1.1)
  have HX := Lib.hid (fun w' (hb : Below w.heap.size w w') => l05Is_c p a b c A cap xs w' (hr.keep hb) hn)
  have HY := Lib.hid (fun w' (hb : Below w.heap.size w w') => l05Is_c p d e f B cap2 ys w' (hs.keep hb) hm)
  have Hz : Hid (∀ x, adZ p a b c xs p d e f ys kk x = 0) := Lib.hid (fun x => by simp [adZ, Hcode.out])
  have Hr : Hid (adR p a b c xs p d e f ys kk = []) := Lib.hid (by simp [adR, Hcode.out])
  rw [hx] at HX
  rw [hy] at HY
  have f0 : (p != p) = false := by simp
  have f1 : (a != d) = true := by simp [hne]
  clear hx hy hne
  go_enter Try.func18, Try.ntmps18
  go_wp2_with (first | (refine wpList_abs3 ?_; intro W hsz hB h0 h1 h2; have z0 : W.heap.size = w.heap.size + 1 + 1 + 1 := hsz; clear hsz) | (refine wpList_load_all rfl 27 _ rfl w.heap.size rfl _ _ _ h0 Try.underlying27 rfl 5 (by kernel_rfl) rfl ?_))
  refine (HX.out _ hB).mono ?_
  rintro e0 w1 ⟨rfl, b1⟩
  replace hB := below_after hB b1
  replace h0 := h0.after b1
  replace h1 := h1.after b1
  replace h2 := h2.after b1
  clear b1
  go_wp2_with (refine wpList_want_exec rfl (exec_load_all 27 _ rfl (w.heap.size + 1) rfl _ _ _ (by exact h1) Try.underlying27 rfl 5 (by kernel_rfl) rfl) ?_)
  refine (HY.out _ hB).mono ?_
  rintro e0 w2 ⟨rfl, b2⟩
  replace hB := below_after hB b2
  replace h0 := h0.after b2
  replace h1 := h1.after b2
  replace h2 := h2.after b2
  clear b2
  have x0 : w2.cell? ⟨w.heap.size, 0, none⟩ = some (.int .i64 p) := h0.at_ 0
  have y0 : w2.cell? ⟨w.heap.size + 1, 0, none⟩ = some (.int .i64 p) := h1.at_ 0
  have x1 : w2.cell? ⟨w.heap.size, 1, none⟩ = some (.int .i64 a) := h0.at_ 1
  have y1 : w2.cell? ⟨w.heap.size + 1, 1, none⟩ = some (.int .i64 d) := h1.at_ 1
  have x2 : w2.cell? ⟨w.heap.size, 2, none⟩ = some (.int .i64 b) := h0.at_ 2
  have y2 : w2.cell? ⟨w.heap.size + 1, 2, none⟩ = some (.int .i64 e) := h1.at_ 2
  have x3 : w2.cell? ⟨w.heap.size, 3, none⟩ = some (.int .i64 c) := h0.at_ 3
  have y3 : w2.cell? ⟨w.heap.size + 1, 3, none⟩ = some (.int .i64 f) := h1.at_ 3
  go_wp2_with (refine wpList_store_all rfl 27 _ _ rfl rfl (w.heap.size + 1 + 1) rfl #[.int .i64 0, .int .i64 0, .int .i64 0, .int .i64 0, .slice none 0 0] rfl _ _ h2 5 (by kernel_rfl) rfl rfl (by simp [Value.oneCell']) ?_; intro w7 p7)
  refine bodyPost_ret (results_at2 rfl _ _ (w.heap.size + 1 + 1) _ _ _ rfl _ rfl p7.at_ Try.underlying27 rfl 5 (by kernel_rfl) rfl) rfl ?_
  exact ⟨.slice none 0 0, by rw [Hz.out, Hz.out, Hz.out, Hz.out, Hcode.out]; rfl, by rw [Hr.out]; exact OwnI.nil _ _, p7.below hB (by omega)⟩
set_option maxHeartbeats 3200000 in
theorem specAdd_e (p a b c : Int) (A : Option Addr) (cap : Nat) (xs : List Int) (d e f : Int) (B : Option Addr) (cap2 : Nat) (ys : List Int) (kk : Int) (w : World) (hr : RdI w A xs) (hn : xs.length ≤ 1048576) (hs : RdI w B ys) (hm : ys.length ≤ 1048576) (hx : tenB p a b c xs = true) (hy : tenB p d e f ys = true) (e1 : a = d) (hne : b ≠ e) :
    Calls Try.prog 18 #[.agg #[.int .i64 p, .int .i64 a, .int .i64 b, .int .i64 c, .slice A xs.length cap], .agg #[.int .i64 p, .int .i64 d, .int .i64 e, .int .i64 f, .slice B ys.length cap2], .int .i64 kk] w (ResT w (adZ p a b c xs p d e f ys kk p) (adZ p a b c xs p d e f ys kk a) (adZ p a b c xs p d e f ys kk b) (adZ p a b c xs p d e f ys kk c) (adR p a b c xs p d e f ys kk) (adCode p a b c xs p d e f ys kk)) := by
  have Hcode : Hid (adCode p a b c xs p d e f ys kk = 2) := Lib.hid (by have h0 : ckCode p a b c xs p d e f ys = 0 := (by unfold ckCode; rw [if_pos hx, if_pos hy, if_pos rfl]); unfold adCode; rw [if_pos h0, if_neg]; intro h; simp only [Bool.and_eq_true, beq_iff_eq] at h; exact hne h.1.2.1)
  have HX := Lib.hid (fun w' (hb : Below w.heap.size w w') => l05Is_c p a b c A cap xs w' (hr.keep hb) hn)
  have HY := Lib.hid (fun w' (hb : Below w.heap.size w w') => l05Is_c p d e f B cap2 ys w' (hs.keep hb) hm)
  have Hz : Hid (∀ x, adZ p a b c xs p d e f ys kk x = 0) := Lib.hid (fun x => by simp [adZ, Hcode.out])
  have Hr : Hid (adR p a b c xs p d e f ys kk = []) := Lib.hid (by simp [adR, Hcode.out])
  rw [hx] at HX
  rw [hy] at HY
  have f0 : (p != p) = false := by simp
  have f1 : (a != d) = false := by simp [e1]
  have f2 : (b != e) = true := by simp [hne]
  clear hx hy hne e1
  go_enter Try.func18, Try.ntmps18
  go_wp2_with (first | (refine wpList_abs3 ?_; intro W hsz hB h0 h1 h2; have z0 : W.heap.size = w.heap.size + 1 + 1 + 1 := hsz; clear hsz) | (refine wpList_load_all rfl 27 _ rfl w.heap.size rfl _ _ _ h0 Try.underlying27 rfl 5 (by kernel_rfl) rfl ?_))
  refine (HX.out _ hB).mono ?_
  rintro e0 w1 ⟨rfl, b1⟩
  replace hB := below_after hB b1
  replace h0 := h0.after b1
  replace h1 := h1.after b1
  replace h2 := h2.after b1
  clear b1
  go_wp2_with (refine wpList_want_exec rfl (exec_load_all 27 _ rfl (w.heap.size + 1) rfl _ _ _ (by exact h1) Try.underlying27 rfl 5 (by kernel_rfl) rfl) ?_)
  refine (HY.out _ hB).mono ?_
  rintro e0 w2 ⟨rfl, b2⟩
  replace hB := below_after hB b2
  replace h0 := h0.after b2
  replace h1 := h1.after b2
  replace h2 := h2.after b2
  clear b2
  have x0 : w2.cell? ⟨w.heap.size, 0, none⟩ = some (.int .i64 p) := h0.at_ 0
  have y0 : w2.cell? ⟨w.heap.size + 1, 0, none⟩ = some (.int .i64 p) := h1.at_ 0
  have x1 : w2.cell? ⟨w.heap.size, 1, none⟩ = some (.int .i64 a) := h0.at_ 1
  have y1 : w2.cell? ⟨w.heap.size + 1, 1, none⟩ = some (.int .i64 d) := h1.at_ 1
  have x2 : w2.cell? ⟨w.heap.size, 2, none⟩ = some (.int .i64 b) := h0.at_ 2
  have y2 : w2.cell? ⟨w.heap.size + 1, 2, none⟩ = some (.int .i64 e) := h1.at_ 2
  have x3 : w2.cell? ⟨w.heap.size, 3, none⟩ = some (.int .i64 c) := h0.at_ 3
  have y3 : w2.cell? ⟨w.heap.size + 1, 3, none⟩ = some (.int .i64 f) := h1.at_ 3
  go_wp2_with (refine wpList_store_all rfl 27 _ _ rfl rfl (w.heap.size + 1 + 1) rfl #[.int .i64 0, .int .i64 0, .int .i64 0, .int .i64 0, .slice none 0 0] rfl _ _ h2 5 (by kernel_rfl) rfl rfl (by simp [Value.oneCell']) ?_; intro w7 p7)
  refine bodyPost_ret (results_at2 rfl _ _ (w.heap.size + 1 + 1) _ _ _ rfl _ rfl p7.at_ Try.underlying27 rfl 5 (by kernel_rfl) rfl) rfl ?_
  exact ⟨.slice none 0 0, by rw [Hz.out, Hz.out, Hz.out, Hz.out, Hcode.out]; rfl, by rw [Hr.out]; exact OwnI.nil _ _, p7.below hB (by omega)⟩
set_option maxHeartbeats 3200000 in
theorem specAdd_f (p a b c : Int) (A : Option Addr) (cap : Nat) (xs : List Int) (d e f : Int) (B : Option Addr) (cap2 : Nat) (ys : List Int) (kk : Int) (w : World) (hr : RdI w A xs) (hn : xs.length ≤ 1048576) (hs : RdI w B ys) (hm : ys.length ≤ 1048576) (hx : tenB p a b c xs = true) (hy : tenB p d e f ys = true) (e1 : a = d) (e2 : b = e) (hne : c ≠ f) :
    Calls Try.prog 18 #[.agg #[.int .i64 p, .int .i64 a, .int .i64 b, .int .i64 c, .slice A xs.length cap], .agg #[.int .i64 p, .int .i64 d, .int .i64 e, .int .i64 f, .slice B ys.length cap2], .int .i64 kk] w (ResT w (adZ p a b c xs p d e f ys kk p) (adZ p a b c xs p d e f ys kk a) (adZ p a b c xs p d e f ys kk b) (adZ p a b c xs p d e f ys kk c) (adR p a b c xs p d e f ys kk) (adCode p a b c xs p d e f ys kk)) := by
  have Hcode : Hid (adCode p a b c xs p d e f ys kk = 2) := Lib.hid (by have h0 : ckCode p a b c xs p d e f ys = 0 := (by unfold ckCode; rw [if_pos hx, if_pos hy, if_pos rfl]); unfold adCode; rw [if_pos h0, if_neg]; intro h; simp only [Bool.and_eq_true, beq_iff_eq] at h; exact hne h.1.2.2)
  have HX := Lib.hid (fun w' (hb : Below w.heap.size w w') => l05Is_c p a b c A cap xs w' (hr.keep hb) hn)
  have HY := Lib.hid (fun w' (hb : Below w.heap.size w w') => l05Is_c p d e f B cap2 ys w' (hs.keep hb) hm)
  have Hz : Hid (∀ x, adZ p a b c xs p d e f ys kk x = 0) := Lib.hid (fun x => by simp [adZ, Hcode.out])
  have Hr : Hid (adR p a b c xs p d e f ys kk = []) := Lib.hid (by simp [adR, Hcode.out])
  rw [hx] at HX
  rw [hy] at HY
  have f0 : (p != p) = false := by simp
  have f1 : (a != d) = false := by simp [e1]
  have f2 : (b != e) = false := by simp [e2]
  have f3 : (c != f) = true := by simp [hne]
  clear hx hy hne e1 e2
  go_enter Try.func18, Try.ntmps18
  go_wp2_with (first | (refine wpList_abs3 ?_; intro W hsz hB h0 h1 h2; have z0 : W.heap.size = w.heap.size + 1 + 1 + 1 := hsz; clear hsz) | (refine wpList_load_all rfl 27 _ rfl w.heap.size rfl _ _ _ h0 Try.underlying27 rfl 5 (by kernel_rfl) rfl ?_))
  refine (HX.out _ hB).mono ?_
  rintro e0 w1 ⟨rfl, b1⟩
  replace hB := below_after hB b1
  replace h0 := h0.after b1
  replace h1 := h1.after b1
  replace h2 := h2.after b1
  clear b1
  go_wp2_with (refine wpList_want_exec rfl (exec_load_all 27 _ rfl (w.heap.size + 1) rfl _ _ _ (by exact h1) Try.underlying27 rfl 5 (by kernel_rfl) rfl) ?_)
  refine (HY.out _ hB).mono ?_
  rintro e0 w2 ⟨rfl, b2⟩
  replace hB := below_after hB b2
  replace h0 := h0.after b2
  replace h1 := h1.after b2
  replace h2 := h2.after b2
  clear b2
  have x0 : w2.cell? ⟨w.heap.size, 0, none⟩ = some (.int .i64 p) := h0.at_ 0
  have y0 : w2.cell? ⟨w.heap.size + 1, 0, none⟩ = some (.int .i64 p) := h1.at_ 0
  have x1 : w2.cell? ⟨w.heap.size, 1, none⟩ = some (.int .i64 a) := h0.at_ 1
  have y1 : w2.cell? ⟨w.heap.size + 1, 1, none⟩ = some (.int .i64 d) := h1.at_ 1
  have x2 : w2.cell? ⟨w.heap.size, 2, none⟩ = some (.int .i64 b) := h0.at_ 2
  have y2 : w2.cell? ⟨w.heap.size + 1, 2, none⟩ = some (.int .i64 e) := h1.at_ 2
  have x3 : w2.cell? ⟨w.heap.size, 3, none⟩ = some (.int .i64 c) := h0.at_ 3
  have y3 : w2.cell? ⟨w.heap.size + 1, 3, none⟩ = some (.int .i64 f) := h1.at_ 3
  go_wp2_with (refine wpList_store_all rfl 27 _ _ rfl rfl (w.heap.size + 1 + 1) rfl #[.int .i64 0, .int .i64 0, .int .i64 0, .int .i64 0, .slice none 0 0] rfl _ _ h2 5 (by kernel_rfl) rfl rfl (by simp [Value.oneCell']) ?_; intro w7 p7)
  refine bodyPost_ret (results_at2 rfl _ _ (w.heap.size + 1 + 1) _ _ _ rfl _ rfl p7.at_ Try.underlying27 rfl 5 (by kernel_rfl) rfl) rfl ?_
  exact ⟨.slice none 0 0, by rw [Hz.out, Hz.out, Hz.out, Hz.out, Hcode.out]; rfl, by rw [Hr.out]; exact OwnI.nil _ _, p7.below hB (by omega)⟩
set_option maxHeartbeats 3200000 in
theorem specAdd_g (p a b c : Int) (A : Option Addr) (cap : Nat) (xs : List Int) (d e f : Int) (B : Option Addr) (cap2 : Nat) (ys : List Int) (kk : Int) (w : World) (hr : RdI w A xs) (hn : xs.length ≤ 1048576) (hs : RdI w B ys) (hm : ys.length ≤ 1048576) (hx : tenB p a b c xs = true) (hy : tenB p d e f ys = true) (e1 : a = d) (e2 : b = e) (e3 : c = f) (hk : inB kk p = false) :
    Calls Try.prog 18 #[.agg #[.int .i64 p, .int .i64 a, .int .i64 b, .int .i64 c, .slice A xs.length cap], .agg #[.int .i64 p, .int .i64 d, .int .i64 e, .int .i64 f, .slice B ys.length cap2], .int .i64 kk] w (ResT w (adZ p a b c xs p d e f ys kk p) (adZ p a b c xs p d e f ys kk a) (adZ p a b c xs p d e f ys kk b) (adZ p a b c xs p d e f ys kk c) (adR p a b c xs p d e f ys kk) (adCode p a b c xs p d e f ys kk)) := by
  have Hcode : Hid (adCode p a b c xs p d e f ys kk = 2) := Lib.hid (by have h0 : ckCode p a b c xs p d e f ys = 0 := (by unfold ckCode; rw [if_pos hx, if_pos hy, if_pos rfl]); unfold adCode; rw [if_pos h0, if_neg]; intro h; simp only [Bool.and_eq_true, beq_iff_eq] at h; rw [h.2] at hk; exact absurd hk (by decide))
  have HX := Lib.hid (fun w' (hb : Below w.heap.size w w') => l05Is_c p a b c A cap xs w' (hr.keep hb) hn)
  have HY := Lib.hid (fun w' (hb : Below w.heap.size w w') => l05Is_c p d e f B cap2 ys w' (hs.keep hb) hm)
  have Hz : Hid (∀ x, adZ p a b c xs p d e f ys kk x = 0) := Lib.hid (fun x => by simp [adZ, Hcode.out])
  have Hr : Hid (adR p a b c xs p d e f ys kk = []) := Lib.hid (by simp [adR, Hcode.out])
  rw [hx] at HX
  rw [hy] at HY
  have f0 : (p != p) = false := by simp
  have f1 : (a != d) = false := by simp [e1]
  have f2 : (b != e) = false := by simp [e2]
  have f3 : (c != f) = false := by simp [e3]
  have pp := prime_le5 (tenB_parts hx).1
  have e9 : IntKind.i64.wrap (p - 1) = p - 1 := IntWalk.i64_in _ (by omega)
  have HK := Lib.hid (l01In_num kk p (p - 1) rfl)
  rw [hk] at HK
  clear hx hy hk e1 e2 e3 pp
  go_enter Try.func18, Try.ntmps18
  go_wp2_with (first | (refine wpList_abs3 ?_; intro W hsz hB h0 h1 h2; have z0 : W.heap.size = w.heap.size + 1 + 1 + 1 := hsz; clear hsz) | (refine wpList_load_all rfl 27 _ rfl w.heap.size rfl _ _ _ h0 Try.underlying27 rfl 5 (by kernel_rfl) rfl ?_))
  refine (HX.out _ hB).mono ?_
  rintro e0 w1 ⟨rfl, b1⟩
  replace hB := below_after hB b1
  replace h0 := h0.after b1
  replace h1 := h1.after b1
  replace h2 := h2.after b1
  clear b1
  go_wp2_with (refine wpList_want_exec rfl (exec_load_all 27 _ rfl (w.heap.size + 1) rfl _ _ _ (by exact h1) Try.underlying27 rfl 5 (by kernel_rfl) rfl) ?_)
  refine (HY.out _ hB).mono ?_
  rintro e0 w2 ⟨rfl, b2⟩
  replace hB := below_after hB b2
  replace h0 := h0.after b2
  replace h1 := h1.after b2
  replace h2 := h2.after b2
  clear b2
  have x0 : w2.cell? ⟨w.heap.size, 0, none⟩ = some (.int .i64 p) := h0.at_ 0
  have y0 : w2.cell? ⟨w.heap.size + 1, 0, none⟩ = some (.int .i64 p) := h1.at_ 0
  have x1 : w2.cell? ⟨w.heap.size, 1, none⟩ = some (.int .i64 a) := h0.at_ 1
  have y1 : w2.cell? ⟨w.heap.size + 1, 1, none⟩ = some (.int .i64 d) := h1.at_ 1
  have x2 : w2.cell? ⟨w.heap.size, 2, none⟩ = some (.int .i64 b) := h0.at_ 2
  have y2 : w2.cell? ⟨w.heap.size + 1, 2, none⟩ = some (.int .i64 e) := h1.at_ 2
  have x3 : w2.cell? ⟨w.heap.size, 3, none⟩ = some (.int .i64 c) := h0.at_ 3
  have y3 : w2.cell? ⟨w.heap.size + 1, 3, none⟩ = some (.int .i64 f) := h1.at_ 3
  go_wp2_with fail
  refine (HK.out _).mono ?_
  rintro e0 w3 ⟨rfl, rfl⟩
  go_wp2_with (refine wpList_store_all rfl 27 _ _ rfl rfl (w.heap.size + 1 + 1) rfl #[.int .i64 0, .int .i64 0, .int .i64 0, .int .i64 0, .slice none 0 0] rfl _ _ h2 5 (by kernel_rfl) rfl rfl (by simp [Value.oneCell']) ?_; intro w7 p7)
  refine bodyPost_ret (results_at2 rfl _ _ (w.heap.size + 1 + 1) _ _ _ rfl _ rfl p7.at_ Try.underlying27 rfl 5 (by kernel_rfl) rfl) rfl ?_
  exact ⟨.slice none 0 0, by rw [Hz.out, Hz.out, Hz.out, Hz.out, Hcode.out]; rfl, by rw [Hr.out]; exact OwnI.nil _ _, p7.below hB (by omega)⟩
end Go.Proofs.Ytdgaphcpoincpaa
