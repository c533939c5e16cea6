/-
  impl.join over one kind, and impl.JoinCols. (Made by mkjn6.py.)
-/
import Derived.Test.YtelicajipilhjaaJn5
import Derived.Test.YtelicajipilhjaaJn3C
import Derived.Test.YtelicajipilhjaaEqSz
namespace Go.Proofs.Ytelicajipilhjaa
open Go.RowKit
set_option maxRecDepth 100000
set_option maxHeartbeats 2000000 in
theorem join_2a (p n m k : Int) (xA : Option Addr) (xc : Nat) (xq : List (List Nat)) (p' n' m' k' : Int) (yA : Option Addr) (yc : Nat) (yq : List (List Nat)) (w : World) (hrx : Rd w xA xq) (hry : Rd w yA yq) (hlx : xq.length ≤ 1048576) (hly : yq.length ≤ 1048576) (hs : schemeB p n m k xq = false) :
    Calls Try.prog 26 #[.agg #[.int .i64 p, .int .i64 n, .int .i64 m, .int .i64 k, .slice xA xq.length xc], .agg #[.int .i64 p', .int .i64 n', .int .i64 m', .int .i64 k', .slice yA yq.length yc], .int .i64 2] w (ResS w (joZ2 p n m k xq p' n' m' k' yq p) (joZ2 p n m k xq p' n' m' k' yq n) (joZ2 p n m k xq p' n' m' k' yq m) (joZ2 p n m k xq p' n' m' k' yq (k + k')) (joR2 p n m k xq p' n' m' k' yq) (joCode2 p n m k xq p' n' m' k' yq)) := by
  have HIx := Lib.hid (fun w hr => implIsScheme_c p n m k xA xc xq w hr hlx)
  have HIy := Lib.hid (fun w hr => implIsScheme_c p' n' m' k' yA yc yq w hr hly)
  have Hs := Lib.hid hs
  have Hc : Hid (joCode2 p n m k xq p' n' m' k' yq = 1) := Lib.hid (by unfold joCode2; simp [hs])
  have Hz : Hid (∀ x, joZ2 p n m k xq p' n' m' k' yq x = 0) := Lib.hid (fun x => by simp [joZ2, Hc.out])
  have Hr : Hid (joR2 p n m k xq p' n' m' k' yq = []) := Lib.hid (by simp [joR2, Hc.out])
  clear hs
  go_enter Try.func26, Try.ntmps26
  go_wp2_with (first | (refine wpList_abs3 ?_; intro W hsz hB h0 h1 h2) | (refine wpList_load_all rfl 28 _ rfl w.heap.size rfl _ _ _ h0 Try.underlying28 rfl 5 (by kernel_rfl) rfl ?_))
  refine (HIx.out _ (hrx.keep hB)).mono ?_
  rintro e w1 ⟨rfl, b1⟩
  rw [Hs.out]
  replace h0 := h0.after b1
  replace h1 := h1.after b1
  replace h2 := h2.after b1
  replace hB := below_after hB b1
  clear b1 hsz
  go_wp2_with (first | (refine wpList_load_all rfl 28 _ rfl w.heap.size rfl _ _ _ h0 Try.underlying28 rfl 5 (by kernel_rfl) rfl ?_) | (refine wpList_store_all rfl 28 _ _ rfl rfl (w.heap.size + 1 + 1) rfl _ rfl _ _ h2 5 (by kernel_rfl) rfl rfl (by simp [Value.oneCell']) ?_; intro W2 p2))
  refine bodyPost_ret (results_at2 rfl _ _ (w.heap.size + 1 + 1) _ _ _ rfl _ rfl p2.at_ Try.underlying28 rfl 5 (by kernel_rfl) rfl) rfl ?_
  exact ⟨.slice none 0 0, by rw [Hz.out, Hz.out, Hz.out, Hz.out, Hc.out]; rfl, by rw [Hr.out]; exact Own.nil _ _, p2.below hB (by omega)⟩
set_option maxHeartbeats 2000000 in
theorem join_2b (p n m k : Int) (xA : Option Addr) (xc : Nat) (xq : List (List Nat)) (p' n' m' k' : Int) (yA : Option Addr) (yc : Nat) (yq : List (List Nat)) (w : World) (hrx : Rd w xA xq) (hry : Rd w yA yq) (hlx : xq.length ≤ 1048576) (hly : yq.length ≤ 1048576) (hs : schemeB p n m k xq = true) (ht : schemeB p' n' m' k' yq = false) :
    Calls Try.prog 26 #[.agg #[.int .i64 p, .int .i64 n, .int .i64 m, .int .i64 k, .slice xA xq.length xc], .agg #[.int .i64 p', .int .i64 n', .int .i64 m', .int .i64 k', .slice yA yq.length yc], .int .i64 2] w (ResS w (joZ2 p n m k xq p' n' m' k' yq p) (joZ2 p n m k xq p' n' m' k' yq n) (joZ2 p n m k xq p' n' m' k' yq m) (joZ2 p n m k xq p' n' m' k' yq (k + k')) (joR2 p n m k xq p' n' m' k' yq) (joCode2 p n m k xq p' n' m' k' yq)) := by
  have HIx := Lib.hid (fun w hr => implIsScheme_c p n m k xA xc xq w hr hlx)
  have HIy := Lib.hid (fun w hr => implIsScheme_c p' n' m' k' yA yc yq w hr hly)
  have Hs := Lib.hid hs
  have Ht := Lib.hid ht
  have Hc : Hid (joCode2 p n m k xq p' n' m' k' yq = 1) := Lib.hid (by unfold joCode2; simp [hs, ht])
  have Hz : Hid (∀ x, joZ2 p n m k xq p' n' m' k' yq x = 0) := Lib.hid (fun x => by simp [joZ2, Hc.out])
  have Hr : Hid (joR2 p n m k xq p' n' m' k' yq = []) := Lib.hid (by simp [joR2, Hc.out])
  clear hs ht
  go_enter Try.func26, Try.ntmps26
  go_wp2_with (first | (refine wpList_abs3 ?_; intro W hsz hB h0 h1 h2) | (refine wpList_load_all rfl 28 _ rfl w.heap.size rfl _ _ _ h0 Try.underlying28 rfl 5 (by kernel_rfl) rfl ?_))
  refine (HIx.out _ (hrx.keep hB)).mono ?_
  rintro e w1 ⟨rfl, b1⟩
  rw [Hs.out]
  replace h0 := h0.after b1
  replace h1 := h1.after b1
  replace h2 := h2.after b1
  replace hB := below_after hB b1
  clear b1 hsz
  go_wp2_with (refine wpList_want_exec rfl (exec_load_all 28 _ rfl (w.heap.size + 1) rfl _ _ _ h1 Try.underlying28 rfl 5 (by kernel_rfl) rfl) ?_)
  refine (HIy.out _ (hry.keep hB)).mono ?_
  rintro e w2 ⟨rfl, b1⟩
  rw [Ht.out]
  replace h0 := h0.after b1
  replace h1 := h1.after b1
  replace h2 := h2.after b1
  replace hB := below_after hB b1
  clear b1
  go_wp2_with (first | (refine wpList_load_all rfl 28 _ rfl w.heap.size rfl _ _ _ h0 Try.underlying28 rfl 5 (by kernel_rfl) rfl ?_) | (refine wpList_store_all rfl 28 _ _ rfl rfl (w.heap.size + 1 + 1) rfl _ rfl _ _ h2 5 (by kernel_rfl) rfl rfl (by simp [Value.oneCell']) ?_; intro W2 p2))
  refine bodyPost_ret (results_at2 rfl _ _ (w.heap.size + 1 + 1) _ _ _ rfl _ rfl p2.at_ Try.underlying28 rfl 5 (by kernel_rfl) rfl) rfl ?_
  exact ⟨.slice none 0 0, by rw [Hz.out, Hz.out, Hz.out, Hz.out, Hc.out]; rfl, by rw [Hr.out]; exact Own.nil _ _, p2.below hB (by omega)⟩
set_option maxHeartbeats 2000000 in
theorem join_2c (p n m k : Int) (xA : Option Addr) (xc : Nat) (xq : List (List Nat)) (p' n' m' k' : Int) (yA : Option Addr) (yc : Nat) (yq : List (List Nat)) (w : World) (hrx : Rd w xA xq) (hry : Rd w yA yq) (hlx : xq.length ≤ 1048576) (hly : yq.length ≤ 1048576) (hs : schemeB p n m k xq = true) (ht : schemeB p' n' m' k' yq = true) (hp : ¬ p = p') :
    Calls Try.prog 26 #[.agg #[.int .i64 p, .int .i64 n, .int .i64 m, .int .i64 k, .slice xA xq.length xc], .agg #[.int .i64 p', .int .i64 n', .int .i64 m', .int .i64 k', .slice yA yq.length yc], .int .i64 2] w (ResS w (joZ2 p n m k xq p' n' m' k' yq p) (joZ2 p n m k xq p' n' m' k' yq n) (joZ2 p n m k xq p' n' m' k' yq m) (joZ2 p n m k xq p' n' m' k' yq (k + k')) (joR2 p n m k xq p' n' m' k' yq) (joCode2 p n m k xq p' n' m' k' yq)) := by
  have HIx := Lib.hid (fun w hr => implIsScheme_c p n m k xA xc xq w hr hlx)
  have HIy := Lib.hid (fun w hr => implIsScheme_c p' n' m' k' yA yc yq w hr hly)
  have Hs := Lib.hid hs
  have Ht := Lib.hid ht
  have Hc : Hid (joCode2 p n m k xq p' n' m' k' yq = 2) := Lib.hid (by unfold joCode2; simp [hs, ht, hp])
  have Hz : Hid (∀ x, joZ2 p n m k xq p' n' m' k' yq x = 0) := Lib.hid (fun x => by simp [joZ2, Hc.out])
  have Hr : Hid (joR2 p n m k xq p' n' m' k' yq = []) := Lib.hid (by simp [joR2, Hc.out])
  clear hs ht
  go_enter Try.func26, Try.ntmps26
  go_wp2_with (first | (refine wpList_abs3 ?_; intro W hsz hB h0 h1 h2) | (refine wpList_load_all rfl 28 _ rfl w.heap.size rfl _ _ _ h0 Try.underlying28 rfl 5 (by kernel_rfl) rfl ?_))
  refine (HIx.out _ (hrx.keep hB)).mono ?_
  rintro e w1 ⟨rfl, b1⟩
  rw [Hs.out]
  replace h0 := h0.after b1
  replace h1 := h1.after b1
  replace h2 := h2.after b1
  replace hB := below_after hB b1
  clear b1 hsz
  go_wp2_with (refine wpList_want_exec rfl (exec_load_all 28 _ rfl (w.heap.size + 1) rfl _ _ _ h1 Try.underlying28 rfl 5 (by kernel_rfl) rfl) ?_)
  refine (HIy.out _ (hry.keep hB)).mono ?_
  rintro e w2 ⟨rfl, b1⟩
  rw [Ht.out]
  replace h0 := h0.after b1
  replace h1 := h1.after b1
  replace h2 := h2.after b1
  replace hB := below_after hB b1
  clear b1
  go_wp2_with (refine wpList_load_all rfl 28 _ rfl (w.heap.size + 1) rfl _ _ _ h1 Try.underlying28 rfl 5 (by kernel_rfl) rfl ?_)
  refine (sizesOf_c p' n' m' k' _ _).mono ?_
  rintro e w3 ⟨rfl, b1⟩
  replace h0 := h0.after b1
  replace h1 := h1.after b1
  replace h2 := h2.after b1
  replace hB := below_after hB b1
  clear b1
  have bx := below1 w3 (.cells #[.int .i64 0, .int .i64 0, .int .i64 0] 53 (0, 0))
  have hg : At (w3.alloc (.cells #[.int .i64 0, .int .i64 0, .int .i64 0] 53 (0, 0))) w3.heap.size (.cells #[.int .i64 0, .int .i64 0, .int .i64 0] 53 (0, 0)) := al1_0 _ _
  have l2 := h2.lt
  replace h0 := h0.after bx
  replace h1 := h1.after bx
  replace h2 := h2.after bx
  replace hB := below_after hB bx
  clear bx
  go_wp2_with (first | (refine wpList_store_all rfl 53 _ _ rfl rfl w3.heap.size rfl _ rfl _ _ hg 3 (by kernel_rfl) rfl rfl (one3 _ _ _) ?_; intro W4 p4; replace hB := p4.below hB (by omega); replace h0 := p4.other h0 (by omega); replace h1 := p4.other h1 (by omega); replace h2 := p4.other h2 (by omega); replace hg := p4.at_; clear p4) | (refine wpList_load_all rfl 28 _ rfl w.heap.size rfl _ _ _ h0 Try.underlying28 rfl 5 (by kernel_rfl) rfl ?_))
  refine (sizesOf_c p n m k _ _).mono ?_
  rintro e w5 ⟨rfl, b1⟩
  replace hg := At.after hg b1
  replace h0 := h0.after b1
  replace h1 := h1.after b1
  replace h2 := h2.after b1
  replace hB := below_after hB b1
  clear b1
  generalize w3.heap.size = gt at *
  have HX : Hid (∀ {o : Oper} {a : Act} {w : World} (x i : Operand), o.op = .index 53 x i → a.eval x = .agg #[.int .i64 n, .int .i64 m, .int .i64 k] → a.eval i = .int .i64 2 → (execOp a.eval o).run Try.prog w = .ok (.value (.int .i64 k)) w) := Lib.hid (fun x i ho hx hi => exec_index_arr3 53 2 x i ho 3 2 _ _ hx hi Try.underlying53 _ Try.underlying2 rfl (by kernel_rfl) (by omega) rfl)
  go_wp2_with (first | (refine wpList_of_exec rfl (HX.out _ _ rfl rfl rfl) ?_) | (refine wpList_store_one rfl 2 _ _ rfl rfl gt 2 rfl (.int .i64 k) rfl rfl rfl _ _ hg (by kernel_rfl) (by simp) ?_; intro W6 p6; replace hB := p6.below hB (by omega); replace h0 := p6.other h0 (by omega); replace h1 := p6.other h1 (by omega); replace h2 := p6.other h2 (by omega); replace hg : At W6 gt (.cells #[.int .i64 n', .int .i64 m', .int .i64 k] 53 (0, 0)) := p6.at_; clear p6))
  clear HX
  go_wp2_with fail
  refine wp_region_held (S := fun w' => At w' w.heap.size (.cells #[.int .i64 p, .int .i64 n, .int .i64 m, .int .i64 k, .slice xA xq.length xc] 28 (0, 0)) ∧ At w' (w.heap.size + 1) (.cells #[.int .i64 p', .int .i64 n', .int .i64 m', .int .i64 k', .slice yA yq.length yc] 28 (0, 0)) ∧ At w' gt (.cells #[.int .i64 n', .int .i64 m', .int .i64 k] 53 (0, 0))) (by kernel_rfl) ?_
  change wpAnyH _ _ _ _ _ _ _ _ (World.drew _)
  generalize hwde2 : World.drew _ = wde2
  replace hB : Below w.heap.size w wde2 := by rw [← hwde2]; exact hB.drew
  replace h0 : At wde2 w.heap.size (.cells #[.int .i64 p, .int .i64 n, .int .i64 m, .int .i64 k, .slice xA xq.length xc] 28 (0, 0)) := by rw [← hwde2]; exact h0
  replace h1 : At wde2 (w.heap.size + 1) (.cells #[.int .i64 p', .int .i64 n', .int .i64 m', .int .i64 k', .slice yA yq.length yc] 28 (0, 0)) := by rw [← hwde2]; exact h1
  replace h2 : At wde2 (w.heap.size + 1 + 1) (.cells #[.int .i64 0, .int .i64 0, .int .i64 0, .int .i64 0, .slice none 0 0] 28 (0, 0)) := by rw [← hwde2]; exact h2
  replace hg : At wde2 gt (.cells #[.int .i64 n', .int .i64 m', .int .i64 k] 53 (0, 0)) := by rw [← hwde2]; exact hg
  clear hwde2
  refine held_yield 0 (some 28) (.pointer (some ⟨w.heap.size, 0, none⟩)) rfl (by kernel_rfl) (by kernel_rfl) (by kernel_rfl) (fun _ _ _ h => h) rfl rfl ⟨h0, h1, hg⟩ (fun w' h' => exec_fieldAddr 28 _ 0 rfl _ (by kernel_rfl)) ?_
  go_frame
  refine held_yield 1 (some 29) (.int .i64 p) rfl (by kernel_rfl) (by kernel_rfl) (by kernel_rfl) (fun _ _ _ h => h) rfl rfl ⟨h0, h1, hg⟩ (fun w' h' => exec_load_one 2 _ rfl w.heap.size 0 rfl _ _ Try.underlying2 rfl (h'.1.at_ 0)) ?_
  go_frame
  refine held_yield 2 (some 30) (.pointer (some ⟨w.heap.size + 1, 0, none⟩)) rfl (by kernel_rfl) (by kernel_rfl) (by kernel_rfl) (fun _ _ _ h => h) rfl rfl ⟨h0, h1, hg⟩ (fun w' h' => exec_fieldAddr 28 _ 0 rfl _ (by kernel_rfl)) ?_
  go_frame
  refine held_yield 3 (some 31) (.int .i64 p') rfl (by kernel_rfl) (by kernel_rfl) (by kernel_rfl) (fun _ _ _ h => h) rfl rfl ⟨h0, h1, hg⟩ (fun w' h' => exec_load_one 2 _ rfl (w.heap.size + 1) 0 rfl _ _ Try.underlying2 rfl (h'.2.1.at_ 0)) ?_
  go_frame
  refine held_yield 4 (some 32) (.bool true) rfl (by kernel_rfl) (by kernel_rfl) (by kernel_rfl) (fun _ _ _ h => h) rfl rfl ⟨h0, h1, hg⟩ (fun w' h' => exec_neq _ _ _ _ rfl p p' rfl rfl true (by simp [hp])) ?_
  go_frame
  refine held_yield 5 (some 33) (.bool true) rfl (by kernel_rfl) (by kernel_rfl) (by kernel_rfl) (fun _ _ _ h => h) rfl rfl ⟨h0, h1, hg⟩ (fun w' h' => exec_move _ rfl (.bool true) rfl) ?_
  go_frame
  refine held_skip_g 6 (some 34) rfl (by kernel_rfl) (by kernel_rfl) (by kernel_rfl) (fun _ _ _ h => h) rfl rfl ⟨h0, h1, hg⟩ ?_
  go_frame
  refine held_skip_g 7 (some 35) rfl (by kernel_rfl) (by kernel_rfl) (by kernel_rfl) (fun _ _ _ h => h) rfl rfl ⟨h0, h1, hg⟩ ?_
  go_frame
  refine held_pass_g 8 (some 36) (by kernel_rfl) rfl rfl rfl ⟨h0, h1, hg⟩ ?_
  go_frame
  refine held_skip_g 9 (some 37) rfl (by kernel_rfl) (by kernel_rfl) (by kernel_rfl) (fun _ _ _ h => h) rfl rfl ⟨h0, h1, hg⟩ ?_
  go_frame
  refine held_yield 10 (some 38) (.bool true) rfl (by kernel_rfl) (by kernel_rfl) (by kernel_rfl) (fun _ _ _ h => h) rfl rfl ⟨h0, h1, hg⟩ (fun w' h' => exec_pick _ _ _ rfl true rfl (.bool true) rfl) ?_
  go_frame
  refine wpAnyH_done (by kernel_rfl) ?_ _
  clear hp
  go_wp2_with (first | (refine wpList_load_all rfl 28 _ rfl w.heap.size rfl _ _ _ h0 Try.underlying28 rfl 5 (by kernel_rfl) rfl ?_) | (refine wpList_store_all rfl 28 _ _ rfl rfl (w.heap.size + 1 + 1) rfl _ rfl _ _ h2 5 (by kernel_rfl) rfl rfl (by simp [Value.oneCell']) ?_; intro W2 p2))
  refine bodyPost_ret (results_at2 rfl _ _ (w.heap.size + 1 + 1) _ _ _ rfl _ rfl p2.at_ Try.underlying28 rfl 5 (by kernel_rfl) rfl) rfl ?_
  exact ⟨.slice none 0 0, by rw [Hz.out, Hz.out, Hz.out, Hz.out, Hc.out]; rfl, by rw [Hr.out]; exact Own.nil _ _, p2.below hB (by omega)⟩
set_option maxHeartbeats 2000000 in
theorem join_2d (p n m k : Int) (xA : Option Addr) (xc : Nat) (xq : List (List Nat)) (p' n' m' k' : Int) (yA : Option Addr) (yc : Nat) (yq : List (List Nat)) (w : World) (hrx : Rd w xA xq) (hry : Rd w yA yq) (hlx : xq.length ≤ 1048576) (hly : yq.length ≤ 1048576) (hs : schemeB p n m k xq = true) (ht : schemeB p' n' m' k' yq = true) (hp : p = p') (ho1 : ¬ n = n') :
    Calls Try.prog 26 #[.agg #[.int .i64 p, .int .i64 n, .int .i64 m, .int .i64 k, .slice xA xq.length xc], .agg #[.int .i64 p', .int .i64 n', .int .i64 m', .int .i64 k', .slice yA yq.length yc], .int .i64 2] w (ResS w (joZ2 p n m k xq p' n' m' k' yq p) (joZ2 p n m k xq p' n' m' k' yq n) (joZ2 p n m k xq p' n' m' k' yq m) (joZ2 p n m k xq p' n' m' k' yq (k + k')) (joR2 p n m k xq p' n' m' k' yq) (joCode2 p n m k xq p' n' m' k' yq)) := by
  have HIx := Lib.hid (fun w hr => implIsScheme_c p n m k xA xc xq w hr hlx)
  have HIy := Lib.hid (fun w hr => implIsScheme_c p' n' m' k' yA yc yq w hr hly)
  have Hs := Lib.hid hs
  have Ht := Lib.hid ht
  subst hp
  have e1 : ¬ n' = n := fun e => ho1 e.symm
  have Hc : Hid (joCode2 p n m k xq p n' m' k' yq = 2) := Lib.hid (by unfold joCode2; simp [hs, ht, ho1])
  have Hz : Hid (∀ x, joZ2 p n m k xq p n' m' k' yq x = 0) := Lib.hid (fun x => by simp [joZ2, Hc.out])
  have Hr : Hid (joR2 p n m k xq p n' m' k' yq = []) := Lib.hid (by simp [joR2, Hc.out])
  clear hs ht ho1
  go_enter Try.func26, Try.ntmps26
  go_wp2_with (first | (refine wpList_abs3 ?_; intro W hsz hB h0 h1 h2) | (refine wpList_load_all rfl 28 _ rfl w.heap.size rfl _ _ _ h0 Try.underlying28 rfl 5 (by kernel_rfl) rfl ?_))
  refine (HIx.out _ (hrx.keep hB)).mono ?_
  rintro e w1 ⟨rfl, b1⟩
  rw [Hs.out]
  replace h0 := h0.after b1
  replace h1 := h1.after b1
  replace h2 := h2.after b1
  replace hB := below_after hB b1
  clear b1 hsz
  go_wp2_with (refine wpList_want_exec rfl (exec_load_all 28 _ rfl (w.heap.size + 1) rfl _ _ _ h1 Try.underlying28 rfl 5 (by kernel_rfl) rfl) ?_)
  refine (HIy.out _ (hry.keep hB)).mono ?_
  rintro e w2 ⟨rfl, b1⟩
  rw [Ht.out]
  replace h0 := h0.after b1
  replace h1 := h1.after b1
  replace h2 := h2.after b1
  replace hB := below_after hB b1
  clear b1
  go_wp2_with (refine wpList_load_all rfl 28 _ rfl (w.heap.size + 1) rfl _ _ _ h1 Try.underlying28 rfl 5 (by kernel_rfl) rfl ?_)
  refine (sizesOf_c p n' m' k' _ _).mono ?_
  rintro e w3 ⟨rfl, b1⟩
  replace h0 := h0.after b1
  replace h1 := h1.after b1
  replace h2 := h2.after b1
  replace hB := below_after hB b1
  clear b1
  have bx := below1 w3 (.cells #[.int .i64 0, .int .i64 0, .int .i64 0] 53 (0, 0))
  have hg : At (w3.alloc (.cells #[.int .i64 0, .int .i64 0, .int .i64 0] 53 (0, 0))) w3.heap.size (.cells #[.int .i64 0, .int .i64 0, .int .i64 0] 53 (0, 0)) := al1_0 _ _
  have l2 := h2.lt
  replace h0 := h0.after bx
  replace h1 := h1.after bx
  replace h2 := h2.after bx
  replace hB := below_after hB bx
  clear bx
  go_wp2_with (first | (refine wpList_store_all rfl 53 _ _ rfl rfl w3.heap.size rfl _ rfl _ _ hg 3 (by kernel_rfl) rfl rfl (one3 _ _ _) ?_; intro W4 p4; replace hB := p4.below hB (by omega); replace h0 := p4.other h0 (by omega); replace h1 := p4.other h1 (by omega); replace h2 := p4.other h2 (by omega); replace hg := p4.at_; clear p4) | (refine wpList_load_all rfl 28 _ rfl w.heap.size rfl _ _ _ h0 Try.underlying28 rfl 5 (by kernel_rfl) rfl ?_))
  refine (sizesOf_c p n m k _ _).mono ?_
  rintro e w5 ⟨rfl, b1⟩
  replace hg := At.after hg b1
  replace h0 := h0.after b1
  replace h1 := h1.after b1
  replace h2 := h2.after b1
  replace hB := below_after hB b1
  clear b1
  generalize w3.heap.size = gt at *
  have HX : Hid (∀ {o : Oper} {a : Act} {w : World} (x i : Operand), o.op = .index 53 x i → a.eval x = .agg #[.int .i64 n, .int .i64 m, .int .i64 k] → a.eval i = .int .i64 2 → (execOp a.eval o).run Try.prog w = .ok (.value (.int .i64 k)) w) := Lib.hid (fun x i ho hx hi => exec_index_arr3 53 2 x i ho 3 2 _ _ hx hi Try.underlying53 _ Try.underlying2 rfl (by kernel_rfl) (by omega) rfl)
  go_wp2_with (first | (refine wpList_of_exec rfl (HX.out _ _ rfl rfl rfl) ?_) | (refine wpList_store_one rfl 2 _ _ rfl rfl gt 2 rfl (.int .i64 k) rfl rfl rfl _ _ hg (by kernel_rfl) (by simp) ?_; intro W6 p6; replace hB := p6.below hB (by omega); replace h0 := p6.other h0 (by omega); replace h1 := p6.other h1 (by omega); replace h2 := p6.other h2 (by omega); replace hg : At W6 gt (.cells #[.int .i64 n', .int .i64 m', .int .i64 k] 53 (0, 0)) := p6.at_; clear p6))
  clear HX
  go_wp2_with fail
  refine wp_region_held (S := fun w' => At w' w.heap.size (.cells #[.int .i64 p, .int .i64 n, .int .i64 m, .int .i64 k, .slice xA xq.length xc] 28 (0, 0)) ∧ At w' (w.heap.size + 1) (.cells #[.int .i64 p, .int .i64 n', .int .i64 m', .int .i64 k', .slice yA yq.length yc] 28 (0, 0)) ∧ At w' gt (.cells #[.int .i64 n', .int .i64 m', .int .i64 k] 53 (0, 0))) (by kernel_rfl) ?_
  change wpAnyH _ _ _ _ _ _ _ _ (World.drew _)
  generalize hwdd2 : World.drew _ = wdd2
  replace hB : Below w.heap.size w wdd2 := by rw [← hwdd2]; exact hB.drew
  replace h0 : At wdd2 w.heap.size (.cells #[.int .i64 p, .int .i64 n, .int .i64 m, .int .i64 k, .slice xA xq.length xc] 28 (0, 0)) := by rw [← hwdd2]; exact h0
  replace h1 : At wdd2 (w.heap.size + 1) (.cells #[.int .i64 p, .int .i64 n', .int .i64 m', .int .i64 k', .slice yA yq.length yc] 28 (0, 0)) := by rw [← hwdd2]; exact h1
  replace h2 : At wdd2 (w.heap.size + 1 + 1) (.cells #[.int .i64 0, .int .i64 0, .int .i64 0, .int .i64 0, .slice none 0 0] 28 (0, 0)) := by rw [← hwdd2]; exact h2
  replace hg : At wdd2 gt (.cells #[.int .i64 n', .int .i64 m', .int .i64 k] 53 (0, 0)) := by rw [← hwdd2]; exact hg
  clear hwdd2
  refine held_yield 0 (some 28) (.pointer (some ⟨w.heap.size, 0, none⟩)) rfl (by kernel_rfl) (by kernel_rfl) (by kernel_rfl) (fun _ _ _ h => h) rfl rfl ⟨h0, h1, hg⟩ (fun w' h' => exec_fieldAddr 28 _ 0 rfl _ (by kernel_rfl)) ?_
  go_frame
  refine held_yield 1 (some 29) (.int .i64 p) rfl (by kernel_rfl) (by kernel_rfl) (by kernel_rfl) (fun _ _ _ h => h) rfl rfl ⟨h0, h1, hg⟩ (fun w' h' => exec_load_one 2 _ rfl w.heap.size 0 rfl _ _ Try.underlying2 rfl (h'.1.at_ 0)) ?_
  go_frame
  refine held_yield 2 (some 30) (.pointer (some ⟨w.heap.size + 1, 0, none⟩)) rfl (by kernel_rfl) (by kernel_rfl) (by kernel_rfl) (fun _ _ _ h => h) rfl rfl ⟨h0, h1, hg⟩ (fun w' h' => exec_fieldAddr 28 _ 0 rfl _ (by kernel_rfl)) ?_
  go_frame
  refine held_yield 3 (some 31) (.int .i64 p) rfl (by kernel_rfl) (by kernel_rfl) (by kernel_rfl) (fun _ _ _ h => h) rfl rfl ⟨h0, h1, hg⟩ (fun w' h' => exec_load_one 2 _ rfl (w.heap.size + 1) 0 rfl _ _ Try.underlying2 rfl (h'.2.1.at_ 0)) ?_
  go_frame
  refine held_yield 4 (some 32) (.bool false) rfl (by kernel_rfl) (by kernel_rfl) (by kernel_rfl) (fun _ _ _ h => h) rfl rfl ⟨h0, h1, hg⟩ (fun w' h' => exec_neq _ _ _ _ rfl p p rfl rfl false (by simp)) ?_
  go_frame
  refine held_yield 5 (some 33) (.bool false) rfl (by kernel_rfl) (by kernel_rfl) (by kernel_rfl) (fun _ _ _ h => h) rfl rfl ⟨h0, h1, hg⟩ (fun w' h' => exec_move _ rfl (.bool false) rfl) ?_
  go_frame
  refine held_yield_g 6 (some 34) (.agg #[.int .i64 n', .int .i64 m', .int .i64 k]) rfl (by kernel_rfl) (by kernel_rfl) (by kernel_rfl) (fun _ _ _ h => h) rfl rfl ⟨h0, h1, hg⟩ (fun w' h' => exec_load_all 53 _ rfl gt rfl _ _ _ h'.2.2 Try.underlying53 rfl 3 (by kernel_rfl) rfl) ?_
  go_frame
  refine held_yield_g 7 (some 35) (.agg #[.int .i64 p, .int .i64 n, .int .i64 m, .int .i64 k, .slice xA xq.length xc]) rfl (by kernel_rfl) (by kernel_rfl) (by kernel_rfl) (fun _ _ _ h => h) rfl rfl ⟨h0, h1, hg⟩ (fun w' h' => exec_load_all 28 _ rfl w.heap.size rfl _ _ _ h'.1 Try.underlying28 rfl 5 (by kernel_rfl) rfl) ?_
  go_frame
  refine held_oper_g 8 (by kernel_rfl) rfl rfl (fun K' hK' => ?_)
  refine wp_call1 (some 36) rfl 35 _ _ rfl (fun args w => by kernel_rfl) _ rfl _ (sizesOf_c p n m k _ _) (fun e wnd21 h => ?_)
  obtain ⟨rfl, bd22⟩ := h
  replace hB := below_after hB bd22
  replace h0 := h0.after bd22
  replace h1 := h1.after bd22
  replace h2 := h2.after bd22
  replace hg := hg.after bd22
  clear bd22
  refine ⟨_, rfl, hK' _ _ ⟨h0, h1, hg⟩ ?_⟩
  clear hK' K'
  go_frame
  refine held_yield_g 9 (some 37) (.bool true) rfl (by kernel_rfl) (by kernel_rfl) (by kernel_rfl) (fun _ _ _ h => h) rfl rfl ⟨h0, h1, hg⟩ (fun w' h' => exec_neq_sz _ _ _ rfl n' m' k n m k rfl rfl true (by simp [e1])) ?_
  go_frame
  refine held_yield 10 (some 38) (.bool true) rfl (by kernel_rfl) (by kernel_rfl) (by kernel_rfl) (fun _ _ _ h => h) rfl rfl ⟨h0, h1, hg⟩ (fun w' h' => exec_pick _ _ _ rfl false rfl (.bool true) rfl) ?_
  go_frame
  refine wpAnyH_done (by kernel_rfl) ?_ _
  clear e1
  go_wp2_with (first | (refine wpList_load_all rfl 28 _ rfl w.heap.size rfl _ _ _ h0 Try.underlying28 rfl 5 (by kernel_rfl) rfl ?_) | (refine wpList_store_all rfl 28 _ _ rfl rfl (w.heap.size + 1 + 1) rfl _ rfl _ _ h2 5 (by kernel_rfl) rfl rfl (by simp [Value.oneCell']) ?_; intro W2 p2))
  refine bodyPost_ret (results_at2 rfl _ _ (w.heap.size + 1 + 1) _ _ _ rfl _ rfl p2.at_ Try.underlying28 rfl 5 (by kernel_rfl) rfl) rfl ?_
  exact ⟨.slice none 0 0, by rw [Hz.out, Hz.out, Hz.out, Hz.out, Hc.out]; rfl, by rw [Hr.out]; exact Own.nil _ _, p2.below hB (by omega)⟩
set_option maxHeartbeats 2000000 in
theorem join_2e (p n m k : Int) (xA : Option Addr) (xc : Nat) (xq : List (List Nat)) (p' n' m' k' : Int) (yA : Option Addr) (yc : Nat) (yq : List (List Nat)) (w : World) (hrx : Rd w xA xq) (hry : Rd w yA yq) (hlx : xq.length ≤ 1048576) (hly : yq.length ≤ 1048576) (hs : schemeB p n m k xq = true) (ht : schemeB p' n' m' k' yq = true) (hp : p = p') (ho1 : n = n') (ho2 : ¬ m = m') :
    Calls Try.prog 26 #[.agg #[.int .i64 p, .int .i64 n, .int .i64 m, .int .i64 k, .slice xA xq.length xc], .agg #[.int .i64 p', .int .i64 n', .int .i64 m', .int .i64 k', .slice yA yq.length yc], .int .i64 2] w (ResS w (joZ2 p n m k xq p' n' m' k' yq p) (joZ2 p n m k xq p' n' m' k' yq n) (joZ2 p n m k xq p' n' m' k' yq m) (joZ2 p n m k xq p' n' m' k' yq (k + k')) (joR2 p n m k xq p' n' m' k' yq) (joCode2 p n m k xq p' n' m' k' yq)) := by
  have HIx := Lib.hid (fun w hr => implIsScheme_c p n m k xA xc xq w hr hlx)
  have HIy := Lib.hid (fun w hr => implIsScheme_c p' n' m' k' yA yc yq w hr hly)
  have Hs := Lib.hid hs
  have Ht := Lib.hid ht
  subst hp
  subst ho1
  have e2 : ¬ m' = m := fun e => ho2 e.symm
  have Hc : Hid (joCode2 p n m k xq p n m' k' yq = 2) := Lib.hid (by unfold joCode2; simp [hs, ht, ho2])
  have Hz : Hid (∀ x, joZ2 p n m k xq p n m' k' yq x = 0) := Lib.hid (fun x => by simp [joZ2, Hc.out])
  have Hr : Hid (joR2 p n m k xq p n m' k' yq = []) := Lib.hid (by simp [joR2, Hc.out])
  clear hs ht ho2
  go_enter Try.func26, Try.ntmps26
  go_wp2_with (first | (refine wpList_abs3 ?_; intro W hsz hB h0 h1 h2) | (refine wpList_load_all rfl 28 _ rfl w.heap.size rfl _ _ _ h0 Try.underlying28 rfl 5 (by kernel_rfl) rfl ?_))
  refine (HIx.out _ (hrx.keep hB)).mono ?_
  rintro e w1 ⟨rfl, b1⟩
  rw [Hs.out]
  replace h0 := h0.after b1
  replace h1 := h1.after b1
  replace h2 := h2.after b1
  replace hB := below_after hB b1
  clear b1 hsz
  go_wp2_with (refine wpList_want_exec rfl (exec_load_all 28 _ rfl (w.heap.size + 1) rfl _ _ _ h1 Try.underlying28 rfl 5 (by kernel_rfl) rfl) ?_)
  refine (HIy.out _ (hry.keep hB)).mono ?_
  rintro e w2 ⟨rfl, b1⟩
  rw [Ht.out]
  replace h0 := h0.after b1
  replace h1 := h1.after b1
  replace h2 := h2.after b1
  replace hB := below_after hB b1
  clear b1
  go_wp2_with (refine wpList_load_all rfl 28 _ rfl (w.heap.size + 1) rfl _ _ _ h1 Try.underlying28 rfl 5 (by kernel_rfl) rfl ?_)
  refine (sizesOf_c p n m' k' _ _).mono ?_
  rintro e w3 ⟨rfl, b1⟩
  replace h0 := h0.after b1
  replace h1 := h1.after b1
  replace h2 := h2.after b1
  replace hB := below_after hB b1
  clear b1
  have bx := below1 w3 (.cells #[.int .i64 0, .int .i64 0, .int .i64 0] 53 (0, 0))
  have hg : At (w3.alloc (.cells #[.int .i64 0, .int .i64 0, .int .i64 0] 53 (0, 0))) w3.heap.size (.cells #[.int .i64 0, .int .i64 0, .int .i64 0] 53 (0, 0)) := al1_0 _ _
  have l2 := h2.lt
  replace h0 := h0.after bx
  replace h1 := h1.after bx
  replace h2 := h2.after bx
  replace hB := below_after hB bx
  clear bx
  go_wp2_with (first | (refine wpList_store_all rfl 53 _ _ rfl rfl w3.heap.size rfl _ rfl _ _ hg 3 (by kernel_rfl) rfl rfl (one3 _ _ _) ?_; intro W4 p4; replace hB := p4.below hB (by omega); replace h0 := p4.other h0 (by omega); replace h1 := p4.other h1 (by omega); replace h2 := p4.other h2 (by omega); replace hg := p4.at_; clear p4) | (refine wpList_load_all rfl 28 _ rfl w.heap.size rfl _ _ _ h0 Try.underlying28 rfl 5 (by kernel_rfl) rfl ?_))
  refine (sizesOf_c p n m k _ _).mono ?_
  rintro e w5 ⟨rfl, b1⟩
  replace hg := At.after hg b1
  replace h0 := h0.after b1
  replace h1 := h1.after b1
  replace h2 := h2.after b1
  replace hB := below_after hB b1
  clear b1
  generalize w3.heap.size = gt at *
  have HX : Hid (∀ {o : Oper} {a : Act} {w : World} (x i : Operand), o.op = .index 53 x i → a.eval x = .agg #[.int .i64 n, .int .i64 m, .int .i64 k] → a.eval i = .int .i64 2 → (execOp a.eval o).run Try.prog w = .ok (.value (.int .i64 k)) w) := Lib.hid (fun x i ho hx hi => exec_index_arr3 53 2 x i ho 3 2 _ _ hx hi Try.underlying53 _ Try.underlying2 rfl (by kernel_rfl) (by omega) rfl)
  go_wp2_with (first | (refine wpList_of_exec rfl (HX.out _ _ rfl rfl rfl) ?_) | (refine wpList_store_one rfl 2 _ _ rfl rfl gt 2 rfl (.int .i64 k) rfl rfl rfl _ _ hg (by kernel_rfl) (by simp) ?_; intro W6 p6; replace hB := p6.below hB (by omega); replace h0 := p6.other h0 (by omega); replace h1 := p6.other h1 (by omega); replace h2 := p6.other h2 (by omega); replace hg : At W6 gt (.cells #[.int .i64 n, .int .i64 m', .int .i64 k] 53 (0, 0)) := p6.at_; clear p6))
  clear HX
  go_wp2_with fail
  refine wp_region_held (S := fun w' => At w' w.heap.size (.cells #[.int .i64 p, .int .i64 n, .int .i64 m, .int .i64 k, .slice xA xq.length xc] 28 (0, 0)) ∧ At w' (w.heap.size + 1) (.cells #[.int .i64 p, .int .i64 n, .int .i64 m', .int .i64 k', .slice yA yq.length yc] 28 (0, 0)) ∧ At w' gt (.cells #[.int .i64 n, .int .i64 m', .int .i64 k] 53 (0, 0))) (by kernel_rfl) ?_
  change wpAnyH _ _ _ _ _ _ _ _ (World.drew _)
  generalize hwdc2 : World.drew _ = wdc2
  replace hB : Below w.heap.size w wdc2 := by rw [← hwdc2]; exact hB.drew
  replace h0 : At wdc2 w.heap.size (.cells #[.int .i64 p, .int .i64 n, .int .i64 m, .int .i64 k, .slice xA xq.length xc] 28 (0, 0)) := by rw [← hwdc2]; exact h0
  replace h1 : At wdc2 (w.heap.size + 1) (.cells #[.int .i64 p, .int .i64 n, .int .i64 m', .int .i64 k', .slice yA yq.length yc] 28 (0, 0)) := by rw [← hwdc2]; exact h1
  replace h2 : At wdc2 (w.heap.size + 1 + 1) (.cells #[.int .i64 0, .int .i64 0, .int .i64 0, .int .i64 0, .slice none 0 0] 28 (0, 0)) := by rw [← hwdc2]; exact h2
  replace hg : At wdc2 gt (.cells #[.int .i64 n, .int .i64 m', .int .i64 k] 53 (0, 0)) := by rw [← hwdc2]; exact hg
  clear hwdc2
  refine held_yield 0 (some 28) (.pointer (some ⟨w.heap.size, 0, none⟩)) rfl (by kernel_rfl) (by kernel_rfl) (by kernel_rfl) (fun _ _ _ h => h) rfl rfl ⟨h0, h1, hg⟩ (fun w' h' => exec_fieldAddr 28 _ 0 rfl _ (by kernel_rfl)) ?_
  go_frame
  refine held_yield 1 (some 29) (.int .i64 p) rfl (by kernel_rfl) (by kernel_rfl) (by kernel_rfl) (fun _ _ _ h => h) rfl rfl ⟨h0, h1, hg⟩ (fun w' h' => exec_load_one 2 _ rfl w.heap.size 0 rfl _ _ Try.underlying2 rfl (h'.1.at_ 0)) ?_
  go_frame
  refine held_yield 2 (some 30) (.pointer (some ⟨w.heap.size + 1, 0, none⟩)) rfl (by kernel_rfl) (by kernel_rfl) (by kernel_rfl) (fun _ _ _ h => h) rfl rfl ⟨h0, h1, hg⟩ (fun w' h' => exec_fieldAddr 28 _ 0 rfl _ (by kernel_rfl)) ?_
  go_frame
  refine held_yield 3 (some 31) (.int .i64 p) rfl (by kernel_rfl) (by kernel_rfl) (by kernel_rfl) (fun _ _ _ h => h) rfl rfl ⟨h0, h1, hg⟩ (fun w' h' => exec_load_one 2 _ rfl (w.heap.size + 1) 0 rfl _ _ Try.underlying2 rfl (h'.2.1.at_ 0)) ?_
  go_frame
  refine held_yield 4 (some 32) (.bool false) rfl (by kernel_rfl) (by kernel_rfl) (by kernel_rfl) (fun _ _ _ h => h) rfl rfl ⟨h0, h1, hg⟩ (fun w' h' => exec_neq _ _ _ _ rfl p p rfl rfl false (by simp)) ?_
  go_frame
  refine held_yield 5 (some 33) (.bool false) rfl (by kernel_rfl) (by kernel_rfl) (by kernel_rfl) (fun _ _ _ h => h) rfl rfl ⟨h0, h1, hg⟩ (fun w' h' => exec_move _ rfl (.bool false) rfl) ?_
  go_frame
  refine held_yield_g 6 (some 34) (.agg #[.int .i64 n, .int .i64 m', .int .i64 k]) rfl (by kernel_rfl) (by kernel_rfl) (by kernel_rfl) (fun _ _ _ h => h) rfl rfl ⟨h0, h1, hg⟩ (fun w' h' => exec_load_all 53 _ rfl gt rfl _ _ _ h'.2.2 Try.underlying53 rfl 3 (by kernel_rfl) rfl) ?_
  go_frame
  refine held_yield_g 7 (some 35) (.agg #[.int .i64 p, .int .i64 n, .int .i64 m, .int .i64 k, .slice xA xq.length xc]) rfl (by kernel_rfl) (by kernel_rfl) (by kernel_rfl) (fun _ _ _ h => h) rfl rfl ⟨h0, h1, hg⟩ (fun w' h' => exec_load_all 28 _ rfl w.heap.size rfl _ _ _ h'.1 Try.underlying28 rfl 5 (by kernel_rfl) rfl) ?_
  go_frame
  refine held_oper_g 8 (by kernel_rfl) rfl rfl (fun K' hK' => ?_)
  refine wp_call1 (some 36) rfl 35 _ _ rfl (fun args w => by kernel_rfl) _ rfl _ (sizesOf_c p n m k _ _) (fun e wnc21 h => ?_)
  obtain ⟨rfl, bc22⟩ := h
  replace hB := below_after hB bc22
  replace h0 := h0.after bc22
  replace h1 := h1.after bc22
  replace h2 := h2.after bc22
  replace hg := hg.after bc22
  clear bc22
  refine ⟨_, rfl, hK' _ _ ⟨h0, h1, hg⟩ ?_⟩
  clear hK' K'
  go_frame
  refine held_yield_g 9 (some 37) (.bool true) rfl (by kernel_rfl) (by kernel_rfl) (by kernel_rfl) (fun _ _ _ h => h) rfl rfl ⟨h0, h1, hg⟩ (fun w' h' => exec_neq_sz _ _ _ rfl n m' k n m k rfl rfl true (by simp [e2])) ?_
  go_frame
  refine held_yield 10 (some 38) (.bool true) rfl (by kernel_rfl) (by kernel_rfl) (by kernel_rfl) (fun _ _ _ h => h) rfl rfl ⟨h0, h1, hg⟩ (fun w' h' => exec_pick _ _ _ rfl false rfl (.bool true) rfl) ?_
  go_frame
  refine wpAnyH_done (by kernel_rfl) ?_ _
  clear e2
  go_wp2_with (first | (refine wpList_load_all rfl 28 _ rfl w.heap.size rfl _ _ _ h0 Try.underlying28 rfl 5 (by kernel_rfl) rfl ?_) | (refine wpList_store_all rfl 28 _ _ rfl rfl (w.heap.size + 1 + 1) rfl _ rfl _ _ h2 5 (by kernel_rfl) rfl rfl (by simp [Value.oneCell']) ?_; intro W2 p2))
  refine bodyPost_ret (results_at2 rfl _ _ (w.heap.size + 1 + 1) _ _ _ rfl _ rfl p2.at_ Try.underlying28 rfl 5 (by kernel_rfl) rfl) rfl ?_
  exact ⟨.slice none 0 0, by rw [Hz.out, Hz.out, Hz.out, Hz.out, Hc.out]; rfl, by rw [Hr.out]; exact Own.nil _ _, p2.below hB (by omega)⟩
set_option maxHeartbeats 2000000 in
theorem join_2f (p n m k : Int) (xA : Option Addr) (xc : Nat) (xq : List (List Nat)) (p' n' m' k' : Int) (yA : Option Addr) (yc : Nat) (yq : List (List Nat)) (w : World) (hrx : Rd w xA xq) (hry : Rd w yA yq) (hlx : xq.length ≤ 1048576) (hly : yq.length ≤ 1048576) (hs : schemeB p n m k xq = true) (ht : schemeB p' n' m' k' yq = true) (hp : p = p') (ho1 : n = n') (ho2 : m = m') (h3 : ¬ k + k' ≤ 3) :
    Calls Try.prog 26 #[.agg #[.int .i64 p, .int .i64 n, .int .i64 m, .int .i64 k, .slice xA xq.length xc], .agg #[.int .i64 p', .int .i64 n', .int .i64 m', .int .i64 k', .slice yA yq.length yc], .int .i64 2] w (ResS w (joZ2 p n m k xq p' n' m' k' yq p) (joZ2 p n m k xq p' n' m' k' yq n) (joZ2 p n m k xq p' n' m' k' yq m) (joZ2 p n m k xq p' n' m' k' yq (k + k')) (joR2 p n m k xq p' n' m' k' yq) (joCode2 p n m k xq p' n' m' k' yq)) := by
  have HIx := Lib.hid (fun w hr => implIsScheme_c p n m k xA xc xq w hr hlx)
  have HIy := Lib.hid (fun w hr => implIsScheme_c p' n' m' k' yA yc yq w hr hly)
  have Hs := Lib.hid hs
  have Ht := Lib.hid ht
  have hx30 := schemeB_len hs
  have hy30 := schemeB_len ht
  have hz1 := sizesB_parts (schemeB_sizes hs)
  have hz2 := sizesB_parts (schemeB_sizes ht)
  subst hp
  subst ho1
  subst ho2
  simp only [sizeB, Bool.and_eq_true, decide_eq_true_eq] at hz1 hz2
  obtain ⟨z, hsz0⟩ : ∃ z, z = k + k' := ⟨_, rfl⟩
  have hw0 : IntKind.i64.wrap (k + k') = z := by rw [hsz0]; exact IntWalk.i64_in _ (by omega)
  have HW := Lib.hid hw0
  clear hw0
  obtain ⟨zl, hsl⟩ : ∃ z : Int, z = (xq.length : Int) + (yq.length : Int) := ⟨_, rfl⟩
  have hwl : IntKind.i64.wrap ((xq.length : Int) + (yq.length : Int)) = zl := by rw [hsl]; exact IntWalk.i64_in _ (by omega)
  have d3 : decide (3 < z) = true := by simp; omega
  have Hc : Hid (joCode2 p n m k xq p n m k' yq = 3) := Lib.hid (by unfold joCode2; simp [hs, ht, h3])
  have Hz : Hid (∀ x, joZ2 p n m k xq p n m k' yq x = 0) := Lib.hid (fun x => by simp [joZ2, Hc.out])
  have Hr : Hid (joR2 p n m k xq p n m k' yq = []) := Lib.hid (by simp [joR2, Hc.out])
  clear hs ht hsz0 hsl hz1 hz2
  go_enter Try.func26, Try.ntmps26
  go_wp2_with (first | (refine wpList_abs3 ?_; intro W hsz hB h0 h1 h2) | (refine wpList_load_all rfl 28 _ rfl w.heap.size rfl _ _ _ h0 Try.underlying28 rfl 5 (by kernel_rfl) rfl ?_))
  refine (HIx.out _ (hrx.keep hB)).mono ?_
  rintro e w1 ⟨rfl, b1⟩
  rw [Hs.out]
  replace h0 := h0.after b1
  replace h1 := h1.after b1
  replace h2 := h2.after b1
  replace hB := below_after hB b1
  clear b1 hsz
  go_wp2_with (refine wpList_want_exec rfl (exec_load_all 28 _ rfl (w.heap.size + 1) rfl _ _ _ h1 Try.underlying28 rfl 5 (by kernel_rfl) rfl) ?_)
  refine (HIy.out _ (hry.keep hB)).mono ?_
  rintro e w2 ⟨rfl, b1⟩
  rw [Ht.out]
  replace h0 := h0.after b1
  replace h1 := h1.after b1
  replace h2 := h2.after b1
  replace hB := below_after hB b1
  clear b1
  go_wp2_with (refine wpList_load_all rfl 28 _ rfl (w.heap.size + 1) rfl _ _ _ h1 Try.underlying28 rfl 5 (by kernel_rfl) rfl ?_)
  refine (sizesOf_c p n m k' _ _).mono ?_
  rintro e w3 ⟨rfl, b1⟩
  replace h0 := h0.after b1
  replace h1 := h1.after b1
  replace h2 := h2.after b1
  replace hB := below_after hB b1
  clear b1
  have bx := below1 w3 (.cells #[.int .i64 0, .int .i64 0, .int .i64 0] 53 (0, 0))
  have hg : At (w3.alloc (.cells #[.int .i64 0, .int .i64 0, .int .i64 0] 53 (0, 0))) w3.heap.size (.cells #[.int .i64 0, .int .i64 0, .int .i64 0] 53 (0, 0)) := al1_0 _ _
  have l2 := h2.lt
  replace h0 := h0.after bx
  replace h1 := h1.after bx
  replace h2 := h2.after bx
  replace hB := below_after hB bx
  clear bx
  go_wp2_with (first | (refine wpList_store_all rfl 53 _ _ rfl rfl w3.heap.size rfl _ rfl _ _ hg 3 (by kernel_rfl) rfl rfl (one3 _ _ _) ?_; intro W4 p4; replace hB := p4.below hB (by omega); replace h0 := p4.other h0 (by omega); replace h1 := p4.other h1 (by omega); replace h2 := p4.other h2 (by omega); replace hg := p4.at_; clear p4) | (refine wpList_load_all rfl 28 _ rfl w.heap.size rfl _ _ _ h0 Try.underlying28 rfl 5 (by kernel_rfl) rfl ?_))
  refine (sizesOf_c p n m k _ _).mono ?_
  rintro e w5 ⟨rfl, b1⟩
  replace hg := At.after hg b1
  replace h0 := h0.after b1
  replace h1 := h1.after b1
  replace h2 := h2.after b1
  replace hB := below_after hB b1
  clear b1
  generalize w3.heap.size = gt at *
  have HX : Hid (∀ {o : Oper} {a : Act} {w : World} (x i : Operand), o.op = .index 53 x i → a.eval x = .agg #[.int .i64 n, .int .i64 m, .int .i64 k] → a.eval i = .int .i64 2 → (execOp a.eval o).run Try.prog w = .ok (.value (.int .i64 k)) w) := Lib.hid (fun x i ho hx hi => exec_index_arr3 53 2 x i ho 3 2 _ _ hx hi Try.underlying53 _ Try.underlying2 rfl (by kernel_rfl) (by omega) rfl)
  go_wp2_with (first | (refine wpList_of_exec rfl (HX.out _ _ rfl rfl rfl) ?_) | (refine wpList_store_one rfl 2 _ _ rfl rfl gt 2 rfl (.int .i64 k) rfl rfl rfl _ _ hg (by kernel_rfl) (by simp) ?_; intro W6 p6; replace hB := p6.below hB (by omega); replace h0 := p6.other h0 (by omega); replace h1 := p6.other h1 (by omega); replace h2 := p6.other h2 (by omega); replace hg : At W6 gt (.cells #[.int .i64 n, .int .i64 m, .int .i64 k] 53 (0, 0)) := p6.at_; clear p6))
  clear HX
  go_wp2_with fail
  refine wp_region_held (S := fun w' => At w' w.heap.size (.cells #[.int .i64 p, .int .i64 n, .int .i64 m, .int .i64 k, .slice xA xq.length xc] 28 (0, 0)) ∧ At w' (w.heap.size + 1) (.cells #[.int .i64 p, .int .i64 n, .int .i64 m, .int .i64 k', .slice yA yq.length yc] 28 (0, 0)) ∧ At w' gt (.cells #[.int .i64 n, .int .i64 m, .int .i64 k] 53 (0, 0))) (by kernel_rfl) ?_
  change wpAnyH _ _ _ _ _ _ _ _ (World.drew _)
  generalize hwdb2 : World.drew _ = wdb2
  replace hB : Below w.heap.size w wdb2 := by rw [← hwdb2]; exact hB.drew
  replace h0 : At wdb2 w.heap.size (.cells #[.int .i64 p, .int .i64 n, .int .i64 m, .int .i64 k, .slice xA xq.length xc] 28 (0, 0)) := by rw [← hwdb2]; exact h0
  replace h1 : At wdb2 (w.heap.size + 1) (.cells #[.int .i64 p, .int .i64 n, .int .i64 m, .int .i64 k', .slice yA yq.length yc] 28 (0, 0)) := by rw [← hwdb2]; exact h1
  replace h2 : At wdb2 (w.heap.size + 1 + 1) (.cells #[.int .i64 0, .int .i64 0, .int .i64 0, .int .i64 0, .slice none 0 0] 28 (0, 0)) := by rw [← hwdb2]; exact h2
  replace hg : At wdb2 gt (.cells #[.int .i64 n, .int .i64 m, .int .i64 k] 53 (0, 0)) := by rw [← hwdb2]; exact hg
  clear hwdb2
  refine held_yield 0 (some 28) (.pointer (some ⟨w.heap.size, 0, none⟩)) rfl (by kernel_rfl) (by kernel_rfl) (by kernel_rfl) (fun _ _ _ h => h) rfl rfl ⟨h0, h1, hg⟩ (fun w' h' => exec_fieldAddr 28 _ 0 rfl _ (by kernel_rfl)) ?_
  go_frame
  refine held_yield 1 (some 29) (.int .i64 p) rfl (by kernel_rfl) (by kernel_rfl) (by kernel_rfl) (fun _ _ _ h => h) rfl rfl ⟨h0, h1, hg⟩ (fun w' h' => exec_load_one 2 _ rfl w.heap.size 0 rfl _ _ Try.underlying2 rfl (h'.1.at_ 0)) ?_
  go_frame
  refine held_yield 2 (some 30) (.pointer (some ⟨w.heap.size + 1, 0, none⟩)) rfl (by kernel_rfl) (by kernel_rfl) (by kernel_rfl) (fun _ _ _ h => h) rfl rfl ⟨h0, h1, hg⟩ (fun w' h' => exec_fieldAddr 28 _ 0 rfl _ (by kernel_rfl)) ?_
  go_frame
  refine held_yield 3 (some 31) (.int .i64 p) rfl (by kernel_rfl) (by kernel_rfl) (by kernel_rfl) (fun _ _ _ h => h) rfl rfl ⟨h0, h1, hg⟩ (fun w' h' => exec_load_one 2 _ rfl (w.heap.size + 1) 0 rfl _ _ Try.underlying2 rfl (h'.2.1.at_ 0)) ?_
  go_frame
  refine held_yield 4 (some 32) (.bool false) rfl (by kernel_rfl) (by kernel_rfl) (by kernel_rfl) (fun _ _ _ h => h) rfl rfl ⟨h0, h1, hg⟩ (fun w' h' => exec_neq _ _ _ _ rfl p p rfl rfl false (by simp)) ?_
  go_frame
  refine held_yield 5 (some 33) (.bool false) rfl (by kernel_rfl) (by kernel_rfl) (by kernel_rfl) (fun _ _ _ h => h) rfl rfl ⟨h0, h1, hg⟩ (fun w' h' => exec_move _ rfl (.bool false) rfl) ?_
  go_frame
  refine held_yield_g 6 (some 34) (.agg #[.int .i64 n, .int .i64 m, .int .i64 k]) rfl (by kernel_rfl) (by kernel_rfl) (by kernel_rfl) (fun _ _ _ h => h) rfl rfl ⟨h0, h1, hg⟩ (fun w' h' => exec_load_all 53 _ rfl gt rfl _ _ _ h'.2.2 Try.underlying53 rfl 3 (by kernel_rfl) rfl) ?_
  go_frame
  refine held_yield_g 7 (some 35) (.agg #[.int .i64 p, .int .i64 n, .int .i64 m, .int .i64 k, .slice xA xq.length xc]) rfl (by kernel_rfl) (by kernel_rfl) (by kernel_rfl) (fun _ _ _ h => h) rfl rfl ⟨h0, h1, hg⟩ (fun w' h' => exec_load_all 28 _ rfl w.heap.size rfl _ _ _ h'.1 Try.underlying28 rfl 5 (by kernel_rfl) rfl) ?_
  go_frame
  refine held_oper_g 8 (by kernel_rfl) rfl rfl (fun K' hK' => ?_)
  refine wp_call1 (some 36) rfl 35 _ _ rfl (fun args w => by kernel_rfl) _ rfl _ (sizesOf_c p n m k _ _) (fun e wnb21 h => ?_)
  obtain ⟨rfl, bb22⟩ := h
  replace hB := below_after hB bb22
  replace h0 := h0.after bb22
  replace h1 := h1.after bb22
  replace h2 := h2.after bb22
  replace hg := hg.after bb22
  clear bb22
  refine ⟨_, rfl, hK' _ _ ⟨h0, h1, hg⟩ ?_⟩
  clear hK' K'
  go_frame
  refine held_yield_g 9 (some 37) (.bool false) rfl (by kernel_rfl) (by kernel_rfl) (by kernel_rfl) (fun _ _ _ h => h) rfl rfl ⟨h0, h1, hg⟩ (fun w' h' => exec_neq_sz _ _ _ rfl n m k n m k rfl rfl false (by simp)) ?_
  go_frame
  refine held_yield 10 (some 38) (.bool false) rfl (by kernel_rfl) (by kernel_rfl) (by kernel_rfl) (fun _ _ _ h => h) rfl rfl ⟨h0, h1, hg⟩ (fun w' h' => exec_pick _ _ _ rfl false rfl (.bool false) rfl) ?_
  go_frame
  refine wpAnyH_done (by kernel_rfl) ?_ _
  go_wp2_with fail
  have hBC : BC (fun W => Below w.heap.size w W ∧ At W w.heap.size (.cells #[.int .i64 p, .int .i64 n, .int .i64 m, .int .i64 k, .slice xA xq.length xc] 28 (0, 0)) ∧ At W (w.heap.size + 1) (.cells #[.int .i64 p, .int .i64 n, .int .i64 m, .int .i64 k', .slice yA yq.length yc] 28 (0, 0)) ∧ At W (w.heap.size + 1 + 1) (.cells #[.int .i64 0, .int .i64 0, .int .i64 0, .int .i64 0, .slice none 0 0] 28 (0, 0))) (w.heap.size + 1 + 1 + 1) := ⟨fun h hb => ⟨below_after h.1 hb, h.2.1.after hb, h.2.2.1.after hb, h.2.2.2.after hb⟩, fun h hg hP => ⟨hP.below h.1 (by omega), hP.other h.2.1 (by omega), hP.other h.2.2.1 (by omega), hP.other h.2.2.2 (by omega)⟩, fun h => h.2.2.2.lt⟩
  refine wp_region_inv (by kernel_rfl) (by kernel_rfl) (by kernel_rfl) (RI (fun W => Below w.heap.size w W ∧ At W w.heap.size (.cells #[.int .i64 p, .int .i64 n, .int .i64 m, .int .i64 k, .slice xA xq.length xc] 28 (0, 0)) ∧ At W (w.heap.size + 1) (.cells #[.int .i64 p, .int .i64 n, .int .i64 m, .int .i64 k', .slice yA yq.length yc] 28 (0, 0)) ∧ At W (w.heap.size + 1 + 1) (.cells #[.int .i64 0, .int .i64 0, .int .i64 0, .int .i64 0, .slice none 0 0] 28 (0, 0))) (w.heap.size + 1 + 1 + 1) (valOf [(0, .agg #[.int .i64 p, .int .i64 n, .int .i64 m, .int .i64 k, .slice xA xq.length xc]), (1, .agg #[.int .i64 n, .int .i64 m, .int .i64 k]), (2, .agg #[.int .i64 p, .int .i64 n, .int .i64 m, .int .i64 k', .slice yA yq.length yc]), (3, .agg #[.int .i64 n, .int .i64 m, .int .i64 k']), (4, .int .i64 2), (5, .tuple #[.agg #[.int .i64 n, .int .i64 m, .int .i64 z], .agg #[.int .i64 0, .int .i64 0, .int .i64 k]]), (6, .tuple #[.agg #[.int .i64 n, .int .i64 m, .int .i64 z], .agg #[.int .i64 0, .int .i64 0, .int .i64 k]]), (7, .agg #[.int .i64 n, .int .i64 m, .int .i64 z]), (8, .agg #[.int .i64 0, .int .i64 0, .int .i64 k])]) (alOf [(9, 11, .cells #[.int .i64 0, .int .i64 0, .int .i64 0] 53 (0, 0), .cells #[.int .i64 n, .int .i64 m, .int .i64 z] 53 (0, 0)), (10, 12, .cells #[.int .i64 0, .int .i64 0, .int .i64 0] 53 (0, 0), .cells #[.int .i64 0, .int .i64 0, .int .i64 k] 53 (0, 0))])) (RI.start ?_) 13 rfl ?_ ?_
  case refine_1 => exact ⟨hB.drew, h0, h1, h2⟩
  case refine_2 =>
    refine StepsOK.succ (StepsOK.succ (StepsOK.succ (StepsOK.succ (StepsOK.succ (StepsOK.succ (StepsOK.succ (StepsOK.succ (StepsOK.succ (StepsOK.succ (StepsOK.succ (StepsOK.succ (StepsOK.succ (StepsOK.zero) ?_) ?_) ?_) ?_) ?_) ?_) ?_) ?_) ?_) ?_) ?_) ?_) ?_
    · exact step_pure hBC 0 _ rfl rfl [] (by kernel_rfl) (some 41) rfl (.agg #[.int .i64 p, .int .i64 n, .int .i64 m, .int .i64 k, .slice xA xq.length xc]) rfl rfl (notStore_of rfl) (fun L vals W hd hI => exec_load_all 28 _ rfl w.heap.size (slot_old (by kernel_rfl) rfl) _ _ _ hI.base.2.1 Try.underlying28 rfl 5 (by kernel_rfl) rfl)
    · exact step_call hBC 1 _ rfl rfl [0] (by kernel_rfl) (.agg #[.int .i64 n, .int .i64 m, .int .i64 k]) rfl rfl (notStore_of rfl) (fun L vals W K hd hI hK => wp_call1 (some 42) rfl 35 _ _ rfl (fun args w => by kernel_rfl) _ (hI.slot (by kernel_rfl) (j := 0) (t := 41) (by kernel_rfl) (hd 0 (by simp)) (of_decide_eq_true rfl) (of_decide_eq_true (by kernel_rfl)) rfl) _ (sizesOf_c p n m k _ _) (fun e wn h => by obtain ⟨rfl, b⟩ := h; exact ⟨_, rfl, hK _ b⟩))
    · exact step_pure hBC 2 _ rfl rfl [] (by kernel_rfl) (some 43) rfl (.agg #[.int .i64 p, .int .i64 n, .int .i64 m, .int .i64 k', .slice yA yq.length yc]) rfl rfl (notStore_of rfl) (fun L vals W hd hI => exec_load_all 28 _ rfl (w.heap.size + 1) (slot_old (by kernel_rfl) rfl) _ _ _ hI.base.2.2.1 Try.underlying28 rfl 5 (by kernel_rfl) rfl)
    · exact step_call hBC 3 _ rfl rfl [2, 1] (by kernel_rfl) (.agg #[.int .i64 n, .int .i64 m, .int .i64 k']) rfl rfl (notStore_of rfl) (fun L vals W K hd hI hK => wp_call1 (some 44) rfl 35 _ _ rfl (fun args w => by kernel_rfl) _ (hI.slot (by kernel_rfl) (j := 2) (t := 43) (by kernel_rfl) (hd 2 (by simp)) (of_decide_eq_true rfl) (of_decide_eq_true (by kernel_rfl)) rfl) _ (sizesOf_c p n m k' _ _) (fun e wn h => by obtain ⟨rfl, b⟩ := h; exact ⟨_, rfl, hK _ b⟩))
    · exact step_pure hBC 4 _ rfl rfl [] (by kernel_rfl) (some 45) rfl (.int .i64 2) rfl rfl (notStore_of rfl) (fun L vals W hd hI => exec_move _ rfl (.int .i64 2) (slot_old (by kernel_rfl) rfl))
    · exact step_call hBC 5 _ rfl rfl [1, 3, 4, 3] (by kernel_rfl) (.tuple #[.agg #[.int .i64 n, .int .i64 m, .int .i64 z], .agg #[.int .i64 0, .int .i64 0, .int .i64 k]]) rfl rfl (notStore_of rfl) (fun L vals W K hd hI hK => wp_call3 (some 46) rfl 44 _ _ _ _ rfl (fun args w => by kernel_rfl) _ _ _ (hI.slot (by kernel_rfl) (j := 1) (t := 42) (by kernel_rfl) (hd 1 (by simp)) (of_decide_eq_true rfl) (of_decide_eq_true (by kernel_rfl)) rfl) (hI.slot (by kernel_rfl) (j := 3) (t := 44) (by kernel_rfl) (hd 3 (by simp)) (of_decide_eq_true rfl) (of_decide_eq_true (by kernel_rfl)) rfl) (hI.slot (by kernel_rfl) (j := 4) (t := 45) (by kernel_rfl) (hd 4 (by simp)) (of_decide_eq_true rfl) (of_decide_eq_true (by kernel_rfl)) rfl) _ (joinedSizes_2 n m k n m k' z _ HW.out) (fun e wn h => by obtain ⟨rfl, b⟩ := h; exact ⟨_, rfl, hK _ b⟩))
    · exact step_pure hBC 6 _ rfl rfl [5] (by kernel_rfl) (some 40) rfl (.tuple #[.agg #[.int .i64 n, .int .i64 m, .int .i64 z], .agg #[.int .i64 0, .int .i64 0, .int .i64 k]]) rfl rfl (notStore_of rfl) (fun L vals W hd hI => exec_move _ rfl (.tuple #[.agg #[.int .i64 n, .int .i64 m, .int .i64 z], .agg #[.int .i64 0, .int .i64 0, .int .i64 k]]) (hI.slot (by kernel_rfl) (j := 5) (t := 46) (by kernel_rfl) (hd 5 (by simp)) (of_decide_eq_true rfl) (of_decide_eq_true (by kernel_rfl)) rfl))
    · exact step_pure hBC 7 _ rfl rfl [6] (by kernel_rfl) (some 47) rfl (.agg #[.int .i64 n, .int .i64 m, .int .i64 z]) rfl rfl (notStore_of rfl) (fun L vals W hd hI => exec_extract _ 0 rfl #[.agg #[.int .i64 n, .int .i64 m, .int .i64 z], .agg #[.int .i64 0, .int .i64 0, .int .i64 k]] (hI.slot (by kernel_rfl) (j := 6) (t := 40) (by kernel_rfl) (hd 6 (by simp)) (of_decide_eq_true rfl) (of_decide_eq_true (by kernel_rfl)) rfl) _ rfl)
    · exact step_pure hBC 8 _ rfl rfl [6] (by kernel_rfl) (some 48) rfl (.agg #[.int .i64 0, .int .i64 0, .int .i64 k]) rfl rfl (notStore_of rfl) (fun L vals W hd hI => exec_extract _ 1 rfl #[.agg #[.int .i64 n, .int .i64 m, .int .i64 z], .agg #[.int .i64 0, .int .i64 0, .int .i64 k]] (hI.slot (by kernel_rfl) (j := 6) (t := 40) (by kernel_rfl) (hd 6 (by simp)) (of_decide_eq_true rfl) (of_decide_eq_true (by kernel_rfl)) rfl) _ rfl)
    · exact step_alloc hBC 9 _ rfl rfl [] (by kernel_rfl) 11 (.cells #[.int .i64 0, .int .i64 0, .int .i64 0] 53 (0, 0)) (.cells #[.int .i64 n, .int .i64 m, .int .i64 z] 53 (0, 0)) rfl rfl (by decide) (by kernel_rfl) (notStore_of rfl) (fun a w => exec_alloc_sizes rfl)
    · exact step_alloc hBC 10 _ rfl rfl [] (by kernel_rfl) 12 (.cells #[.int .i64 0, .int .i64 0, .int .i64 0] 53 (0, 0)) (.cells #[.int .i64 0, .int .i64 0, .int .i64 k] 53 (0, 0)) rfl rfl (by decide) (by kernel_rfl) (notStore_of rfl) (fun a w => exec_alloc_sizes rfl)
    · exact step_store hBC 11 _ rfl rfl [9, 7, 5, 0, 1, 2, 3, 4, 5, 6, 7, 9, 10] (by kernel_rfl) rfl 9 (by simp) (.cells #[.int .i64 0, .int .i64 0, .int .i64 0] 53 (0, 0)) (.cells #[.int .i64 n, .int .i64 m, .int .i64 z] 53 (0, 0)) rfl rfl rfl (uniq_of rfl) (fun L vals W b K hd hI hb hAt hK => wp_store_all 53 _ _ rfl rfl b (slot_al (by kernel_rfl) (j := 9) (t := 9) (by kernel_rfl) (hd 9 (by simp)) (of_decide_eq_true rfl) (of_decide_eq_true (by kernel_rfl)) hb) _ (hI.slot (by kernel_rfl) (j := 7) (t := 47) (by kernel_rfl) (hd 7 (by simp)) (of_decide_eq_true rfl) (of_decide_eq_true (by kernel_rfl)) rfl) _ _ hAt 3 (by kernel_rfl) rfl rfl (one3 _ _ _) hK)
    · exact step_store hBC 12 _ rfl rfl [10, 8, 11, 0, 1, 2, 3, 4, 5, 6, 7, 8, 9, 10, 11] (by kernel_rfl) rfl 10 (by simp) (.cells #[.int .i64 0, .int .i64 0, .int .i64 0] 53 (0, 0)) (.cells #[.int .i64 0, .int .i64 0, .int .i64 k] 53 (0, 0)) rfl rfl rfl (uniq_of rfl) (fun L vals W b K hd hI hb hAt hK => wp_store_all 53 _ _ rfl rfl b (slot_al (by kernel_rfl) (j := 10) (t := 10) (by kernel_rfl) (hd 10 (by simp)) (of_decide_eq_true rfl) (of_decide_eq_true (by kernel_rfl)) hb) _ (hI.slot (by kernel_rfl) (j := 8) (t := 48) (by kernel_rfl) (hd 8 (by simp)) (of_decide_eq_true rfl) (of_decide_eq_true (by kernel_rfl)) rfl) _ _ hAt 3 (by kernel_rfl) rfl rfl (one3 _ _ _) hK)
  case refine_3 =>
  intro L vals wz hall hI
  obtain ⟨b9, e9, l9, h9⟩ := hI.blk 9 _ _ _ (hall 9 (by omega)) rfl
  rw [if_pos (hall 11 (by omega))] at h9
  obtain ⟨b10, e10, l10, h10⟩ := hI.blk 10 _ _ _ (hall 10 (by omega)) rfl
  rw [if_pos (hall 12 (by omega))] at h10
  have n9_10 : b9 ≠ b10 := fun e => hI.dis 9 10 _ _ _ _ _ _ (by omega) (hall 9 (by omega)) (hall 10 (by omega)) rfl rfl (by rw [e9, e10, e])
  rw [putAll_step (n := 12) rfl (hall 12 (by omega)) (d := none) rfl rfl, putAll_step (n := 11) rfl (hall 11 (by omega)) (d := none) rfl rfl, putAll_step (n := 10) rfl (hall 10 (by omega)) (d := (some 10)) rfl e10, putAll_step (n := 9) rfl (hall 9 (by omega)) (d := (some 9)) rfl e9, putAll_step (n := 8) rfl (hall 8 (by omega)) (d := (some 48)) rfl (hI.val_ 8 _ (hall 8 (by omega)) rfl), putAll_step (n := 7) rfl (hall 7 (by omega)) (d := (some 47)) rfl (hI.val_ 7 _ (hall 7 (by omega)) rfl), putAll_step (n := 6) rfl (hall 6 (by omega)) (d := (some 40)) rfl (hI.val_ 6 _ (hall 6 (by omega)) rfl), putAll_step (n := 5) rfl (hall 5 (by omega)) (d := (some 46)) rfl (hI.val_ 5 _ (hall 5 (by omega)) rfl), putAll_step (n := 4) rfl (hall 4 (by omega)) (d := (some 45)) rfl (hI.val_ 4 _ (hall 4 (by omega)) rfl), putAll_step (n := 3) rfl (hall 3 (by omega)) (d := (some 44)) rfl (hI.val_ 3 _ (hall 3 (by omega)) rfl), putAll_step (n := 2) rfl (hall 2 (by omega)) (d := (some 43)) rfl (hI.val_ 2 _ (hall 2 (by omega)) rfl), putAll_step (n := 1) rfl (hall 1 (by omega)) (d := (some 42)) rfl (hI.val_ 1 _ (hall 1 (by omega)) rfl), putAll_step (n := 0) rfl (hall 0 (by omega)) (d := (some 41)) rfl (hI.val_ 0 _ (hall 0 (by omega)) rfl), putAll_zero]
  have hbase := hI.base
  clear hI hall hBC e9 e10
  go_frame
  obtain ⟨hB, h0, h1, h2⟩ := hbase
  have k9 : World.cell? wz ⟨b9, 2, none⟩ = some (.int .i64 z) := h9.at_ 2
  have x4 : World.cell? wz ⟨w.heap.size, 4, none⟩ = some (.slice xA xq.length xc) := h0.at_ 4
  have y4 : World.cell? wz ⟨w.heap.size + 1, 4, none⟩ = some (.slice yA yq.length yc) := h1.at_ 4
  clear h3
  go_upto_region 9 with (fail)
  go_wp2_with (first | (refine wpList_store_all rfl 28 _ _ rfl rfl (w.heap.size + 1 + 1) rfl _ rfl _ _ h2 5 (by kernel_rfl) rfl rfl (by simp [Value.oneCell']) ?_; intro W2 p2))
  refine bodyPost_ret (results_at2 rfl _ _ (w.heap.size + 1 + 1) _ _ _ rfl _ rfl p2.at_ Try.underlying28 rfl 5 (by kernel_rfl) rfl) rfl ?_
  exact ⟨.slice none 0 0, by rw [Hz.out, Hz.out, Hz.out, Hz.out, Hc.out]; rfl, by rw [Hr.out]; exact Own.nil _ _, p2.below hB (by omega)⟩
set_option maxHeartbeats 2000000 in
theorem join_2g (p n m k : Int) (xA : Option Addr) (xc : Nat) (xq : List (List Nat)) (p' n' m' k' : Int) (yA : Option Addr) (yc : Nat) (yq : List (List Nat)) (w : World) (hrx : Rd w xA xq) (hry : Rd w yA yq) (hlx : xq.length ≤ 1048576) (hly : yq.length ≤ 1048576) (hs : schemeB p n m k xq = true) (ht : schemeB p' n' m' k' yq = true) (hp : p = p') (ho1 : n = n') (ho2 : m = m') (h3 : k + k' ≤ 3) (h30 : ¬ xq.length + yq.length ≤ 30) :
    Calls Try.prog 26 #[.agg #[.int .i64 p, .int .i64 n, .int .i64 m, .int .i64 k, .slice xA xq.length xc], .agg #[.int .i64 p', .int .i64 n', .int .i64 m', .int .i64 k', .slice yA yq.length yc], .int .i64 2] w (ResS w (joZ2 p n m k xq p' n' m' k' yq p) (joZ2 p n m k xq p' n' m' k' yq n) (joZ2 p n m k xq p' n' m' k' yq m) (joZ2 p n m k xq p' n' m' k' yq (k + k')) (joR2 p n m k xq p' n' m' k' yq) (joCode2 p n m k xq p' n' m' k' yq)) := by
  have HIx := Lib.hid (fun w hr => implIsScheme_c p n m k xA xc xq w hr hlx)
  have HIy := Lib.hid (fun w hr => implIsScheme_c p' n' m' k' yA yc yq w hr hly)
  have Hs := Lib.hid hs
  have Ht := Lib.hid ht
  have hx30 := schemeB_len hs
  have hy30 := schemeB_len ht
  have hz1 := sizesB_parts (schemeB_sizes hs)
  have hz2 := sizesB_parts (schemeB_sizes ht)
  subst hp
  subst ho1
  subst ho2
  simp only [sizeB, Bool.and_eq_true, decide_eq_true_eq] at hz1 hz2
  obtain ⟨z, hsz0⟩ : ∃ z, z = k + k' := ⟨_, rfl⟩
  have hw0 : IntKind.i64.wrap (k + k') = z := by rw [hsz0]; exact IntWalk.i64_in _ (by omega)
  have HW := Lib.hid hw0
  clear hw0
  obtain ⟨zl, hsl⟩ : ∃ z : Int, z = (xq.length : Int) + (yq.length : Int) := ⟨_, rfl⟩
  have hwl : IntKind.i64.wrap ((xq.length : Int) + (yq.length : Int)) = zl := by rw [hsl]; exact IntWalk.i64_in _ (by omega)
  have d3 : decide (3 < z) = false := by simp; omega
  have d30 : decide (30 < zl) = true := by simp; omega
  have Hc : Hid (joCode2 p n m k xq p n m k' yq = 3) := Lib.hid (by unfold joCode2; simp [hs, ht, h3, h30])
  have Hz : Hid (∀ x, joZ2 p n m k xq p n m k' yq x = 0) := Lib.hid (fun x => by simp [joZ2, Hc.out])
  have Hr : Hid (joR2 p n m k xq p n m k' yq = []) := Lib.hid (by simp [joR2, Hc.out])
  clear hs ht hsz0 hsl hz1 hz2
  go_enter Try.func26, Try.ntmps26
  go_wp2_with (first | (refine wpList_abs3 ?_; intro W hsz hB h0 h1 h2) | (refine wpList_load_all rfl 28 _ rfl w.heap.size rfl _ _ _ h0 Try.underlying28 rfl 5 (by kernel_rfl) rfl ?_))
  refine (HIx.out _ (hrx.keep hB)).mono ?_
  rintro e w1 ⟨rfl, b1⟩
  rw [Hs.out]
  replace h0 := h0.after b1
  replace h1 := h1.after b1
  replace h2 := h2.after b1
  replace hB := below_after hB b1
  clear b1 hsz
  go_wp2_with (refine wpList_want_exec rfl (exec_load_all 28 _ rfl (w.heap.size + 1) rfl _ _ _ h1 Try.underlying28 rfl 5 (by kernel_rfl) rfl) ?_)
  refine (HIy.out _ (hry.keep hB)).mono ?_
  rintro e w2 ⟨rfl, b1⟩
  rw [Ht.out]
  replace h0 := h0.after b1
  replace h1 := h1.after b1
  replace h2 := h2.after b1
  replace hB := below_after hB b1
  clear b1
  go_wp2_with (refine wpList_load_all rfl 28 _ rfl (w.heap.size + 1) rfl _ _ _ h1 Try.underlying28 rfl 5 (by kernel_rfl) rfl ?_)
  refine (sizesOf_c p n m k' _ _).mono ?_
  rintro e w3 ⟨rfl, b1⟩
  replace h0 := h0.after b1
  replace h1 := h1.after b1
  replace h2 := h2.after b1
  replace hB := below_after hB b1
  clear b1
  have bx := below1 w3 (.cells #[.int .i64 0, .int .i64 0, .int .i64 0] 53 (0, 0))
  have hg : At (w3.alloc (.cells #[.int .i64 0, .int .i64 0, .int .i64 0] 53 (0, 0))) w3.heap.size (.cells #[.int .i64 0, .int .i64 0, .int .i64 0] 53 (0, 0)) := al1_0 _ _
  have l2 := h2.lt
  replace h0 := h0.after bx
  replace h1 := h1.after bx
  replace h2 := h2.after bx
  replace hB := below_after hB bx
  clear bx
  go_wp2_with (first | (refine wpList_store_all rfl 53 _ _ rfl rfl w3.heap.size rfl _ rfl _ _ hg 3 (by kernel_rfl) rfl rfl (one3 _ _ _) ?_; intro W4 p4; replace hB := p4.below hB (by omega); replace h0 := p4.other h0 (by omega); replace h1 := p4.other h1 (by omega); replace h2 := p4.other h2 (by omega); replace hg := p4.at_; clear p4) | (refine wpList_load_all rfl 28 _ rfl w.heap.size rfl _ _ _ h0 Try.underlying28 rfl 5 (by kernel_rfl) rfl ?_))
  refine (sizesOf_c p n m k _ _).mono ?_
  rintro e w5 ⟨rfl, b1⟩
  replace hg := At.after hg b1
  replace h0 := h0.after b1
  replace h1 := h1.after b1
  replace h2 := h2.after b1
  replace hB := below_after hB b1
  clear b1
  generalize w3.heap.size = gt at *
  have HX : Hid (∀ {o : Oper} {a : Act} {w : World} (x i : Operand), o.op = .index 53 x i → a.eval x = .agg #[.int .i64 n, .int .i64 m, .int .i64 k] → a.eval i = .int .i64 2 → (execOp a.eval o).run Try.prog w = .ok (.value (.int .i64 k)) w) := Lib.hid (fun x i ho hx hi => exec_index_arr3 53 2 x i ho 3 2 _ _ hx hi Try.underlying53 _ Try.underlying2 rfl (by kernel_rfl) (by omega) rfl)
  go_wp2_with (first | (refine wpList_of_exec rfl (HX.out _ _ rfl rfl rfl) ?_) | (refine wpList_store_one rfl 2 _ _ rfl rfl gt 2 rfl (.int .i64 k) rfl rfl rfl _ _ hg (by kernel_rfl) (by simp) ?_; intro W6 p6; replace hB := p6.below hB (by omega); replace h0 := p6.other h0 (by omega); replace h1 := p6.other h1 (by omega); replace h2 := p6.other h2 (by omega); replace hg : At W6 gt (.cells #[.int .i64 n, .int .i64 m, .int .i64 k] 53 (0, 0)) := p6.at_; clear p6))
  clear HX
  go_wp2_with fail
  refine wp_region_held (S := fun w' => At w' w.heap.size (.cells #[.int .i64 p, .int .i64 n, .int .i64 m, .int .i64 k, .slice xA xq.length xc] 28 (0, 0)) ∧ At w' (w.heap.size + 1) (.cells #[.int .i64 p, .int .i64 n, .int .i64 m, .int .i64 k', .slice yA yq.length yc] 28 (0, 0)) ∧ At w' gt (.cells #[.int .i64 n, .int .i64 m, .int .i64 k] 53 (0, 0))) (by kernel_rfl) ?_
  change wpAnyH _ _ _ _ _ _ _ _ (World.drew _)
  generalize hwdb2 : World.drew _ = wdb2
  replace hB : Below w.heap.size w wdb2 := by rw [← hwdb2]; exact hB.drew
  replace h0 : At wdb2 w.heap.size (.cells #[.int .i64 p, .int .i64 n, .int .i64 m, .int .i64 k, .slice xA xq.length xc] 28 (0, 0)) := by rw [← hwdb2]; exact h0
  replace h1 : At wdb2 (w.heap.size + 1) (.cells #[.int .i64 p, .int .i64 n, .int .i64 m, .int .i64 k', .slice yA yq.length yc] 28 (0, 0)) := by rw [← hwdb2]; exact h1
  replace h2 : At wdb2 (w.heap.size + 1 + 1) (.cells #[.int .i64 0, .int .i64 0, .int .i64 0, .int .i64 0, .slice none 0 0] 28 (0, 0)) := by rw [← hwdb2]; exact h2
  replace hg : At wdb2 gt (.cells #[.int .i64 n, .int .i64 m, .int .i64 k] 53 (0, 0)) := by rw [← hwdb2]; exact hg
  clear hwdb2
  refine held_yield 0 (some 28) (.pointer (some ⟨w.heap.size, 0, none⟩)) rfl (by kernel_rfl) (by kernel_rfl) (by kernel_rfl) (fun _ _ _ h => h) rfl rfl ⟨h0, h1, hg⟩ (fun w' h' => exec_fieldAddr 28 _ 0 rfl _ (by kernel_rfl)) ?_
  go_frame
  refine held_yield 1 (some 29) (.int .i64 p) rfl (by kernel_rfl) (by kernel_rfl) (by kernel_rfl) (fun _ _ _ h => h) rfl rfl ⟨h0, h1, hg⟩ (fun w' h' => exec_load_one 2 _ rfl w.heap.size 0 rfl _ _ Try.underlying2 rfl (h'.1.at_ 0)) ?_
  go_frame
  refine held_yield 2 (some 30) (.pointer (some ⟨w.heap.size + 1, 0, none⟩)) rfl (by kernel_rfl) (by kernel_rfl) (by kernel_rfl) (fun _ _ _ h => h) rfl rfl ⟨h0, h1, hg⟩ (fun w' h' => exec_fieldAddr 28 _ 0 rfl _ (by kernel_rfl)) ?_
  go_frame
  refine held_yield 3 (some 31) (.int .i64 p) rfl (by kernel_rfl) (by kernel_rfl) (by kernel_rfl) (fun _ _ _ h => h) rfl rfl ⟨h0, h1, hg⟩ (fun w' h' => exec_load_one 2 _ rfl (w.heap.size + 1) 0 rfl _ _ Try.underlying2 rfl (h'.2.1.at_ 0)) ?_
  go_frame
  refine held_yield 4 (some 32) (.bool false) rfl (by kernel_rfl) (by kernel_rfl) (by kernel_rfl) (fun _ _ _ h => h) rfl rfl ⟨h0, h1, hg⟩ (fun w' h' => exec_neq _ _ _ _ rfl p p rfl rfl false (by simp)) ?_
  go_frame
  refine held_yield 5 (some 33) (.bool false) rfl (by kernel_rfl) (by kernel_rfl) (by kernel_rfl) (fun _ _ _ h => h) rfl rfl ⟨h0, h1, hg⟩ (fun w' h' => exec_move _ rfl (.bool false) rfl) ?_
  go_frame
  refine held_yield_g 6 (some 34) (.agg #[.int .i64 n, .int .i64 m, .int .i64 k]) rfl (by kernel_rfl) (by kernel_rfl) (by kernel_rfl) (fun _ _ _ h => h) rfl rfl ⟨h0, h1, hg⟩ (fun w' h' => exec_load_all 53 _ rfl gt rfl _ _ _ h'.2.2 Try.underlying53 rfl 3 (by kernel_rfl) rfl) ?_
  go_frame
  refine held_yield_g 7 (some 35) (.agg #[.int .i64 p, .int .i64 n, .int .i64 m, .int .i64 k, .slice xA xq.length xc]) rfl (by kernel_rfl) (by kernel_rfl) (by kernel_rfl) (fun _ _ _ h => h) rfl rfl ⟨h0, h1, hg⟩ (fun w' h' => exec_load_all 28 _ rfl w.heap.size rfl _ _ _ h'.1 Try.underlying28 rfl 5 (by kernel_rfl) rfl) ?_
  go_frame
  refine held_oper_g 8 (by kernel_rfl) rfl rfl (fun K' hK' => ?_)
  refine wp_call1 (some 36) rfl 35 _ _ rfl (fun args w => by kernel_rfl) _ rfl _ (sizesOf_c p n m k _ _) (fun e wnb21 h => ?_)
  obtain ⟨rfl, bb22⟩ := h
  replace hB := below_after hB bb22
  replace h0 := h0.after bb22
  replace h1 := h1.after bb22
  replace h2 := h2.after bb22
  replace hg := hg.after bb22
  clear bb22
  refine ⟨_, rfl, hK' _ _ ⟨h0, h1, hg⟩ ?_⟩
  clear hK' K'
  go_frame
  refine held_yield_g 9 (some 37) (.bool false) rfl (by kernel_rfl) (by kernel_rfl) (by kernel_rfl) (fun _ _ _ h => h) rfl rfl ⟨h0, h1, hg⟩ (fun w' h' => exec_neq_sz _ _ _ rfl n m k n m k rfl rfl false (by simp)) ?_
  go_frame
  refine held_yield 10 (some 38) (.bool false) rfl (by kernel_rfl) (by kernel_rfl) (by kernel_rfl) (fun _ _ _ h => h) rfl rfl ⟨h0, h1, hg⟩ (fun w' h' => exec_pick _ _ _ rfl false rfl (.bool false) rfl) ?_
  go_frame
  refine wpAnyH_done (by kernel_rfl) ?_ _
  go_wp2_with fail
  have hBC : BC (fun W => Below w.heap.size w W ∧ At W w.heap.size (.cells #[.int .i64 p, .int .i64 n, .int .i64 m, .int .i64 k, .slice xA xq.length xc] 28 (0, 0)) ∧ At W (w.heap.size + 1) (.cells #[.int .i64 p, .int .i64 n, .int .i64 m, .int .i64 k', .slice yA yq.length yc] 28 (0, 0)) ∧ At W (w.heap.size + 1 + 1) (.cells #[.int .i64 0, .int .i64 0, .int .i64 0, .int .i64 0, .slice none 0 0] 28 (0, 0))) (w.heap.size + 1 + 1 + 1) := ⟨fun h hb => ⟨below_after h.1 hb, h.2.1.after hb, h.2.2.1.after hb, h.2.2.2.after hb⟩, fun h hg hP => ⟨hP.below h.1 (by omega), hP.other h.2.1 (by omega), hP.other h.2.2.1 (by omega), hP.other h.2.2.2 (by omega)⟩, fun h => h.2.2.2.lt⟩
  refine wp_region_inv (by kernel_rfl) (by kernel_rfl) (by kernel_rfl) (RI (fun W => Below w.heap.size w W ∧ At W w.heap.size (.cells #[.int .i64 p, .int .i64 n, .int .i64 m, .int .i64 k, .slice xA xq.length xc] 28 (0, 0)) ∧ At W (w.heap.size + 1) (.cells #[.int .i64 p, .int .i64 n, .int .i64 m, .int .i64 k', .slice yA yq.length yc] 28 (0, 0)) ∧ At W (w.heap.size + 1 + 1) (.cells #[.int .i64 0, .int .i64 0, .int .i64 0, .int .i64 0, .slice none 0 0] 28 (0, 0))) (w.heap.size + 1 + 1 + 1) (valOf [(0, .agg #[.int .i64 p, .int .i64 n, .int .i64 m, .int .i64 k, .slice xA xq.length xc]), (1, .agg #[.int .i64 n, .int .i64 m, .int .i64 k]), (2, .agg #[.int .i64 p, .int .i64 n, .int .i64 m, .int .i64 k', .slice yA yq.length yc]), (3, .agg #[.int .i64 n, .int .i64 m, .int .i64 k']), (4, .int .i64 2), (5, .tuple #[.agg #[.int .i64 n, .int .i64 m, .int .i64 z], .agg #[.int .i64 0, .int .i64 0, .int .i64 k]]), (6, .tuple #[.agg #[.int .i64 n, .int .i64 m, .int .i64 z], .agg #[.int .i64 0, .int .i64 0, .int .i64 k]]), (7, .agg #[.int .i64 n, .int .i64 m, .int .i64 z]), (8, .agg #[.int .i64 0, .int .i64 0, .int .i64 k])]) (alOf [(9, 11, .cells #[.int .i64 0, .int .i64 0, .int .i64 0] 53 (0, 0), .cells #[.int .i64 n, .int .i64 m, .int .i64 z] 53 (0, 0)), (10, 12, .cells #[.int .i64 0, .int .i64 0, .int .i64 0] 53 (0, 0), .cells #[.int .i64 0, .int .i64 0, .int .i64 k] 53 (0, 0))])) (RI.start ?_) 13 rfl ?_ ?_
  case refine_1 => exact ⟨hB.drew, h0, h1, h2⟩
  case refine_2 =>
    refine StepsOK.succ (StepsOK.succ (StepsOK.succ (StepsOK.succ (StepsOK.succ (StepsOK.succ (StepsOK.succ (StepsOK.succ (StepsOK.succ (StepsOK.succ (StepsOK.succ (StepsOK.succ (StepsOK.succ (StepsOK.zero) ?_) ?_) ?_) ?_) ?_) ?_) ?_) ?_) ?_) ?_) ?_) ?_) ?_
    · exact step_pure hBC 0 _ rfl rfl [] (by kernel_rfl) (some 41) rfl (.agg #[.int .i64 p, .int .i64 n, .int .i64 m, .int .i64 k, .slice xA xq.length xc]) rfl rfl (notStore_of rfl) (fun L vals W hd hI => exec_load_all 28 _ rfl w.heap.size (slot_old (by kernel_rfl) rfl) _ _ _ hI.base.2.1 Try.underlying28 rfl 5 (by kernel_rfl) rfl)
    · exact step_call hBC 1 _ rfl rfl [0] (by kernel_rfl) (.agg #[.int .i64 n, .int .i64 m, .int .i64 k]) rfl rfl (notStore_of rfl) (fun L vals W K hd hI hK => wp_call1 (some 42) rfl 35 _ _ rfl (fun args w => by kernel_rfl) _ (hI.slot (by kernel_rfl) (j := 0) (t := 41) (by kernel_rfl) (hd 0 (by simp)) (of_decide_eq_true rfl) (of_decide_eq_true (by kernel_rfl)) rfl) _ (sizesOf_c p n m k _ _) (fun e wn h => by obtain ⟨rfl, b⟩ := h; exact ⟨_, rfl, hK _ b⟩))
    · exact step_pure hBC 2 _ rfl rfl [] (by kernel_rfl) (some 43) rfl (.agg #[.int .i64 p, .int .i64 n, .int .i64 m, .int .i64 k', .slice yA yq.length yc]) rfl rfl (notStore_of rfl) (fun L vals W hd hI => exec_load_all 28 _ rfl (w.heap.size + 1) (slot_old (by kernel_rfl) rfl) _ _ _ hI.base.2.2.1 Try.underlying28 rfl 5 (by kernel_rfl) rfl)
    · exact step_call hBC 3 _ rfl rfl [2, 1] (by kernel_rfl) (.agg #[.int .i64 n, .int .i64 m, .int .i64 k']) rfl rfl (notStore_of rfl) (fun L vals W K hd hI hK => wp_call1 (some 44) rfl 35 _ _ rfl (fun args w => by kernel_rfl) _ (hI.slot (by kernel_rfl) (j := 2) (t := 43) (by kernel_rfl) (hd 2 (by simp)) (of_decide_eq_true rfl) (of_decide_eq_true (by kernel_rfl)) rfl) _ (sizesOf_c p n m k' _ _) (fun e wn h => by obtain ⟨rfl, b⟩ := h; exact ⟨_, rfl, hK _ b⟩))
    · exact step_pure hBC 4 _ rfl rfl [] (by kernel_rfl) (some 45) rfl (.int .i64 2) rfl rfl (notStore_of rfl) (fun L vals W hd hI => exec_move _ rfl (.int .i64 2) (slot_old (by kernel_rfl) rfl))
    · exact step_call hBC 5 _ rfl rfl [1, 3, 4, 3] (by kernel_rfl) (.tuple #[.agg #[.int .i64 n, .int .i64 m, .int .i64 z], .agg #[.int .i64 0, .int .i64 0, .int .i64 k]]) rfl rfl (notStore_of rfl) (fun L vals W K hd hI hK => wp_call3 (some 46) rfl 44 _ _ _ _ rfl (fun args w => by kernel_rfl) _ _ _ (hI.slot (by kernel_rfl) (j := 1) (t := 42) (by kernel_rfl) (hd 1 (by simp)) (of_decide_eq_true rfl) (of_decide_eq_true (by kernel_rfl)) rfl) (hI.slot (by kernel_rfl) (j := 3) (t := 44) (by kernel_rfl) (hd 3 (by simp)) (of_decide_eq_true rfl) (of_decide_eq_true (by kernel_rfl)) rfl) (hI.slot (by kernel_rfl) (j := 4) (t := 45) (by kernel_rfl) (hd 4 (by simp)) (of_decide_eq_true rfl) (of_decide_eq_true (by kernel_rfl)) rfl) _ (joinedSizes_2 n m k n m k' z _ HW.out) (fun e wn h => by obtain ⟨rfl, b⟩ := h; exact ⟨_, rfl, hK _ b⟩))
    · exact step_pure hBC 6 _ rfl rfl [5] (by kernel_rfl) (some 40) rfl (.tuple #[.agg #[.int .i64 n, .int .i64 m, .int .i64 z], .agg #[.int .i64 0, .int .i64 0, .int .i64 k]]) rfl rfl (notStore_of rfl) (fun L vals W hd hI => exec_move _ rfl (.tuple #[.agg #[.int .i64 n, .int .i64 m, .int .i64 z], .agg #[.int .i64 0, .int .i64 0, .int .i64 k]]) (hI.slot (by kernel_rfl) (j := 5) (t := 46) (by kernel_rfl) (hd 5 (by simp)) (of_decide_eq_true rfl) (of_decide_eq_true (by kernel_rfl)) rfl))
    · exact step_pure hBC 7 _ rfl rfl [6] (by kernel_rfl) (some 47) rfl (.agg #[.int .i64 n, .int .i64 m, .int .i64 z]) rfl rfl (notStore_of rfl) (fun L vals W hd hI => exec_extract _ 0 rfl #[.agg #[.int .i64 n, .int .i64 m, .int .i64 z], .agg #[.int .i64 0, .int .i64 0, .int .i64 k]] (hI.slot (by kernel_rfl) (j := 6) (t := 40) (by kernel_rfl) (hd 6 (by simp)) (of_decide_eq_true rfl) (of_decide_eq_true (by kernel_rfl)) rfl) _ rfl)
    · exact step_pure hBC 8 _ rfl rfl [6] (by kernel_rfl) (some 48) rfl (.agg #[.int .i64 0, .int .i64 0, .int .i64 k]) rfl rfl (notStore_of rfl) (fun L vals W hd hI => exec_extract _ 1 rfl #[.agg #[.int .i64 n, .int .i64 m, .int .i64 z], .agg #[.int .i64 0, .int .i64 0, .int .i64 k]] (hI.slot (by kernel_rfl) (j := 6) (t := 40) (by kernel_rfl) (hd 6 (by simp)) (of_decide_eq_true rfl) (of_decide_eq_true (by kernel_rfl)) rfl) _ rfl)
    · exact step_alloc hBC 9 _ rfl rfl [] (by kernel_rfl) 11 (.cells #[.int .i64 0, .int .i64 0, .int .i64 0] 53 (0, 0)) (.cells #[.int .i64 n, .int .i64 m, .int .i64 z] 53 (0, 0)) rfl rfl (by decide) (by kernel_rfl) (notStore_of rfl) (fun a w => exec_alloc_sizes rfl)
    · exact step_alloc hBC 10 _ rfl rfl [] (by kernel_rfl) 12 (.cells #[.int .i64 0, .int .i64 0, .int .i64 0] 53 (0, 0)) (.cells #[.int .i64 0, .int .i64 0, .int .i64 k] 53 (0, 0)) rfl rfl (by decide) (by kernel_rfl) (notStore_of rfl) (fun a w => exec_alloc_sizes rfl)
    · exact step_store hBC 11 _ rfl rfl [9, 7, 5, 0, 1, 2, 3, 4, 5, 6, 7, 9, 10] (by kernel_rfl) rfl 9 (by simp) (.cells #[.int .i64 0, .int .i64 0, .int .i64 0] 53 (0, 0)) (.cells #[.int .i64 n, .int .i64 m, .int .i64 z] 53 (0, 0)) rfl rfl rfl (uniq_of rfl) (fun L vals W b K hd hI hb hAt hK => wp_store_all 53 _ _ rfl rfl b (slot_al (by kernel_rfl) (j := 9) (t := 9) (by kernel_rfl) (hd 9 (by simp)) (of_decide_eq_true rfl) (of_decide_eq_true (by kernel_rfl)) hb) _ (hI.slot (by kernel_rfl) (j := 7) (t := 47) (by kernel_rfl) (hd 7 (by simp)) (of_decide_eq_true rfl) (of_decide_eq_true (by kernel_rfl)) rfl) _ _ hAt 3 (by kernel_rfl) rfl rfl (one3 _ _ _) hK)
    · exact step_store hBC 12 _ rfl rfl [10, 8, 11, 0, 1, 2, 3, 4, 5, 6, 7, 8, 9, 10, 11] (by kernel_rfl) rfl 10 (by simp) (.cells #[.int .i64 0, .int .i64 0, .int .i64 0] 53 (0, 0)) (.cells #[.int .i64 0, .int .i64 0, .int .i64 k] 53 (0, 0)) rfl rfl rfl (uniq_of rfl) (fun L vals W b K hd hI hb hAt hK => wp_store_all 53 _ _ rfl rfl b (slot_al (by kernel_rfl) (j := 10) (t := 10) (by kernel_rfl) (hd 10 (by simp)) (of_decide_eq_true rfl) (of_decide_eq_true (by kernel_rfl)) hb) _ (hI.slot (by kernel_rfl) (j := 8) (t := 48) (by kernel_rfl) (hd 8 (by simp)) (of_decide_eq_true rfl) (of_decide_eq_true (by kernel_rfl)) rfl) _ _ hAt 3 (by kernel_rfl) rfl rfl (one3 _ _ _) hK)
  case refine_3 =>
  intro L vals wz hall hI
  obtain ⟨b9, e9, l9, h9⟩ := hI.blk 9 _ _ _ (hall 9 (by omega)) rfl
  rw [if_pos (hall 11 (by omega))] at h9
  obtain ⟨b10, e10, l10, h10⟩ := hI.blk 10 _ _ _ (hall 10 (by omega)) rfl
  rw [if_pos (hall 12 (by omega))] at h10
  have n9_10 : b9 ≠ b10 := fun e => hI.dis 9 10 _ _ _ _ _ _ (by omega) (hall 9 (by omega)) (hall 10 (by omega)) rfl rfl (by rw [e9, e10, e])
  rw [putAll_step (n := 12) rfl (hall 12 (by omega)) (d := none) rfl rfl, putAll_step (n := 11) rfl (hall 11 (by omega)) (d := none) rfl rfl, putAll_step (n := 10) rfl (hall 10 (by omega)) (d := (some 10)) rfl e10, putAll_step (n := 9) rfl (hall 9 (by omega)) (d := (some 9)) rfl e9, putAll_step (n := 8) rfl (hall 8 (by omega)) (d := (some 48)) rfl (hI.val_ 8 _ (hall 8 (by omega)) rfl), putAll_step (n := 7) rfl (hall 7 (by omega)) (d := (some 47)) rfl (hI.val_ 7 _ (hall 7 (by omega)) rfl), putAll_step (n := 6) rfl (hall 6 (by omega)) (d := (some 40)) rfl (hI.val_ 6 _ (hall 6 (by omega)) rfl), putAll_step (n := 5) rfl (hall 5 (by omega)) (d := (some 46)) rfl (hI.val_ 5 _ (hall 5 (by omega)) rfl), putAll_step (n := 4) rfl (hall 4 (by omega)) (d := (some 45)) rfl (hI.val_ 4 _ (hall 4 (by omega)) rfl), putAll_step (n := 3) rfl (hall 3 (by omega)) (d := (some 44)) rfl (hI.val_ 3 _ (hall 3 (by omega)) rfl), putAll_step (n := 2) rfl (hall 2 (by omega)) (d := (some 43)) rfl (hI.val_ 2 _ (hall 2 (by omega)) rfl), putAll_step (n := 1) rfl (hall 1 (by omega)) (d := (some 42)) rfl (hI.val_ 1 _ (hall 1 (by omega)) rfl), putAll_step (n := 0) rfl (hall 0 (by omega)) (d := (some 41)) rfl (hI.val_ 0 _ (hall 0 (by omega)) rfl), putAll_zero]
  have hbase := hI.base
  clear hI hall hBC e9 e10
  go_frame
  obtain ⟨hB, h0, h1, h2⟩ := hbase
  have k9 : World.cell? wz ⟨b9, 2, none⟩ = some (.int .i64 z) := h9.at_ 2
  have x4 : World.cell? wz ⟨w.heap.size, 4, none⟩ = some (.slice xA xq.length xc) := h0.at_ 4
  have y4 : World.cell? wz ⟨w.heap.size + 1, 4, none⟩ = some (.slice yA yq.length yc) := h1.at_ 4
  clear h3 h30
  go_upto_region 9 with (fail)
  go_wp2_with (first | (refine wpList_load_all rfl 28 _ rfl w.heap.size rfl _ _ _ h0 Try.underlying28 rfl 5 (by kernel_rfl) rfl ?_) | (refine wpList_store_all rfl 28 _ _ rfl rfl (w.heap.size + 1 + 1) rfl _ rfl _ _ h2 5 (by kernel_rfl) rfl rfl (by simp [Value.oneCell']) ?_; intro W2 p2))
  refine bodyPost_ret (results_at2 rfl _ _ (w.heap.size + 1 + 1) _ _ _ rfl _ rfl p2.at_ Try.underlying28 rfl 5 (by kernel_rfl) rfl) rfl ?_
  exact ⟨.slice none 0 0, by rw [Hz.out, Hz.out, Hz.out, Hz.out, Hc.out]; rfl, by rw [Hr.out]; exact Own.nil _ _, p2.below hB (by omega)⟩
set_option maxHeartbeats 2000000 in
theorem join_2h (p n m k : Int) (xA : Option Addr) (xc : Nat) (xq : List (List Nat)) (p' n' m' k' : Int) (yA : Option Addr) (yc : Nat) (yq : List (List Nat)) (w : World) (hrx : Rd w xA xq) (hry : Rd w yA yq) (hlx : xq.length ≤ 1048576) (hly : yq.length ≤ 1048576) (hs : schemeB p n m k xq = true) (ht : schemeB p' n' m' k' yq = true) (hp : p = p') (ho1 : n = n') (ho2 : m = m') (h3 : k + k' ≤ 3) (h30 : xq.length + yq.length ≤ 30) :
    Calls Try.prog 26 #[.agg #[.int .i64 p, .int .i64 n, .int .i64 m, .int .i64 k, .slice xA xq.length xc], .agg #[.int .i64 p', .int .i64 n', .int .i64 m', .int .i64 k', .slice yA yq.length yc], .int .i64 2] w (ResS w (joZ2 p n m k xq p' n' m' k' yq p) (joZ2 p n m k xq p' n' m' k' yq n) (joZ2 p n m k xq p' n' m' k' yq m) (joZ2 p n m k xq p' n' m' k' yq (k + k')) (joR2 p n m k xq p' n' m' k' yq) (joCode2 p n m k xq p' n' m' k' yq)) := by
  have HIx := Lib.hid (fun w hr => implIsScheme_c p n m k xA xc xq w hr hlx)
  have HIy := Lib.hid (fun w hr => implIsScheme_c p' n' m' k' yA yc yq w hr hly)
  have Hs := Lib.hid hs
  have Ht := Lib.hid ht
  have hx30 := schemeB_len hs
  have hy30 := schemeB_len ht
  have hz1 := sizesB_parts (schemeB_sizes hs)
  have hz2 := sizesB_parts (schemeB_sizes ht)
  subst hp
  subst ho1
  subst ho2
  simp only [sizeB, Bool.and_eq_true, decide_eq_true_eq] at hz1 hz2
  obtain ⟨z, hsz0⟩ : ∃ z, z = k + k' := ⟨_, rfl⟩
  have hw0 : IntKind.i64.wrap (k + k') = z := by rw [hsz0]; exact IntWalk.i64_in _ (by omega)
  have HW := Lib.hid hw0
  clear hw0
  obtain ⟨zl, hsl⟩ : ∃ z : Int, z = (xq.length : Int) + (yq.length : Int) := ⟨_, rfl⟩
  have hwl : IntKind.i64.wrap ((xq.length : Int) + (yq.length : Int)) = zl := by rw [hsl]; exact IntWalk.i64_in _ (by omega)
  have d3 : decide (3 < z) = false := by simp; omega
  have d30 : decide (30 < zl) = false := by simp; omega
  have Hc : Hid (joCode2 p n m k xq p n m k' yq = 0) := Lib.hid (by unfold joCode2; simp [hs, ht, h3, h30])
  have Hz : Hid (∀ x, joZ2 p n m k xq p n m k' yq x = x) := Lib.hid (fun x => by simp [joZ2, Hc.out])
  have HJ : Hid (∀ w, Rd w xA xq → Rd w yA yq → Calls Try.prog 45 #[.agg #[.int .i64 p, .int .i64 n, .int .i64 m, .int .i64 k, .slice xA xq.length xc], .agg #[.int .i64 p, .int .i64 n, .int .i64 m, .int .i64 k', .slice yA yq.length yc], .int .i64 2] w fun e w' => ∃ v, e = .returned (.agg #[.int .i64 p, .int .i64 n, .int .i64 m, .int .i64 (k + k'), v]) ∧ Own w' w.heap.size v (joR2 p n m k xq p n m k' yq) ∧ Below w.heap.size w w') := Lib.hid (fun w hx hy => by
    unfold joR2
    rw [if_pos Hc.out]
    have g := joined_c p 2 n.toNat m.toNat k.toNat n.toNat m.toNat k'.toNat n.toNat m.toNat (k + k').toNat 0 0 k.toNat xA xc xq yA yc yq w hx hy (by rw [show ((n.toNat : Nat) : Int) = n by omega, show ((m.toNat : Nat) : Int) = m by omega, show ((k.toNat : Nat) : Int) = k by omega]; exact hs) (by rw [show ((n.toNat : Nat) : Int) = n by omega, show ((m.toNat : Nat) : Int) = m by omega, show ((k'.toNat : Nat) : Int) = k' by omega]; exact ht) (by omega) (by omega) (by omega) (by omega) (by omega) (by omega) (by omega) (by omega) (by omega) (fun w => by
      have g := joinedSizes_2 n m k n m k' (k + k') w (by rw [HW.out, hsz0])
      rw [show ((n.toNat : Nat) : Int) = n by omega, show ((m.toNat : Nat) : Int) = m by omega, show ((k.toNat : Nat) : Int) = k by omega, show ((k'.toNat : Nat) : Int) = k' by omega, show (((k + k').toNat : Nat) : Int) = k + k' by omega]
      exact g)
    rw [show ((n.toNat : Nat) : Int) = n by omega, show ((m.toNat : Nat) : Int) = m by omega, show ((k.toNat : Nat) : Int) = k by omega, show ((k'.toNat : Nat) : Int) = k' by omega, show (((k + k').toNat : Nat) : Int) = k + k' by omega] at g
    exact g)
  have HRb := Lib.hid (joR2_good (p := p) (n := n) (m := m) (k := k) (p' := p) (n' := n) (m' := m) (k' := k') hrx.good hry.good).1
  generalize joR2 p n m k xq p n m k' yq = R at *

  clear hs ht hsz0 hsl hz1 hz2
  go_enter Try.func26, Try.ntmps26
  go_wp2_with (first | (refine wpList_abs3 ?_; intro W hsz hB h0 h1 h2) | (refine wpList_load_all rfl 28 _ rfl w.heap.size rfl _ _ _ h0 Try.underlying28 rfl 5 (by kernel_rfl) rfl ?_))
  refine (HIx.out _ (hrx.keep hB)).mono ?_
  rintro e w1 ⟨rfl, b1⟩
  rw [Hs.out]
  replace h0 := h0.after b1
  replace h1 := h1.after b1
  replace h2 := h2.after b1
  replace hB := below_after hB b1
  clear b1 hsz
  go_wp2_with (refine wpList_want_exec rfl (exec_load_all 28 _ rfl (w.heap.size + 1) rfl _ _ _ h1 Try.underlying28 rfl 5 (by kernel_rfl) rfl) ?_)
  refine (HIy.out _ (hry.keep hB)).mono ?_
  rintro e w2 ⟨rfl, b1⟩
  rw [Ht.out]
  replace h0 := h0.after b1
  replace h1 := h1.after b1
  replace h2 := h2.after b1
  replace hB := below_after hB b1
  clear b1
  go_wp2_with (refine wpList_load_all rfl 28 _ rfl (w.heap.size + 1) rfl _ _ _ h1 Try.underlying28 rfl 5 (by kernel_rfl) rfl ?_)
  refine (sizesOf_c p n m k' _ _).mono ?_
  rintro e w3 ⟨rfl, b1⟩
  replace h0 := h0.after b1
  replace h1 := h1.after b1
  replace h2 := h2.after b1
  replace hB := below_after hB b1
  clear b1
  have bx := below1 w3 (.cells #[.int .i64 0, .int .i64 0, .int .i64 0] 53 (0, 0))
  have hg : At (w3.alloc (.cells #[.int .i64 0, .int .i64 0, .int .i64 0] 53 (0, 0))) w3.heap.size (.cells #[.int .i64 0, .int .i64 0, .int .i64 0] 53 (0, 0)) := al1_0 _ _
  have l2 := h2.lt
  replace h0 := h0.after bx
  replace h1 := h1.after bx
  replace h2 := h2.after bx
  replace hB := below_after hB bx
  clear bx
  go_wp2_with (first | (refine wpList_store_all rfl 53 _ _ rfl rfl w3.heap.size rfl _ rfl _ _ hg 3 (by kernel_rfl) rfl rfl (one3 _ _ _) ?_; intro W4 p4; replace hB := p4.below hB (by omega); replace h0 := p4.other h0 (by omega); replace h1 := p4.other h1 (by omega); replace h2 := p4.other h2 (by omega); replace hg := p4.at_; clear p4) | (refine wpList_load_all rfl 28 _ rfl w.heap.size rfl _ _ _ h0 Try.underlying28 rfl 5 (by kernel_rfl) rfl ?_))
  refine (sizesOf_c p n m k _ _).mono ?_
  rintro e w5 ⟨rfl, b1⟩
  replace hg := At.after hg b1
  replace h0 := h0.after b1
  replace h1 := h1.after b1
  replace h2 := h2.after b1
  replace hB := below_after hB b1
  clear b1
  generalize w3.heap.size = gt at *
  have HX : Hid (∀ {o : Oper} {a : Act} {w : World} (x i : Operand), o.op = .index 53 x i → a.eval x = .agg #[.int .i64 n, .int .i64 m, .int .i64 k] → a.eval i = .int .i64 2 → (execOp a.eval o).run Try.prog w = .ok (.value (.int .i64 k)) w) := Lib.hid (fun x i ho hx hi => exec_index_arr3 53 2 x i ho 3 2 _ _ hx hi Try.underlying53 _ Try.underlying2 rfl (by kernel_rfl) (by omega) rfl)
  go_wp2_with (first | (refine wpList_of_exec rfl (HX.out _ _ rfl rfl rfl) ?_) | (refine wpList_store_one rfl 2 _ _ rfl rfl gt 2 rfl (.int .i64 k) rfl rfl rfl _ _ hg (by kernel_rfl) (by simp) ?_; intro W6 p6; replace hB := p6.below hB (by omega); replace h0 := p6.other h0 (by omega); replace h1 := p6.other h1 (by omega); replace h2 := p6.other h2 (by omega); replace hg : At W6 gt (.cells #[.int .i64 n, .int .i64 m, .int .i64 k] 53 (0, 0)) := p6.at_; clear p6))
  clear HX
  go_wp2_with fail
  refine wp_region_held (S := fun w' => At w' w.heap.size (.cells #[.int .i64 p, .int .i64 n, .int .i64 m, .int .i64 k, .slice xA xq.length xc] 28 (0, 0)) ∧ At w' (w.heap.size + 1) (.cells #[.int .i64 p, .int .i64 n, .int .i64 m, .int .i64 k', .slice yA yq.length yc] 28 (0, 0)) ∧ At w' gt (.cells #[.int .i64 n, .int .i64 m, .int .i64 k] 53 (0, 0))) (by kernel_rfl) ?_
  change wpAnyH _ _ _ _ _ _ _ _ (World.drew _)
  generalize hwdb2 : World.drew _ = wdb2
  replace hB : Below w.heap.size w wdb2 := by rw [← hwdb2]; exact hB.drew
  replace h0 : At wdb2 w.heap.size (.cells #[.int .i64 p, .int .i64 n, .int .i64 m, .int .i64 k, .slice xA xq.length xc] 28 (0, 0)) := by rw [← hwdb2]; exact h0
  replace h1 : At wdb2 (w.heap.size + 1) (.cells #[.int .i64 p, .int .i64 n, .int .i64 m, .int .i64 k', .slice yA yq.length yc] 28 (0, 0)) := by rw [← hwdb2]; exact h1
  replace h2 : At wdb2 (w.heap.size + 1 + 1) (.cells #[.int .i64 0, .int .i64 0, .int .i64 0, .int .i64 0, .slice none 0 0] 28 (0, 0)) := by rw [← hwdb2]; exact h2
  replace hg : At wdb2 gt (.cells #[.int .i64 n, .int .i64 m, .int .i64 k] 53 (0, 0)) := by rw [← hwdb2]; exact hg
  clear hwdb2
  refine held_yield 0 (some 28) (.pointer (some ⟨w.heap.size, 0, none⟩)) rfl (by kernel_rfl) (by kernel_rfl) (by kernel_rfl) (fun _ _ _ h => h) rfl rfl ⟨h0, h1, hg⟩ (fun w' h' => exec_fieldAddr 28 _ 0 rfl _ (by kernel_rfl)) ?_
  go_frame
  refine held_yield 1 (some 29) (.int .i64 p) rfl (by kernel_rfl) (by kernel_rfl) (by kernel_rfl) (fun _ _ _ h => h) rfl rfl ⟨h0, h1, hg⟩ (fun w' h' => exec_load_one 2 _ rfl w.heap.size 0 rfl _ _ Try.underlying2 rfl (h'.1.at_ 0)) ?_
  go_frame
  refine held_yield 2 (some 30) (.pointer (some ⟨w.heap.size + 1, 0, none⟩)) rfl (by kernel_rfl) (by kernel_rfl) (by kernel_rfl) (fun _ _ _ h => h) rfl rfl ⟨h0, h1, hg⟩ (fun w' h' => exec_fieldAddr 28 _ 0 rfl _ (by kernel_rfl)) ?_
  go_frame
  refine held_yield 3 (some 31) (.int .i64 p) rfl (by kernel_rfl) (by kernel_rfl) (by kernel_rfl) (fun _ _ _ h => h) rfl rfl ⟨h0, h1, hg⟩ (fun w' h' => exec_load_one 2 _ rfl (w.heap.size + 1) 0 rfl _ _ Try.underlying2 rfl (h'.2.1.at_ 0)) ?_
  go_frame
  refine held_yield 4 (some 32) (.bool false) rfl (by kernel_rfl) (by kernel_rfl) (by kernel_rfl) (fun _ _ _ h => h) rfl rfl ⟨h0, h1, hg⟩ (fun w' h' => exec_neq _ _ _ _ rfl p p rfl rfl false (by simp)) ?_
  go_frame
  refine held_yield 5 (some 33) (.bool false) rfl (by kernel_rfl) (by kernel_rfl) (by kernel_rfl) (fun _ _ _ h => h) rfl rfl ⟨h0, h1, hg⟩ (fun w' h' => exec_move _ rfl (.bool false) rfl) ?_
  go_frame
  refine held_yield_g 6 (some 34) (.agg #[.int .i64 n, .int .i64 m, .int .i64 k]) rfl (by kernel_rfl) (by kernel_rfl) (by kernel_rfl) (fun _ _ _ h => h) rfl rfl ⟨h0, h1, hg⟩ (fun w' h' => exec_load_all 53 _ rfl gt rfl _ _ _ h'.2.2 Try.underlying53 rfl 3 (by kernel_rfl) rfl) ?_
  go_frame
  refine held_yield_g 7 (some 35) (.agg #[.int .i64 p, .int .i64 n, .int .i64 m, .int .i64 k, .slice xA xq.length xc]) rfl (by kernel_rfl) (by kernel_rfl) (by kernel_rfl) (fun _ _ _ h => h) rfl rfl ⟨h0, h1, hg⟩ (fun w' h' => exec_load_all 28 _ rfl w.heap.size rfl _ _ _ h'.1 Try.underlying28 rfl 5 (by kernel_rfl) rfl) ?_
  go_frame
  refine held_oper_g 8 (by kernel_rfl) rfl rfl (fun K' hK' => ?_)
  refine wp_call1 (some 36) rfl 35 _ _ rfl (fun args w => by kernel_rfl) _ rfl _ (sizesOf_c p n m k _ _) (fun e wnb21 h => ?_)
  obtain ⟨rfl, bb22⟩ := h
  replace hB := below_after hB bb22
  replace h0 := h0.after bb22
  replace h1 := h1.after bb22
  replace h2 := h2.after bb22
  replace hg := hg.after bb22
  clear bb22
  refine ⟨_, rfl, hK' _ _ ⟨h0, h1, hg⟩ ?_⟩
  clear hK' K'
  go_frame
  refine held_yield_g 9 (some 37) (.bool false) rfl (by kernel_rfl) (by kernel_rfl) (by kernel_rfl) (fun _ _ _ h => h) rfl rfl ⟨h0, h1, hg⟩ (fun w' h' => exec_neq_sz _ _ _ rfl n m k n m k rfl rfl false (by simp)) ?_
  go_frame
  refine held_yield 10 (some 38) (.bool false) rfl (by kernel_rfl) (by kernel_rfl) (by kernel_rfl) (fun _ _ _ h => h) rfl rfl ⟨h0, h1, hg⟩ (fun w' h' => exec_pick _ _ _ rfl false rfl (.bool false) rfl) ?_
  go_frame
  refine wpAnyH_done (by kernel_rfl) ?_ _
  go_wp2_with fail
  have hBC : BC (fun W => Below w.heap.size w W ∧ At W w.heap.size (.cells #[.int .i64 p, .int .i64 n, .int .i64 m, .int .i64 k, .slice xA xq.length xc] 28 (0, 0)) ∧ At W (w.heap.size + 1) (.cells #[.int .i64 p, .int .i64 n, .int .i64 m, .int .i64 k', .slice yA yq.length yc] 28 (0, 0)) ∧ At W (w.heap.size + 1 + 1) (.cells #[.int .i64 0, .int .i64 0, .int .i64 0, .int .i64 0, .slice none 0 0] 28 (0, 0))) (w.heap.size + 1 + 1 + 1) := ⟨fun h hb => ⟨below_after h.1 hb, h.2.1.after hb, h.2.2.1.after hb, h.2.2.2.after hb⟩, fun h hg hP => ⟨hP.below h.1 (by omega), hP.other h.2.1 (by omega), hP.other h.2.2.1 (by omega), hP.other h.2.2.2 (by omega)⟩, fun h => h.2.2.2.lt⟩
  refine wp_region_inv (by kernel_rfl) (by kernel_rfl) (by kernel_rfl) (RI (fun W => Below w.heap.size w W ∧ At W w.heap.size (.cells #[.int .i64 p, .int .i64 n, .int .i64 m, .int .i64 k, .slice xA xq.length xc] 28 (0, 0)) ∧ At W (w.heap.size + 1) (.cells #[.int .i64 p, .int .i64 n, .int .i64 m, .int .i64 k', .slice yA yq.length yc] 28 (0, 0)) ∧ At W (w.heap.size + 1 + 1) (.cells #[.int .i64 0, .int .i64 0, .int .i64 0, .int .i64 0, .slice none 0 0] 28 (0, 0))) (w.heap.size + 1 + 1 + 1) (valOf [(0, .agg #[.int .i64 p, .int .i64 n, .int .i64 m, .int .i64 k, .slice xA xq.length xc]), (1, .agg #[.int .i64 n, .int .i64 m, .int .i64 k]), (2, .agg #[.int .i64 p, .int .i64 n, .int .i64 m, .int .i64 k', .slice yA yq.length yc]), (3, .agg #[.int .i64 n, .int .i64 m, .int .i64 k']), (4, .int .i64 2), (5, .tuple #[.agg #[.int .i64 n, .int .i64 m, .int .i64 z], .agg #[.int .i64 0, .int .i64 0, .int .i64 k]]), (6, .tuple #[.agg #[.int .i64 n, .int .i64 m, .int .i64 z], .agg #[.int .i64 0, .int .i64 0, .int .i64 k]]), (7, .agg #[.int .i64 n, .int .i64 m, .int .i64 z]), (8, .agg #[.int .i64 0, .int .i64 0, .int .i64 k])]) (alOf [(9, 11, .cells #[.int .i64 0, .int .i64 0, .int .i64 0] 53 (0, 0), .cells #[.int .i64 n, .int .i64 m, .int .i64 z] 53 (0, 0)), (10, 12, .cells #[.int .i64 0, .int .i64 0, .int .i64 0] 53 (0, 0), .cells #[.int .i64 0, .int .i64 0, .int .i64 k] 53 (0, 0))])) (RI.start ?_) 13 rfl ?_ ?_
  case refine_1 => exact ⟨hB.drew, h0, h1, h2⟩
  case refine_2 =>
    refine StepsOK.succ (StepsOK.succ (StepsOK.succ (StepsOK.succ (StepsOK.succ (StepsOK.succ (StepsOK.succ (StepsOK.succ (StepsOK.succ (StepsOK.succ (StepsOK.succ (StepsOK.succ (StepsOK.succ (StepsOK.zero) ?_) ?_) ?_) ?_) ?_) ?_) ?_) ?_) ?_) ?_) ?_) ?_) ?_
    · exact step_pure hBC 0 _ rfl rfl [] (by kernel_rfl) (some 41) rfl (.agg #[.int .i64 p, .int .i64 n, .int .i64 m, .int .i64 k, .slice xA xq.length xc]) rfl rfl (notStore_of rfl) (fun L vals W hd hI => exec_load_all 28 _ rfl w.heap.size (slot_old (by kernel_rfl) rfl) _ _ _ hI.base.2.1 Try.underlying28 rfl 5 (by kernel_rfl) rfl)
    · exact step_call hBC 1 _ rfl rfl [0] (by kernel_rfl) (.agg #[.int .i64 n, .int .i64 m, .int .i64 k]) rfl rfl (notStore_of rfl) (fun L vals W K hd hI hK => wp_call1 (some 42) rfl 35 _ _ rfl (fun args w => by kernel_rfl) _ (hI.slot (by kernel_rfl) (j := 0) (t := 41) (by kernel_rfl) (hd 0 (by simp)) (of_decide_eq_true rfl) (of_decide_eq_true (by kernel_rfl)) rfl) _ (sizesOf_c p n m k _ _) (fun e wn h => by obtain ⟨rfl, b⟩ := h; exact ⟨_, rfl, hK _ b⟩))
    · exact step_pure hBC 2 _ rfl rfl [] (by kernel_rfl) (some 43) rfl (.agg #[.int .i64 p, .int .i64 n, .int .i64 m, .int .i64 k', .slice yA yq.length yc]) rfl rfl (notStore_of rfl) (fun L vals W hd hI => exec_load_all 28 _ rfl (w.heap.size + 1) (slot_old (by kernel_rfl) rfl) _ _ _ hI.base.2.2.1 Try.underlying28 rfl 5 (by kernel_rfl) rfl)
    · exact step_call hBC 3 _ rfl rfl [2, 1] (by kernel_rfl) (.agg #[.int .i64 n, .int .i64 m, .int .i64 k']) rfl rfl (notStore_of rfl) (fun L vals W K hd hI hK => wp_call1 (some 44) rfl 35 _ _ rfl (fun args w => by kernel_rfl) _ (hI.slot (by kernel_rfl) (j := 2) (t := 43) (by kernel_rfl) (hd 2 (by simp)) (of_decide_eq_true rfl) (of_decide_eq_true (by kernel_rfl)) rfl) _ (sizesOf_c p n m k' _ _) (fun e wn h => by obtain ⟨rfl, b⟩ := h; exact ⟨_, rfl, hK _ b⟩))
    · exact step_pure hBC 4 _ rfl rfl [] (by kernel_rfl) (some 45) rfl (.int .i64 2) rfl rfl (notStore_of rfl) (fun L vals W hd hI => exec_move _ rfl (.int .i64 2) (slot_old (by kernel_rfl) rfl))
    · exact step_call hBC 5 _ rfl rfl [1, 3, 4, 3] (by kernel_rfl) (.tuple #[.agg #[.int .i64 n, .int .i64 m, .int .i64 z], .agg #[.int .i64 0, .int .i64 0, .int .i64 k]]) rfl rfl (notStore_of rfl) (fun L vals W K hd hI hK => wp_call3 (some 46) rfl 44 _ _ _ _ rfl (fun args w => by kernel_rfl) _ _ _ (hI.slot (by kernel_rfl) (j := 1) (t := 42) (by kernel_rfl) (hd 1 (by simp)) (of_decide_eq_true rfl) (of_decide_eq_true (by kernel_rfl)) rfl) (hI.slot (by kernel_rfl) (j := 3) (t := 44) (by kernel_rfl) (hd 3 (by simp)) (of_decide_eq_true rfl) (of_decide_eq_true (by kernel_rfl)) rfl) (hI.slot (by kernel_rfl) (j := 4) (t := 45) (by kernel_rfl) (hd 4 (by simp)) (of_decide_eq_true rfl) (of_decide_eq_true (by kernel_rfl)) rfl) _ (joinedSizes_2 n m k n m k' z _ HW.out) (fun e wn h => by obtain ⟨rfl, b⟩ := h; exact ⟨_, rfl, hK _ b⟩))
    · exact step_pure hBC 6 _ rfl rfl [5] (by kernel_rfl) (some 40) rfl (.tuple #[.agg #[.int .i64 n, .int .i64 m, .int .i64 z], .agg #[.int .i64 0, .int .i64 0, .int .i64 k]]) rfl rfl (notStore_of rfl) (fun L vals W hd hI => exec_move _ rfl (.tuple #[.agg #[.int .i64 n, .int .i64 m, .int .i64 z], .agg #[.int .i64 0, .int .i64 0, .int .i64 k]]) (hI.slot (by kernel_rfl) (j := 5) (t := 46) (by kernel_rfl) (hd 5 (by simp)) (of_decide_eq_true rfl) (of_decide_eq_true (by kernel_rfl)) rfl))
    · exact step_pure hBC 7 _ rfl rfl [6] (by kernel_rfl) (some 47) rfl (.agg #[.int .i64 n, .int .i64 m, .int .i64 z]) rfl rfl (notStore_of rfl) (fun L vals W hd hI => exec_extract _ 0 rfl #[.agg #[.int .i64 n, .int .i64 m, .int .i64 z], .agg #[.int .i64 0, .int .i64 0, .int .i64 k]] (hI.slot (by kernel_rfl) (j := 6) (t := 40) (by kernel_rfl) (hd 6 (by simp)) (of_decide_eq_true rfl) (of_decide_eq_true (by kernel_rfl)) rfl) _ rfl)
    · exact step_pure hBC 8 _ rfl rfl [6] (by kernel_rfl) (some 48) rfl (.agg #[.int .i64 0, .int .i64 0, .int .i64 k]) rfl rfl (notStore_of rfl) (fun L vals W hd hI => exec_extract _ 1 rfl #[.agg #[.int .i64 n, .int .i64 m, .int .i64 z], .agg #[.int .i64 0, .int .i64 0, .int .i64 k]] (hI.slot (by kernel_rfl) (j := 6) (t := 40) (by kernel_rfl) (hd 6 (by simp)) (of_decide_eq_true rfl) (of_decide_eq_true (by kernel_rfl)) rfl) _ rfl)
    · exact step_alloc hBC 9 _ rfl rfl [] (by kernel_rfl) 11 (.cells #[.int .i64 0, .int .i64 0, .int .i64 0] 53 (0, 0)) (.cells #[.int .i64 n, .int .i64 m, .int .i64 z] 53 (0, 0)) rfl rfl (by decide) (by kernel_rfl) (notStore_of rfl) (fun a w => exec_alloc_sizes rfl)
    · exact step_alloc hBC 10 _ rfl rfl [] (by kernel_rfl) 12 (.cells #[.int .i64 0, .int .i64 0, .int .i64 0] 53 (0, 0)) (.cells #[.int .i64 0, .int .i64 0, .int .i64 k] 53 (0, 0)) rfl rfl (by decide) (by kernel_rfl) (notStore_of rfl) (fun a w => exec_alloc_sizes rfl)
    · exact step_store hBC 11 _ rfl rfl [9, 7, 5, 0, 1, 2, 3, 4, 5, 6, 7, 9, 10] (by kernel_rfl) rfl 9 (by simp) (.cells #[.int .i64 0, .int .i64 0, .int .i64 0] 53 (0, 0)) (.cells #[.int .i64 n, .int .i64 m, .int .i64 z] 53 (0, 0)) rfl rfl rfl (uniq_of rfl) (fun L vals W b K hd hI hb hAt hK => wp_store_all 53 _ _ rfl rfl b (slot_al (by kernel_rfl) (j := 9) (t := 9) (by kernel_rfl) (hd 9 (by simp)) (of_decide_eq_true rfl) (of_decide_eq_true (by kernel_rfl)) hb) _ (hI.slot (by kernel_rfl) (j := 7) (t := 47) (by kernel_rfl) (hd 7 (by simp)) (of_decide_eq_true rfl) (of_decide_eq_true (by kernel_rfl)) rfl) _ _ hAt 3 (by kernel_rfl) rfl rfl (one3 _ _ _) hK)
    · exact step_store hBC 12 _ rfl rfl [10, 8, 11, 0, 1, 2, 3, 4, 5, 6, 7, 8, 9, 10, 11] (by kernel_rfl) rfl 10 (by simp) (.cells #[.int .i64 0, .int .i64 0, .int .i64 0] 53 (0, 0)) (.cells #[.int .i64 0, .int .i64 0, .int .i64 k] 53 (0, 0)) rfl rfl rfl (uniq_of rfl) (fun L vals W b K hd hI hb hAt hK => wp_store_all 53 _ _ rfl rfl b (slot_al (by kernel_rfl) (j := 10) (t := 10) (by kernel_rfl) (hd 10 (by simp)) (of_decide_eq_true rfl) (of_decide_eq_true (by kernel_rfl)) hb) _ (hI.slot (by kernel_rfl) (j := 8) (t := 48) (by kernel_rfl) (hd 8 (by simp)) (of_decide_eq_true rfl) (of_decide_eq_true (by kernel_rfl)) rfl) _ _ hAt 3 (by kernel_rfl) rfl rfl (one3 _ _ _) hK)
  case refine_3 =>
  intro L vals wz hall hI
  obtain ⟨b9, e9, l9, h9⟩ := hI.blk 9 _ _ _ (hall 9 (by omega)) rfl
  rw [if_pos (hall 11 (by omega))] at h9
  obtain ⟨b10, e10, l10, h10⟩ := hI.blk 10 _ _ _ (hall 10 (by omega)) rfl
  rw [if_pos (hall 12 (by omega))] at h10
  have n9_10 : b9 ≠ b10 := fun e => hI.dis 9 10 _ _ _ _ _ _ (by omega) (hall 9 (by omega)) (hall 10 (by omega)) rfl rfl (by rw [e9, e10, e])
  rw [putAll_step (n := 12) rfl (hall 12 (by omega)) (d := none) rfl rfl, putAll_step (n := 11) rfl (hall 11 (by omega)) (d := none) rfl rfl, putAll_step (n := 10) rfl (hall 10 (by omega)) (d := (some 10)) rfl e10, putAll_step (n := 9) rfl (hall 9 (by omega)) (d := (some 9)) rfl e9, putAll_step (n := 8) rfl (hall 8 (by omega)) (d := (some 48)) rfl (hI.val_ 8 _ (hall 8 (by omega)) rfl), putAll_step (n := 7) rfl (hall 7 (by omega)) (d := (some 47)) rfl (hI.val_ 7 _ (hall 7 (by omega)) rfl), putAll_step (n := 6) rfl (hall 6 (by omega)) (d := (some 40)) rfl (hI.val_ 6 _ (hall 6 (by omega)) rfl), putAll_step (n := 5) rfl (hall 5 (by omega)) (d := (some 46)) rfl (hI.val_ 5 _ (hall 5 (by omega)) rfl), putAll_step (n := 4) rfl (hall 4 (by omega)) (d := (some 45)) rfl (hI.val_ 4 _ (hall 4 (by omega)) rfl), putAll_step (n := 3) rfl (hall 3 (by omega)) (d := (some 44)) rfl (hI.val_ 3 _ (hall 3 (by omega)) rfl), putAll_step (n := 2) rfl (hall 2 (by omega)) (d := (some 43)) rfl (hI.val_ 2 _ (hall 2 (by omega)) rfl), putAll_step (n := 1) rfl (hall 1 (by omega)) (d := (some 42)) rfl (hI.val_ 1 _ (hall 1 (by omega)) rfl), putAll_step (n := 0) rfl (hall 0 (by omega)) (d := (some 41)) rfl (hI.val_ 0 _ (hall 0 (by omega)) rfl), putAll_zero]
  have hbase := hI.base
  clear hI hall hBC e9 e10
  go_frame
  obtain ⟨hB, h0, h1, h2⟩ := hbase
  have k9 : World.cell? wz ⟨b9, 2, none⟩ = some (.int .i64 z) := h9.at_ 2
  have x4 : World.cell? wz ⟨w.heap.size, 4, none⟩ = some (.slice xA xq.length xc) := h0.at_ 4
  have y4 : World.cell? wz ⟨w.heap.size + 1, 4, none⟩ = some (.slice yA yq.length yc) := h1.at_ 4
  clear h3 h30
  go_upto_region 10 with (fail)
  go_wp2_with (first | (refine wpList_load_all rfl 28 _ rfl w.heap.size rfl _ _ _ h0 Try.underlying28 rfl 5 (by kernel_rfl) rfl ?_) | (refine wpList_load_all rfl 28 _ rfl (w.heap.size + 1) rfl _ _ _ h1 Try.underlying28 rfl 5 (by kernel_rfl) rfl ?_))
  refine (HJ.out _ (hrx.keep hB) (hry.keep hB)).mono ?_
  rintro e w9 ⟨v, rfl, ho, b4⟩
  have hs1 := hB.size
  replace h2 := h2.after b4
  replace hB := below_after hB b4
  replace ho := ho.mono hs1
  obtain ⟨A1, c1, rfl, _⟩ := ho.rd HRb.out
  have n2 := ho.off h2 (by decide)
  clear b4 h0 h1
  go_wp2_with (refine wpList_store_all rfl 28 _ _ rfl rfl (w.heap.size + 1 + 1) rfl _ rfl _ _ h2 5 (by kernel_rfl) rfl rfl (one5 _ _ _ _ _ _ _) ?_; intro W2 p2)
  refine bodyPost_ret (results_at2 rfl _ _ (w.heap.size + 1 + 1) _ _ _ rfl _ rfl p2.at_ Try.underlying28 rfl 5 (by kernel_rfl) rfl) rfl ?_
  exact ⟨_, by rw [Hz.out, Hz.out, Hz.out, Hz.out, Hc.out]; rfl, ho.put p2 n2, p2.below hB (by omega)⟩
theorem join_2 (p n m k : Int) (xA : Option Addr) (xc : Nat) (xq : List (List Nat)) (p' n' m' k' : Int) (yA : Option Addr) (yc : Nat) (yq : List (List Nat)) (w : World) (hrx : Rd w xA xq) (hry : Rd w yA yq) (hlx : xq.length ≤ 1048576) (hly : yq.length ≤ 1048576) :
    Calls Try.prog 26 #[.agg #[.int .i64 p, .int .i64 n, .int .i64 m, .int .i64 k, .slice xA xq.length xc], .agg #[.int .i64 p', .int .i64 n', .int .i64 m', .int .i64 k', .slice yA yq.length yc], .int .i64 2] w (ResS w (joZ2 p n m k xq p' n' m' k' yq p) (joZ2 p n m k xq p' n' m' k' yq n) (joZ2 p n m k xq p' n' m' k' yq m) (joZ2 p n m k xq p' n' m' k' yq (k + k')) (joR2 p n m k xq p' n' m' k' yq) (joCode2 p n m k xq p' n' m' k' yq)) := by
  cases hs : schemeB p n m k xq with
  | false => exact join_2a p n m k xA xc xq p' n' m' k' yA yc yq w hrx hry hlx hly hs
  | true =>
    cases ht : schemeB p' n' m' k' yq with
    | false => exact join_2b p n m k xA xc xq p' n' m' k' yA yc yq w hrx hry hlx hly hs ht
    | true =>
      by_cases hp : p = p'
      · by_cases ho1 : n = n'
        · by_cases ho2 : m = m'
          · by_cases h3 : k + k' ≤ 3
            · by_cases h30 : xq.length + yq.length ≤ 30
              · exact join_2h p n m k xA xc xq p' n' m' k' yA yc yq w hrx hry hlx hly hs ht hp ho1 ho2 h3 h30
              · exact join_2g p n m k xA xc xq p' n' m' k' yA yc yq w hrx hry hlx hly hs ht hp ho1 ho2 h3 h30
            · exact join_2f p n m k xA xc xq p' n' m' k' yA yc yq w hrx hry hlx hly hs ht hp ho1 ho2 h3
          · exact join_2e p n m k xA xc xq p' n' m' k' yA yc yq w hrx hry hlx hly hs ht hp ho1 ho2
        · exact join_2d p n m k xA xc xq p' n' m' k' yA yc yq w hrx hry hlx hly hs ht hp ho1
      · exact join_2c p n m k xA xc xq p' n' m' k' yA yc yq w hrx hry hlx hly hs ht hp
set_option maxHeartbeats 800000 in
theorem implJoinCols_c (p n m k : Int) (xA : Option Addr) (xc : Nat) (xq : List (List Nat)) (p' n' m' k' : Int) (yA : Option Addr) (yc : Nat) (yq : List (List Nat)) (w : World) (hrx : Rd w xA xq) (hry : Rd w yA yq) (hlx : xq.length ≤ 1048576) (hly : yq.length ≤ 1048576) :
    Calls Try.prog 18 #[.agg #[.int .i64 p, .int .i64 n, .int .i64 m, .int .i64 k, .slice xA xq.length xc], .agg #[.int .i64 p', .int .i64 n', .int .i64 m', .int .i64 k', .slice yA yq.length yc]] w (ResS w (joZ2 p n m k xq p' n' m' k' yq p) (joZ2 p n m k xq p' n' m' k' yq n) (joZ2 p n m k xq p' n' m' k' yq m) (joZ2 p n m k xq p' n' m' k' yq (k + k')) (joR2 p n m k xq p' n' m' k' yq) (joCode2 p n m k xq p' n' m' k' yq)) := by
  have HJ := Lib.hid (fun w hx hy => join_2 p n m k xA xc xq p' n' m' k' yA yc yq w hx hy hlx hly)
  have HRb := Lib.hid (joR2_good (p := p) (n := n) (m := m) (k := k) (p' := p') (n' := n') (m' := m') (k' := k') hrx.good hry.good).1
  generalize joR2 p n m k xq p' n' m' k' yq = R at *
  generalize joCode2 p n m k xq p' n' m' k' yq = code at *
  generalize joZ2 p n m k xq p' n' m' k' yq p = r0 at *
  generalize joZ2 p n m k xq p' n' m' k' yq n = r1 at *
  generalize joZ2 p n m k xq p' n' m' k' yq m = r2 at *
  generalize joZ2 p n m k xq p' n' m' k' yq (k + k') = r3 at *
  go_enter Try.func18, Try.ntmps18
  go_wp2_with (first | (refine wpList_abs3 ?_; intro W hsz hB h0 h1 h2) | (refine wpList_load_all rfl 28 _ rfl w.heap.size rfl _ _ _ h0 Try.underlying28 rfl 5 (by kernel_rfl) rfl ?_) | (refine wpList_load_all rfl 28 _ rfl (w.heap.size + 1) rfl _ _ _ h1 Try.underlying28 rfl 5 (by kernel_rfl) rfl ?_))
  refine (HJ.out _ (hrx.keep hB) (hry.keep hB)).mono ?_
  rintro e w1 ⟨v, rfl, ho, b1⟩
  have hs1 := hB.size
  replace h2 := h2.after b1
  replace hB := below_after hB b1
  replace ho := ho.mono hs1
  obtain ⟨A1, c1, rfl, _⟩ := ho.rd HRb.out
  clear b1 h0 h1 hsz
  have n2 := ho.off h2 (by decide)
  go_wp2_with (first | (refine wpList_store_all rfl 28 _ _ rfl rfl (w.heap.size + 1 + 1) rfl _ rfl _ _ h2 5 (by kernel_rfl) rfl rfl (one5 _ _ _ _ _ _ _) ?_; intro W2 p2))
  refine bodyPost_ret (results_at2 rfl _ _ (w.heap.size + 1 + 1) _ _ _ rfl _ rfl p2.at_ Try.underlying28 rfl 5 (by kernel_rfl) rfl) rfl ?_
  exact ⟨_, rfl, ho.put p2 n2, p2.below hB (by omega)⟩
end Go.Proofs.Ytelicajipilhjaa
