/-
  slices.SortFunc on an own list of products; impl.sortedProducts.
-/
import Derived.Test.YtmbjpnkedepijaaSo1
import Derived.Test.YtmbjpnkedepijaaSoL
import Derived.Test.YtmbjpnkedepijaaMt3
import Derived.Shelf.SlSortCmp.NoneTotal
namespace Go.Proofs.Ytmbjpnkedepijaa
open Go.RowKit Go.Sort Go.Shelf
set_option maxRecDepth 100000
def enc27 (x : P27) : List Value := (u8s x.1).toList
theorem enc27_len (x : P27) : (enc27 x).length = 27 := by
  have := x.2.1
  simp [enc27, u8s, this]
theorem enc27_one (x : P27) : ∀ v ∈ enc27 x, v.oneCell' = true := fun v hv => by
  simp only [enc27, u8s] at hv
  simp at hv
  obtain ⟨a, _, rfl⟩ := hv
  rfl
theorem enc27_agg (x : P27) : (enc27 x).toArray = u8s x.1 := by simp [enc27]
theorem flat_at : ∀ (qs : List (List Nat)), (∀ q ∈ qs, q.length = 27) → ∀ t : Nat, qs.flatten[t]? = (qs[t / 27]?).bind fun q => q[t % 27]?
  | [], _, t => by simp
  | q :: qs, h, t => by
    have hq := h q (by simp)
    rw [List.flatten_cons]
    rcases Nat.lt_or_ge t 27 with h1 | h1
    · rw [List.getElem?_append_left (by omega), Nat.div_eq_of_lt h1, Nat.mod_eq_of_lt h1]
      simp
    · rw [List.getElem?_append_right (by omega), hq, flat_at qs (fun q hq => h q (by simp [hq])) (t - 27)]
      rw [show t / 27 = (t - 27) / 27 + 1 by omega, show (t - 27) % 27 = t % 27 by omega]
      simp
theorem flatK_27 (d : Array P27) : flatK enc27 27 d = u8s (d.toList.map (·.1)).flatten := by
  have hl : ∀ q ∈ d.toList.map (·.1), q.length = 27 := fun q hq => by
    obtain ⟨x, _, rfl⟩ := List.mem_map.1 hq
    exact x.2.1
  have hs : (d.toList.map (·.1)).flatten.length = d.size * 27 := by
    rw [flatten_len27 _ hl]
    simp
  apply Array.ext
  · rw [size_flatK, u8s_size, hs]
  · intro t h1 h2
    have ht : t < d.size * 27 := by simpa using h1
    have e1 := get_flatK enc27 27 d t ht
    rw [getElem!_pos _ t h1] at e1
    have hd : t / 27 < d.size := by omega
    rw [e1, getElem!_pos d _ hd]
    have h3 : t % 27 < (enc27 d[t / 27]).length := by rw [enc27_len]; omega
    rw [getElem!_pos (enc27 d[t / 27]) (t % 27) h3]
    have h4 := flat_at _ hl t
    rw [List.getElem?_map, show d.toList[t / 27]? = some d[t / 27] by simp [hd]] at h4
    have h5 : t % 27 < (d[t / 27]'hd).1.length := by rw [(d[t / 27]'hd).2.1]; omega
    simp only [Option.map_some, Option.bind_some, List.getElem?_eq_getElem h5] at h4
    have h6 : t < (d.toList.map (·.1)).flatten.length := by omega
    rw [List.getElem?_eq_getElem h6] at h4
    simp only [Option.some.injEq] at h4
    have k1 : ∀ (L : List Nat) (k : Nat) (hk : k < L.length), (u8s L)[k]? = some (.int .u8 ((L[k] : Nat) : Int)) := fun L k hk => by simp [u8s, hk]
    apply Option.some.inj
    rw [← List.getElem?_eq_getElem h3, ← Array.getElem?_eq_getElem h2, k1 _ t h6, h4]
    show ((u8s _).toList)[t % 27]? = _
    rw [Array.getElem?_toList, k1 _ _ h5]
theorem grow_at {w : World} {g n : Nat} {D : Array Value} {os : Array Obj} {cur : Array Value} {t : TypeId} (h : At w g (.cells cur t (0, 0))) : At (grow (putRow id (Sort.ahead w n) g 0 D) os) g (.cells (putCells id 0 D cur) t (0, 0)) := by
  have hl := h.lt
  unfold At at *
  simp only [grow, putRow, mapBlock, Sort.ahead]
  rw [Array.getElem?_append_left (by simpa using hl), Array.getElem?_modify]
  simp [h, onCells]
theorem grow_below {w w0 : World} {g n B : Nat} {D : Array Value} {os : Array Obj} (h : Below B w0 w) (hg : g < w.heap.size) (hB : B ≤ g) : Below B w0 (grow (putRow id (Sort.ahead w n) g 0 D) os) := by
  refine ⟨h.os, h.tape, h.output, ?_, fun k hk => ?_⟩
  · have := h.size
    simp [grow, putRow, mapBlock, Sort.ahead]
    omega
  · simp only [grow, putRow, mapBlock, Sort.ahead]
    rw [Array.getElem?_append_left (by simp; omega), Array.getElem?_modify, if_neg (by omega)]
    exact h.block k hk
theorem put_take {D cur : Array Value} (h : D.size ≤ cur.size) : (putCells id 0 D cur).size = cur.size ∧ (putCells id 0 D cur).toList.take D.size = D.toList := by
  refine ⟨by simp [putCells], ?_⟩
  apply List.ext_getElem?
  intro k
  rw [List.getElem?_take]
  split
  · next hk =>
    simp only [putCells, Array.getElem?_toList, Array.getElem?_mapIdx]
    rw [Array.getElem?_eq_getElem (show k < cur.size by omega), Array.getElem?_eq_getElem hk]
    simp [hk]
  · next hk => rw [List.getElem?_eq_none (by simp; omega)]
set_option maxHeartbeats 1600000 in
theorem sortFunc_c (v : Value) (lo : Nat) (qs : List (List Nat)) (w : World) (hO : Own w lo v qs) (hq : ∀ q ∈ qs, Bytes 27 q) (hn : qs.length ≤ 1000) :
    Calls Try.prog 39 #[v, .func (.func 40) #[] #[]] w
      fun e w' => e = .returned (.tuple #[]) ∧ Own w' lo v (insA [] qs) ∧ ∀ (B : Nat) (w0 : World), Below B w0 w → B ≤ lo → Below B w0 w' := by
  by_cases h0 : qs = []
  · subst h0
    obtain ⟨A, c, rfl, _⟩ := hO.rd hq
    refine (AnyF.slices_SortFunc_none (ρ := sortP_ren) sortP A c _ w).mono ?_
    rintro e w' ⟨rfl, rfl⟩
    exact ⟨rfl, hO, fun _ _ h _ => h⟩
  · have hO' := hO
    have hpos : 0 < qs.length := List.length_pos_iff.2 h0
    rcases hO'.2 with ⟨_, h9⟩ | ⟨g, cap, cur, rfl, hb, hgg, hle, hcap, hsz, ht⟩
    · omega
    · obtain ⟨d, hd⟩ : ∃ d : Array P27, d.toList.map (·.1) = qs := ⟨(qs.attach.map fun q => (⟨q.1, hq _ q.2⟩ : P27)).toArray, by simp [List.map_map, Function.comp_def]⟩
      have hdn : d.size = qs.length := by rw [← hd]; simp
      have hF : flatK enc27 27 d = u8s qs.flatten := by rw [flatK_27, hd]
      have hl : ∀ q ∈ qs, q.length = 27 := fun q h => (hq q h).1
      have hfl : qs.flatten.length = qs.length * 27 := flatten_len27 qs hl
      have hAt : At w g (.cells cur 45 (0, 0)) := hgg
      have hH : HoldsK enc27 27 w g 0 d := fun j hj => by
        rw [hF] at hj ⊢
        refine ⟨?_, hAt.free _⟩
        rw [cell_of_row w g (0 + j) _ _ _ hAt, Nat.zero_add, getElem!_pos _ j hj]
        have h1 : ((u8s qs.flatten).toList)[j]? = some (u8s qs.flatten)[j] := by simp [hj]
        rw [← ht, List.getElem?_take] at h1
        split at h1
        · rwa [Array.getElem?_toList] at h1
        · cases h1
      have eg : ∀ args w, (callFunc 40 args).run Try.prog w = .ok (.enter 40 args) w := enters_of Try.func40 (by kernel_rfl) rfl
      have hc : CmpLays Try.prog 40 #[] enc27 27 cf27 g 0 d.size w := fun m os dk _ x y => by
        have h := compareProducts_c x.1 y.1 (sortWorldK enc27 27 w g 0 m dk os) x.2 y.2
        rw [enc27_agg, enc27_agg]
        exact h
      have hS := AnyQ.slices_SortFunc_total (ρ := sortP_ren) sortP 27 (fun w => by kernel_rfl) (fun w => by kernel_rfl) enc27 enc27_len enc27_one cf27 swo27 40 #[] g 0 cap d w eg hc hH hAt.lt (by omega) tot27
      rw [hdn] at hS
      refine hS.mono ?_
      rintro e w' ⟨rfl, n, os, rfl⟩
      obtain ⟨d', hd'⟩ : ∃ d' : Array P27, (d.toList.mergeSort fun x y => !(ltOf cf27) y x).toArray = d' := ⟨_, rfl⟩
      have hm := merge_ins d.toList
      rw [hd] at hm
      have hF' : flatK enc27 27 d' = u8s (insA [] qs).flatten := by rw [flatK_27, ← hd', ← hm]
      have hln : (insA [] qs).length = qs.length := by
        have := (insA_perm qs []).length_eq
        simpa using this
      have hlen : (u8s (insA [] qs).flatten).size = qs.length * 27 := by
        rw [u8s_size, flatten_len27 _ (fun q h => hl q (by have := (insA_perm qs []).mem_iff.1 h; simpa using this)), hln]
      rw [hd']
      unfold sortWorldK putRowK
      rw [hF']
      refine ⟨rfl, ?_, fun B w0 h1 h2 => grow_below h1 hAt.lt (by omega)⟩
      have hpt := put_take (D := u8s (insA [] qs).flatten) (cur := cur) (by rw [hlen, hsz]; exact Nat.mul_le_mul_right _ hle)
      refine ⟨by rw [hln]; simpa using hlen, .inr ⟨g, cap, _, by rw [hln], hb, grow_at hAt, by rw [hln]; exact hle, hcap, by rw [hpt.1]; exact hsz, ?_⟩⟩
      rw [hln, ← hlen]
      exact hpt.2
end Go.Proofs.Ytmbjpnkedepijaa
