import Derived.Test.YtolihfbnbkaflaaW3
namespace Go.Proofs.Ytolihfbnbkaflaa
open Go.RowKit
theorem owns_but {b : Nat} {w w' : World} {base : Nat} {e : TypeId} {size : Nat} {v : Value} {n : Nat} {xs : List Value} (h : w.ownsRow base e size v n xs) (hb : But b w w') (hne : v.ownBlock ≠ some b) : w'.ownsRow base e size v n xs := by
  refine ⟨h.1, ?_⟩
  rcases h.2 with h2 | ⟨g, cap, cur, hv, hg, hh, r⟩
  · exact .inl h2
  · refine .inr ⟨g, cap, cur, hv, hg, ?_, r⟩
    rw [hb.block g (blk_lt hh) (fun e => hne (by rw [hv, e]; rfl))]
    exact hh

theorem row_form2 {w : World} {B : Nat} {e : TypeId} {v : Value} {n : Nat} {xs : List Value} (h : w.ownsRow B e 2 v n xs) : ∃ ao c, v = .slice ao n c := by
  rcases h.2 with ⟨hv, h0⟩ | ⟨g, cap, cur, hv, _⟩
  · exact ⟨none, 0, by rw [hv, h0]⟩
  · exact ⟨_, _, hv⟩
theorem row2n (w : World) (x y : Value) (t : TypeId) : ∀ j u, [x, y][j]? = some u → (w.alloc (.cells #[x, y] t)).cell? ((⟨w.heap.size, 0, none⟩ : Addr).add j) = some u := by
  intro j u h
  match j, h with
  | 0, h => simp at h; subst h; simp [Addr.add]
  | 1, h => simp at h; subst h; simp [Addr.add]
theorem row2g {w : World} {g : Nat} (hg : g = w.heap.size) (x y : Value) (t : TypeId) : ∀ j u, [x, y][j]? = some u → (w.alloc (.cells #[x, y] t)).cell? ((⟨g, 0, none⟩ : Addr).add j) = some u := by
  subst hg; exact row2n w x y t
theorem row2d (w : World) (x y : Value) (t : TypeId) : ∀ j u, [x, y][j]? = some u → (w.alloc (.cells #[x, y] t)).drew.cell? ((⟨w.heap.size, 0, none⟩ : Addr).add j) = some u := fun j u h => row2n w x y t j u h
theorem take_succ_getD {fs : List F2} {k : Nat} (h : k < fs.length) : fs.take (k + 1) = fs.take k ++ [fs.getD k f2z] := by
  rw [List.take_succ_eq_append_getElem h]; simp [List.getD, List.getElem?_eq_getElem h]
def without (fs : List F2) (nm : ByteArray) : List F2 := fs.filter fun x => !(x.nm.toList == nm.toList)
theorem without_skip {fs : List F2} {nm : ByteArray} {k : Nat} (h : k < fs.length) (hx : ((fs.getD k f2z).nm.toList == nm.toList) = true) : without (fs.take (k + 1)) nm = without (fs.take k) nm := by
  unfold without
  rw [take_succ_getD h, List.filter_append]
  generalize fs.getD k f2z = x at *
  simp [hx]
theorem without_keep {fs : List F2} {nm : ByteArray} {k : Nat} (h : k < fs.length) (hx : ((fs.getD k f2z).nm.toList == nm.toList) = false) : without (fs.take (k + 1)) nm = without (fs.take k) nm ++ [fs.getD k f2z] := by
  unfold without
  rw [take_succ_getD h, List.filter_append]
  generalize fs.getD k f2z = x at *
  simp [hx]
theorem without_len (fs : List F2) (nm : ByteArray) : (without fs nm).length ≤ fs.length := List.length_filter_le _ _
/-- The state of the loop that takes a file out. -/
structure WoAt (w wr : World) (t : Value) (v : Value) (gs : List F2) : Prop where
  bel : Below w.heap.size w wr
  ht : wr.heap[w.heap.size]? = some (.cells #[t] 29 (0, 0))
  hr : wr.heap[w.heap.size + 1]? = some (.cells #[.slice none 0 0] 29 (0, 0))
  ho : wr.heap[w.heap.size + 1 + 1]? = some (.cells #[v] 29 (0, 0))
  own : OwnF wr (w.heap.size + 3) v gs
theorem alloc_new {w : World} {g : Nat} (hg : g = w.heap.size) (o : Obj) : (w.alloc o).heap[g]? = some o := by
  subst hg; exact Array.getElem?_push_size
def strOf : Value → Nat | .string s => s.size | _ => 0
theorem alloc_old {w : World} {g : Nat} (hg : g < w.heap.size) (o : Obj) : (w.alloc o).heap[g]? = w.heap[g]? := Below.heap_alloc w o g hg
theorem WoAt.start (w : World) (t : Value) : WoAt w (((w.alloc (.cells #[t] 29)).alloc (.cells #[.slice none 0 0] 29)).alloc (.cells #[.slice none 0 0] 29)) t (.slice none 0 0) [] := by
  refine ⟨((((Below.refl _ _).alloc (Nat.le_refl _) _).alloc (by simp) _).alloc (by simp; omega) _), ?_, ?_, ?_, ⟨rfl, .inl ⟨rfl, rfl⟩⟩⟩
  · rw [alloc_old (by simp; omega), alloc_old (by simp)]; exact alloc_new rfl _
  · rw [alloc_old (by simp)]; exact alloc_new (by simp) _
  · exact alloc_new (by simp) _
theorem WoAt.sz {w wr : World} {t v : Value} {gs : List F2} (h : WoAt w wr t v gs) : w.heap.size + 3 ≤ wr.heap.size := blk_lt h.ho
theorem WoAt.cells {w wr : World} {t v : Value} {gs : List F2} (h : WoAt w wr t v gs) : wr.cell? ⟨w.heap.size, 0, none⟩ = some t ∧ wr.cell? ⟨w.heap.size + 1, 0, none⟩ = some (.slice none 0 0) ∧ wr.cell? ⟨w.heap.size + 1 + 1, 0, none⟩ = some v ∧ wr.frozen? ⟨w.heap.size + 1, 0, none⟩ = false ∧ wr.frozen? ⟨w.heap.size + 1 + 1, 0, none⟩ = false :=
  ⟨by rw [Lib.cell_of_heap h.ht]; rfl, by rw [Lib.cell_of_heap h.hr]; rfl, by rw [Lib.cell_of_heap h.ho]; rfl, Lib.frozen_of_heap h.hr 0, Lib.frozen_of_heap h.ho 0⟩
theorem WoAt.app {w wr w2 : World} {t v v' : Value} {gs : List F2} {x : F2} {o : Obj} (h : WoAt w wr t v gs) (ho : w2.ownsRow (w.heap.size + 3) 38 2 v' (gs.length + 1) (fileCells gs ++ [.string x.nm, .string x.tx])) (hg : (wr.alloc o).drew.grownBy w2 v.ownBlock) :
    WoAt w (w2.setCell ⟨w.heap.size + 1 + 1, 0, none⟩ v') t v' (gs ++ [x]) ∧ w2.cell? ⟨w.heap.size + 1 + 1, 0, none⟩ = some v ∧ w2.frozen? ⟨w.heap.size + 1 + 1, 0, none⟩ = false := by
  have hz := h.sz
  have hd : (wr.alloc o).drew.heap.size = wr.heap.size + 1 := by show (wr.alloc o).heap.size = _; simp
  have key : ∀ k, k < w.heap.size + 3 → w2.heap[k]? = wr.heap[k]? := fun k hk => by
    rw [hg.block k (by rw [hd]; omega) (fun e => by have := (h.own.lt k e.symm).1; omega)]
    show (wr.alloc o).heap[k]? = _
    exact alloc_old (by omega) _
  have hbel : Below w.heap.size w w2 := ((h.bel.alloc (by omega) _).drew).grown hg (by rw [hd]; omega) (fun k hk => by have := (h.own.lt k hk).1; omega)
  have b2 : w2.heap[w.heap.size + 1 + 1]? = some (.cells #[v] 29 (0, 0)) := (key _ (by omega)).trans h.ho
  have hz2 : w.heap.size + 3 ≤ w2.heap.size := blk_lt b2
  refine ⟨⟨hbel.setCell (by simp; omega) _, ?_, ?_, ?_, ?_⟩, by rw [Lib.cell_of_heap b2]; rfl, Lib.frozen_of_heap b2 0⟩
  · rw [Below.heap_setCell _ _ _ _ (by simp; omega)]; exact (key _ (by omega)).trans h.ht
  · rw [Below.heap_setCell _ _ _ _ (by simp)]; exact (key _ (by omega)).trans h.hr
  · exact heap_setCell_same w2 (w.heap.size + 1 + 1) 0 _ 29 v' b2
  · have hl : (gs ++ [x]).length = gs.length + 1 := by simp
    show (w2.setCell ⟨w.heap.size + 1 + 1, 0, none⟩ v').ownsRow (w.heap.size + 3) 38 2 v' (gs ++ [x]).length (fileCells (gs ++ [x]))
    rw [hl, fileCells_app]
    refine owns_but (b := w.heap.size + 1 + 1) ho ((But.refl _ _).setCell _ _) (fun e => by have := (ho.lt _ e).1; omega)
set_option maxHeartbeats 1000000 in
theorem c30 (a : Option Addr) (cap : Nat) (fs : List F2) (nm : ByteArray) (w : World) (hl : fs.length ≤ 40) (hat : FilesAt w a fs) :
    Calls Try.prog 30 #[.agg #[.slice a fs.length cap], .string nm] w fun e w' => (∃ r : Int, e = .returned (.int .i64 r) ∧ ((r < 0 ∧ ∀ i, i < fs.length → (fs.getD i f2z).nm ≠ nm) ∨ (0 ≤ r ∧ ∃ i, i < fs.length ∧ (fs.getD i f2z).nm = nm))) ∧ Below w.heap.size w w' := by
  obtain ⟨b, off, hc⟩ := files_some hat
  have HC : Hid (fs = [] ∨ (a = some ⟨b, off, none⟩ ∧ b < w.heap.size ∧ ∀ i, i < fs.length → w.cell? ⟨b, off + i * 2, none⟩ = some (.string (fs.getD i f2z).nm) ∧ w.cell? ⟨b, off + i * 2 + 1, none⟩ = some (.string (fs.getD i f2z).tx))) := hc
  have HB : Below w.heap.size w (w.alloc (.cells #[.slice a fs.length cap] 29)) := (Below.refl _ _).alloc (Nat.le_refl _) _
  clear hc hat
  go_enter Try.func30, Try.ntmps30
  go_wp2_with fail
  go_loop [5] (fun i => ∃ k : Nat, k ≤ fs.length ∧ i = .int .i64 k ∧ Hid (∀ j, j < k → (fs.getD j f2z).nm ≠ nm)) (fun i => fs.length - (intOf i).toNat)
  case atStart => exact ⟨0, Nat.zero_le _, rfl, fun j h => absurd h (Nat.not_lt_zero _)⟩
  case round =>
    obtain ⟨k, hk, rfl, hno⟩ := hrel
    by_cases hlt : k < fs.length
    · rcases HC.out with hss | ⟨ha, hbw, hcell⟩
      · rw [hss] at hlt; exact absurd hlt (Nat.not_lt_zero _)
      subst ha
      have g0 := (HB.cell (p := ⟨b, off + k * 2, none⟩) hbw).trans (hcell k hlt).1
      have HX : Hid (∃ x, x = fs.getD k f2z) := ⟨_, rfl⟩
      obtain ⟨x, hx⟩ := HX.out
      rw [← hx] at g0
      have HXE : Hid (x = fs.getD k f2z) := hx
      clear hcell hx HX
      cases hq : (x.nm.toList == nm.toList)
      · have hno' : Hid (∀ j, j < k + 1 → (fs.getD j f2z).nm ≠ nm) := fun j hj => by
          rcases Nat.lt_or_ge j k with h | h
          · exact hno.out j h
          · obtain rfl : j = k := by omega
            rw [← HXE.out]
            intro e
            rw [e] at hq
            simp at hq
        go_wp2
        go_round
        case rel => exact ⟨k + 1, by omega, by go_num, hno'⟩
        case measure => simp [intOf]; omega
      · have he : x.nm = nm := by
          have := beq_iff_eq.1 hq
          rw [ByteArray.toList_eq, ByteArray.toList_eq] at this
          exact ByteArray.ext (Array.toList_inj.1 this)
        have HR : Hid (∃ i, i < fs.length ∧ (fs.getD i f2z).nm = nm) := ⟨k, hlt, by rw [← HXE.out]; exact he⟩
        clear he
        go_wp2
        go_ret
        exact ⟨⟨_, rfl, .inr ⟨by omega, HR.out⟩⟩, HB⟩
    · go_wp2
      go_ret
      exact ⟨⟨-1, rfl, .inl ⟨by omega, fun i hi => hno.out i (by omega)⟩⟩, HB⟩

set_option maxHeartbeats 2000000 in
set_option maxRecDepth 100000 in
theorem c24 (a : Option Addr) (cap : Nat) (fs : List F2) (nm : ByteArray) (w : World) (hl : fs.length ≤ 40) (hat : FilesAt w a fs) :
    Calls Try.prog 24 #[.agg #[.slice a fs.length cap], .string nm] w fun e w' => (∃ v, e = .returned (.agg #[v]) ∧ OwnF w' (w.heap.size + 3) v (without fs nm)) ∧ Below w.heap.size w w' := by
  obtain ⟨b, off, hc⟩ := files_some hat
  have HC : Hid (fs = [] ∨ (a = some ⟨b, off, none⟩ ∧ b < w.heap.size ∧ ∀ i, i < fs.length → w.cell? ⟨b, off + i * 2, none⟩ = some (.string (fs.getD i f2z).nm) ∧ w.cell? ⟨b, off + i * 2 + 1, none⟩ = some (.string (fs.getD i f2z).tx))) := hc
  have HS0 := WoAt.start w (.slice a fs.length cap)
  obtain ⟨i0, hi, hz0, hz1, hz2⟩ := info_parts info38
  clear hc hat
  go_enter Try.func24, Try.ntmps24
  go_wp2_with fail
  go_loopw [6] (fun i wr => ∃ (k : Nat) (v : Value), k ≤ fs.length ∧ i = .int .i64 k ∧ Hid (WoAt w wr (.slice a fs.length cap) v (without (fs.take k) nm))) (fun i _ => fs.length - (intOf i).toNat)
  case atStart => exact ⟨0, _, Nat.zero_le _, rfl, HS0⟩
  case round =>
    obtain ⟨k, v, hk, rfl, hwo⟩ := hrel
    obtain ⟨ct, cr, co, fr, fo⟩ := hwo.out.cells
    have hzr := hwo.out.sz
    by_cases hlt : k < fs.length
    · rcases HC.out with hss | ⟨ha, hbw, hcell⟩
      · rw [hss] at hlt; exact absurd hlt (Nat.not_lt_zero _)
      subst ha
      have g0 := (hwo.out.bel.cell (p := ⟨b, off + k * 2, none⟩) hbw).trans (hcell k hlt).1
      have g1 := (hwo.out.bel.cell (p := ⟨b, off + k * 2 + 1, none⟩) hbw).trans (hcell k hlt).2
      have HK : Hid (((fs.getD k f2z).nm.toList == nm.toList) = true → without (fs.take (k + 1)) nm = without (fs.take k) nm) := without_skip hlt
      have HN : Hid (((fs.getD k f2z).nm.toList == nm.toList) = false → without (fs.take (k + 1)) nm = without (fs.take k) nm ++ [fs.getD k f2z]) := without_keep hlt
      have hgl : (without (fs.take k) nm).length ≤ k := Nat.le_trans (without_len _ _) (List.length_take_le _ _)
      generalize fs.getD k f2z = x at *
      generalize without (fs.take k) nm = gs at *
      clear hcell
      cases hq : (x.nm.toList == nm.toList)
      · have HN' := HN.out hq
        have HNE : Hid (without (fs.take (k + 1)) nm = gs ++ [x]) := HN'
        have hown := hwo.out.own
        obtain ⟨av, cv, hv, _⟩ := hown.form
        subst hv
        clear HK HN HN'
        have co' := past (p := ⟨w.heap.size + 1 + 1, 0, none⟩) (by show w.heap.size + 1 + 1 < wr.heap.size; omega) co
        have hownR : wr.ownsRow (w.heap.size + 3) 38 2 (.slice av gs.length cv) gs.length (fileCells gs) := hwo.out.own
        go_wp2_with fail
        go_region_law (refine step_app rfl (.tmp 24) (.tmp 30) 27 rfl (w.heap.size + 3) 38 i0 (.agg #[.string ⟨#[]⟩, .string ⟨#[]⟩]) 2 32 Try.underlying27 hi hz0 hz1 hz2 rfl (by decide) _ _ _ rfl ((hownR.alloc _).drew) ⟨wr.heap.size, 0, none⟩ 1 1 [_, _] rfl rfl (row2d _ _ _ _) (by intro u hu; simp at hu; rcases hu with rfl | rfl <;> rfl) (by unfold maxLen; omega) (by omega) (by simp; omega) ?_; intro v' w2 hown2 hgrow; have hAP := hwo.out.app (x := x) hown2 hgrow; have HAP : Hid (WoAt w (w2.setCell ⟨w.heap.size + 1 + 1, 0, none⟩ v') (.slice (some ⟨b, off, none⟩) fs.length cap) v' (gs ++ [x])) := hAP.1; have d1 := hAP.2.1; have d2 := hAP.2.2; obtain ⟨ao, cpo, hvf⟩ := row_form2 hown2; subst hvf; clear hAP hown2 hgrow)
        all_goals
          go_wp2
          go_roundw
          case rel => exact ⟨k + 1, _, by omega, by go_num, by rw [HNE.out]; exact HAP.out⟩
          case measure => simp [intOf]; omega
      · have HKE : Hid (without (fs.take (k + 1)) nm = gs) := HK.out hq
        clear HK HN
        go_wp2
        go_roundw
        case rel => exact ⟨k + 1, v, by omega, by go_num, by rw [HKE.out]; exact hwo.out⟩
        case measure => simp [intOf]; omega
    · have HE : Hid (without (fs.take k) nm = without fs nm) := by rw [List.take_of_length_le (by omega)]; rfl
      have hwo2 : Hid (WoAt w wr (.slice a fs.length cap) v (without fs nm)) := by rw [← HE.out]; exact hwo.out
      obtain ⟨av, cv, hv, _⟩ := hwo2.out.own.form
      subst hv
      obtain ⟨ct, cr, co, fr, fo⟩ := hwo2.out.cells
      have hB := hwo2.out.bel
      have HO : Hid (OwnF wr (w.heap.size + 3) (.slice av (without fs nm).length cv) (without fs nm)) := hwo2.out.own
      clear hwo hwo2 HE
      go_wp2
      refine bodyPost_ret (v := .agg #[.slice av (without fs nm).length cv]) (by simp [results, Try.results24, go_sem, cr]) rfl ⟨⟨_, rfl, ?_⟩, ?_⟩
      · exact owns_but (b := w.heap.size + 1) HO.out ((But.refl _ _).setCell _ _) (fun e => by have := (HO.out.lt _ e).1; omega)
      · exact hB.setCell (by simp) _
end Go.Proofs.Ytolihfbnbkaflaa
