import Derived.Test.YtolihfbnbkaflaaX4
namespace Go.Proofs.Ytolihfbnbkaflaa
set_option linter.unusedSimpArgs false
open Go.RowKit
theorem lt_asym {a b : ByteArray} (h : lt a b = true) : lt b a = false := by
  cases hb : lt b a
  · rfl
  · have := lt_trans' h hb; rw [lt_irrefl'] at this; cases this
theorem del_take {fs : List F2} {p : Nat} (h : p < fs.length) : (del fs p).take p = fs.take p := by
  unfold del
  rw [List.take_append_of_le_length (by rw [List.length_take]; omega), List.take_take, Nat.min_self]
theorem del_drop {fs : List F2} {p : Nat} (h : p < fs.length) : (del fs p).drop p = fs.drop (p + 1) := by
  unfold del
  rw [List.drop_append_of_le_length (by rw [List.length_take]; omega), List.drop_take, Nat.sub_self, List.take_zero, List.nil_append]
/-- A file put in the place of another one. -/
def put (fs : List F2) (p : Nat) (x : F2) : List F2 := fs.take p ++ x :: fs.drop (p + 1)
theorem put_ins {fs : List F2} {p : Nat} {x : F2} (h : p < fs.length) : ins (del fs p) p x = put fs p x := by unfold ins put; rw [del_take h, del_drop h]
theorem put_len {fs : List F2} {p : Nat} {x : F2} (h : p < fs.length) : (put fs p x).length = fs.length := by
  unfold put; rw [List.length_append, List.length_cons, List.length_take, List.length_drop]; omega
theorem put_same {fs : List F2} {p : Nat} {x : F2} (h : p < fs.length) : (put fs p x).getD p f2z = x := by
  unfold put
  simp only [List.getD]
  rw [List.getElem?_append_right (by rw [List.length_take]; omega), List.length_take, Nat.min_eq_left (by omega), Nat.sub_self]
  rfl
theorem put_other {fs : List F2} {p i : Nat} {x : F2} (h : p < fs.length) (hi : i ≠ p) : (put fs p x).getD i f2z = fs.getD i f2z := by
  unfold put
  simp only [List.getD]
  rcases Nat.lt_or_ge i p with h1 | h1
  · rw [List.getElem?_append_left (by rw [List.length_take]; omega), List.getElem?_take_of_lt h1]
  · rw [List.getElem?_append_right (by rw [List.length_take]; omega), List.length_take, Nat.min_eq_left (by omega)]
    obtain ⟨k, hk⟩ : ∃ k, i - p = k + 1 := ⟨i - p - 1, by omega⟩
    rw [hk, List.getElem?_cons_succ, List.getElem?_drop]
    congr 2
    omega
theorem setR_put {fs : List F2} {x : F2} {p : Nat} (hok : treeOk fs) (hfx : fileOk x = true) (hp : Place fs x.nm p true) : p < fs.length ∧ SetR fs x 0 (put fs p x) := by
  obtain ⟨hpl, hpn⟩ := hp.here.1 rfl
  have ha := asc_of hok
  have hw : without fs x.nm = del fs p := by rw [← hpn]; exact without_del ha hpl
  have hdl := del_len hpl
  refine ⟨hpl, .inr (.inr (.inr ⟨hok, hfx, by rw [hw, hdl]; have := hok.1; omega, rfl, p, ?_, by rw [hw, put_ins hpl]⟩))⟩
  rw [hw]
  refine ⟨by omega, fun j hj => by rw [del_lo hpl hj]; exact hp.less j hj, ?_⟩
  rcases Nat.lt_or_ge p (del fs p).length with h | h
  · right
    rw [del_hi hpl (Nat.le_refl _), Nat.sub_self, drop_getD, Nat.add_zero]
    have := ha p (p + 1) (by omega) (by omega)
    rw [hpn] at this
    exact lt_asym this
  · left; omega
theorem setR_ins {fs : List F2} {x : F2} {p : Nat} (hok : treeOk fs) (hfx : fileOk x = true) (hp : Place fs x.nm p false) : (40 ≤ fs.length → SetR fs x 3 []) ∧ (fs.length < 40 → SetR fs x 0 (ins fs p x)) := by
  have hno : ∀ i, i < fs.length → (fs.getD i f2z).nm ≠ x.nm := fun i hi e => by
    rcases Nat.lt_or_ge i p with h | h
    · have := hp.less i h; rw [e, lt_irrefl'] at this; cases this
    · rcases Nat.lt_or_ge p i with h1 | h1
      · have h2 := asc_of hok p i h1 hi
        rw [e, hp.more p (Nat.le_refl _) (by omega)] at h2; cases h2
      · obtain rfl : i = p := by omega
        have := hp.here.2 ⟨hi, e⟩; cases this
  have hw := filter_all hno
  refine ⟨fun h => .inr (.inr (.inl ⟨hok, hfx, by rw [hw]; exact h, rfl, rfl⟩)), fun h => .inr (.inr (.inr ⟨hok, hfx, by rw [hw]; exact h, rfl, p, ?_, by rw [hw]⟩))⟩
  rw [hw]
  refine ⟨hp.le, hp.less, ?_⟩
  rcases Nat.lt_or_ge p fs.length with h1 | h1
  · exact .inr (hp.more p (Nat.le_refl _) h1)
  · left; have := hp.le; omega
/-- A file stored into its two cells. -/
theorem put_files {u : World} {g p : Nat} {fs : List F2} {x : F2} (hp : p < fs.length) (hg : g < u.heap.size) (hc : ∀ i, i < fs.length → u.cell? ⟨g, i * 2, none⟩ = some (.string (fs.getD i f2z).nm) ∧ u.cell? ⟨g, i * 2 + 1, none⟩ = some (.string (fs.getD i f2z).tx)) :
    FilesAt ((u.setCell ⟨g, p * 2, none⟩ (.string x.nm)).setCell ⟨g, p * 2 + 1, none⟩ (.string x.tx)) (some ⟨g, 0, none⟩) (put fs p x) := by
  refine .inr ⟨g, 0, rfl, by simpa using hg, fun i hi => ?_⟩
  rw [put_len hp] at hi
  rw [Nat.zero_add]
  by_cases h : i = p
  · subst h
    rw [put_same hp]
    exact set2_at u g (i * 2) _ _ _ _ (hc i hi).1 (hc i hi).2
  · rw [put_other hp h, set2_other _ _ _ _ _ _ (by omega) (by omega), set2_other _ _ _ _ _ _ (by omega) (by omega)]
    exact hc i hi
theorem newF_set {B B' : Nat} {u : World} {a : Option Addr} {gs : List F2} {q j : Nat} {v : Value} (h : NewF B u a gs) (hB : B' ≤ B) (hq : q < B) : NewF B' (u.setCell ⟨q, j, none⟩ v) a gs := by
  refine ⟨?_, ?_⟩
  · rcases h.2 with h0 | ⟨g, ha, hg, ho⟩
    · exact .inl h0
    · have hf := h.1
      rw [ha] at hf ⊢
      exact files_setCell hf (by show q ≠ g; omega)
  · rcases h.2 with h0 | ⟨g, ha, hg, ho⟩
    · exact .inl h0
    · exact .inr ⟨g, ha, by omega, open_far ho (by omega)⟩
set_option maxHeartbeats 2000000 in
set_option maxRecDepth 100000 in
theorem c14 (b off cap : Nat) (fs : List F2) (x : F2) (w : World) (hl : fs.length ≤ 1048576) (hs : ∀ i, (fs.getD i f2z).le 1048576) (hx : x.le 1048576) (hbw : b < w.heap.size) (hcell : ∀ i, i < fs.length → w.cell? ⟨b, off + i * 2, none⟩ = some (.string (fs.getD i f2z).nm) ∧ w.cell? ⟨b, off + i * 2 + 1, none⟩ = some (.string (fs.getD i f2z).tx)) :
    Calls Try.prog 14 #[.agg #[.slice (some ⟨b, off, none⟩) fs.length cap], .agg #[.string x.nm, .string x.tx]] w fun e w' => (∃ a' cap' c gs, e = .returned (.tuple #[.agg #[.slice a' gs.length cap'], .int .i64 c]) ∧ NewF w.heap.size w' a' gs ∧ SetR fs x c gs) ∧ Below w.heap.size w w' := by
  have HA : Hid (FilesAt w (some ⟨b, off, none⟩) fs) := .inr ⟨b, off, rfl, hbw, hcell⟩
  have HCE : Hid (∀ i, i < fs.length → w.cell? ⟨b, off + i * 2, none⟩ = some (.string (fs.getD i f2z).nm) ∧ w.cell? ⟨b, off + i * 2 + 1, none⟩ = some (.string (fs.getD i f2z).tx)) := hcell
  have HS : Hid (∀ i, (fs.getD i f2z).le 1048576) := hs
  have HX7 : Hid (x.le 1048700) := ⟨Nat.le_trans hx.1 (by omega), Nat.le_trans hx.2 (by omega)⟩
  have H0 : Hid (ThreeAt w (((w.alloc (.cells #[.slice (some ⟨b, off, none⟩) fs.length cap] 29)).alloc (.cells #[.string x.nm, .string x.tx] 38)).alloc (.cells #[.slice none 0 0] 29)) (.slice (some ⟨b, off, none⟩) fs.length cap) x (.slice none 0 0)) := ThreeAt.start _ _ _ _
  clear hcell hs hx
  go_enter Try.func14, Try.ntmps14
  go_wp2_with fail
  refine (c9 (some ⟨b, off, none⟩) cap fs _ hl HS.out (files_below HA.out H0.out.bel)).mono ?_
  rintro e u1 ⟨⟨v, rfl, hv⟩, hb1⟩
  have HV : Hid (v = true ↔ treeOk fs) := hv
  have H1 : Hid (ThreeAt w u1 (.slice (some ⟨b, off, none⟩) fs.length cap) x (.slice none 0 0)) := H0.out.later hb1
  obtain ⟨t1, n1, x1, r1, f1⟩ := H1.out.cells
  clear hv hb1 H0
  cases v
  · have HR : Hid (SetR fs x 1 []) := .inl ⟨fun h => (by have := HV.out.2 h; cases this), rfl, rfl⟩
    clear HV
    go_wp2
    refine bodyPost_ret (v := .tuple #[.agg #[.slice none 0 0], .int .i64 1]) (by simp [results, Try.results14, go_sem, r1]) rfl ⟨⟨none, 0, _, [], rfl, ⟨.inl rfl, .inl rfl⟩, HR.out⟩, H1.out.bel.setCell (by simp; omega) _⟩
  have hok := HV.out.1 rfl
  have hl40 : fs.length ≤ 40 := hok.1
  have HOK : Hid (treeOk fs) := hok
  clear hok HV
  go_wp2_with fail
  refine (c22 x u1 HX7.out).mono ?_
  rintro e u2 ⟨rfl, hb2⟩
  have H2 : Hid (ThreeAt w u2 (.slice (some ⟨b, off, none⟩) fs.length cap) x (.slice none 0 0)) := H1.out.later hb2
  clear hb2 t1 n1 x1 r1 f1 H1
  obtain ⟨t2, n2, x2, r2, f2⟩ := H2.out.cells
  cases hfx : fileOk x
  · have HR : Hid (SetR fs x 2 []) := .inr (.inl ⟨HOK.out, hfx, rfl, rfl⟩)
    go_wp2
    refine bodyPost_ret (v := .tuple #[.agg #[.slice none 0 0], .int .i64 2]) (by simp [results, Try.results14, go_sem, r2]) rfl ⟨⟨none, 0, _, [], rfl, ⟨.inl rfl, .inl rfl⟩, HR.out⟩, H2.out.bel.setCell (by simp; omega) _⟩
  have hz2 := H2.out.sz
  go_wp2_with fail
  refine (c25 b off cap fs u2 hl (by omega) (fun i hi => ⟨(H2.out.bel.cell (p := ⟨b, off + i * 2, none⟩) hbw).trans (HCE.out i hi).1, (H2.out.bel.cell (p := ⟨b, off + i * 2 + 1, none⟩) hbw).trans (HCE.out i hi).2⟩)).mono ?_
  rintro e u3 ⟨v, rfl, hown, hb3⟩
  obtain ⟨av, cv, hve, hfv⟩ := hown.form
  subst hve
  have H3 : Hid (ThreeAt w u3 (.slice (some ⟨b, off, none⟩) fs.length cap) x (.slice none 0 0)) := H2.out.later hb3
  have HO3 : Hid (OwnF u3 u2.heap.size (.slice av fs.length cv) fs) := hown
  have hz23 : u2.heap.size ≤ u3.heap.size := hb3.size
  clear hown hb3 hfv t2 n2 x2 r2 f2 H2
  obtain ⟨t3, n3, x3, r3, f3⟩ := H3.out.cells
  go_wp2_with fail
  refine (c26 (some ⟨b, off, none⟩) cap fs x.nm u3 hl40 (files_below HA.out H3.out.bel) (asc_of HOK.out)).mono ?_
  rintro e u4 ⟨⟨p, f, rfl, hpl⟩, hb4⟩
  have HP : Hid (Place fs x.nm p f) := hpl
  have H4 : Hid (ThreeAt w u4 (.slice (some ⟨b, off, none⟩) fs.length cap) x (.slice none 0 0)) := H3.out.later hb4
  have HO4 : Hid (OwnF u4 u2.heap.size (.slice av fs.length cv) fs) := HO3.out.below hb4
  have hz34 : u3.heap.size ≤ u4.heap.size := hb4.size
  clear hpl hb4 t3 n3 x3 r3 f3 H3 HO3
  obtain ⟨t4, n4, x4, r4, f4⟩ := H4.out.cells
  have hz4 := H4.out.sz
  cases f
  · obtain ⟨hs3, hs0⟩ := setR_ins HOK.out hfx HP.out
    by_cases h40 : fs.length = 40
    · have HR : Hid (SetR fs x 3 []) := hs3 (by omega)
      have h40' : ((fs.length : Int) == 40) = true := by simp; omega
      clear hs3 hs0
      go_wp2
      refine bodyPost_ret (v := .tuple #[.agg #[.slice none 0 0], .int .i64 3]) (by simp [results, Try.results14, go_sem, r4]) rfl ⟨⟨none, 0, _, [], rfl, ⟨.inl rfl, .inl rfl⟩, HR.out⟩, H4.out.bel.setCell (by simp; omega) _⟩
    have HR : Hid (SetR fs x 0 (ins fs p x)) := hs0 (by omega)
    have h40' : ((fs.length : Int) == 40) = false := by simp; omega
    clear hs3 hs0
    have hA4 : Below u4.heap.size u4 (u4.alloc (.cells #[.string x.nm, .string x.tx] 38)) := (Below.refl _ _).alloc (Nat.le_refl _) _
    have H5 : Hid (ThreeAt w (u4.alloc (.cells #[.string x.nm, .string x.tx] 38)) (.slice (some ⟨b, off, none⟩) fs.length cap) x (.slice none 0 0)) := H4.out.later hA4
    have HO5 : Hid (OwnF (u4.alloc (.cells #[.string x.nm, .string x.tx] 38)) u2.heap.size (.slice av fs.length cv) fs) := HO4.out.below hA4
    have HV5 : Hid ((u4.alloc (.cells #[.string x.nm, .string x.tx] 38)).heap[u4.heap.size]? = some (.cells #[.string x.nm, .string x.tx] 38 (0, 0))) := alloc_new rfl _
    have HNE : Hid (∀ k, (Value.slice av fs.length cv).ownBlock = some k → u4.heap.size ≠ k) := fun k hk => by have := (HO4.out.lt k hk).2; omega
    have hz5 : u2.heap.size ≤ (u4.alloc (.cells #[.string x.nm, .string x.tx] 38)).heap.size := by simp; omega
    go_wp2_with fail
    refine (c27 u2.heap.size u4.heap.size p av cv fs x _ HO5.out HP.out.le hl40 hz5 HV5.out HNE.out).mono ?_
    rintro e u6 ⟨⟨a', cap', rfl, hnew⟩, hb6⟩
    have HN : Hid (NewF u2.heap.size u6 a' (ins fs p x)) := hnew
    have hb6' : Below u2.heap.size u4 u6 := (hA4.mono (by omega)).trans hb6
    have hr6 : u6.heap[w.heap.size + 1 + 1]? = some (.cells #[.slice none 0 0] 29 (0, 0)) := by rw [hb6'.block _ (by omega)]; exact H4.out.hr
    have r6 : u6.cell? ⟨w.heap.size + 1 + 1, 0, none⟩ = some (.slice none 0 0) := by rw [Lib.cell_of_heap hr6]; rfl
    have f6 : u6.frozen? ⟨w.heap.size + 1 + 1, 0, none⟩ = false := Lib.frozen_of_heap hr6 0
    have hB6 : Below w.heap.size w u6 := H4.out.bel.trans (hb6'.mono (by omega))
    have hil := ins_len fs p x HP.out.le
    clear hnew hb6 hb6' hr6 hA4 H5 HO5 HV5 HNE
    go_wp2
    refine bodyPost_ret (v := .tuple #[.agg #[.slice a' (fs.length + 1) cap'], .int .i64 0]) (by simp [results, Try.results14, go_sem, r6]) rfl ⟨⟨a', cap', 0, ins fs p x, by rw [hil], ?_, HR.out⟩, hB6.setCell (by simp; omega) _⟩
    exact newF_set HN.out (by omega) (by omega)
  · obtain ⟨hpl, hset⟩ := setR_put HOK.out hfx HP.out
    have HR : Hid (SetR fs x 0 (put fs p x)) := hset
    obtain ⟨g, cap4, hve, hg, hnc, hcel, hfz, hgw⟩ := own_parts HO4.out hpl
    have hav : av = some ⟨g, 0, none⟩ ∧ cv = cap4 := by injection hve with h1 _ h3; exact ⟨h1, h3⟩
    obtain ⟨hav, hcc⟩ := hav
    subst hav
    subst hcc
    have g0 := (hcel p hpl).1
    have g1 := (hcel p hpl).2
    have z0 := hfz (p * 2)
    have z1 := hfz (p * 2 + 1)
    have HPF : Hid (FilesAt ((u4.setCell ⟨g, p * 2, none⟩ (.string x.nm)).setCell ⟨g, p * 2 + 1, none⟩ (.string x.tx)) (some ⟨g, 0, none⟩) (put fs p x)) := put_files hpl hgw hcel
    have HFZ : Hid (∀ j, u4.frozen? ⟨g, j, none⟩ = false) := hfz
    have hBU : But g u4 ((u4.setCell ⟨g, p * 2, none⟩ (.string x.nm)).setCell ⟨g, p * 2 + 1, none⟩ (.string x.tx)) := ((But.refl _ _).setCell _ _).setCell _ _
    have HBU : Hid (But g u4 ((u4.setCell ⟨g, p * 2, none⟩ (.string x.nm)).setCell ⟨g, p * 2 + 1, none⟩ (.string x.tx))) := hBU
    have H5 : Hid (ThreeAt w ((u4.setCell ⟨g, p * 2, none⟩ (.string x.nm)).setCell ⟨g, p * 2 + 1, none⟩ (.string x.tx)) (.slice (some ⟨b, off, none⟩) fs.length cap) x (.slice none 0 0)) := H4.out.but hBU (by omega)
    have hpI : (p : Int) < (fs.length : Int) := by omega
    clear hcel hfz hve hset hBU
    have HNF : Hid (NewF u2.heap.size ((u4.setCell ⟨g, p * 2, none⟩ (.string x.nm)).setCell ⟨g, p * 2 + 1, none⟩ (.string x.tx)) (some ⟨g, 0, none⟩) (put fs p x)) := ⟨HPF.out, .inr ⟨g, rfl, hg, open_of_files HPF.out (by simpa using hgw) (fun j => by have := HFZ.out j; simpa using this)⟩⟩
    go_wp2
    have r5 := H5.out.cells.2.2.2.1
    refine bodyPost_ret (v := .tuple #[.agg #[.slice (some ⟨g, 0, none⟩) fs.length cv], .int .i64 0]) (by simp [results, Try.results14, go_sem, r5]) rfl ⟨⟨some ⟨g, 0, none⟩, cv, 0, put fs p x, by rw [put_len hpl], ?_, HR.out⟩, H5.out.bel.setCell (by simp; omega) _⟩
    exact newF_set HNF.out (by omega) (by omega)
end Go.Proofs.Ytolihfbnbkaflaa
