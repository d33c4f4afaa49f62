import Derived.Test.YtolihfbnbkaflaaX3
namespace Go.Proofs.Ytolihfbnbkaflaa
set_option linter.unusedSimpArgs false
open Go.RowKit
theorem ins_lo {fs : List F2} {i j : Nat} {x : F2} (h : i ≤ fs.length) (hj : j < i) : (ins fs i x).getD j f2z = fs.getD j f2z := by
  unfold ins
  simp only [List.getD]
  rw [List.getElem?_append_left (by rw [List.length_take]; omega), List.getElem?_take_of_lt hj]
theorem ins_mid {fs : List F2} {i : Nat} {x : F2} (h : i ≤ fs.length) : (ins fs i x).getD i f2z = x := by
  unfold ins
  simp only [List.getD]
  rw [List.getElem?_append_right (by rw [List.length_take]; omega), List.length_take, Nat.min_eq_left h, Nat.sub_self]
  rfl
theorem ins_hi {fs : List F2} {i j : Nat} {x : F2} (h : i ≤ fs.length) (hj : i < j) : (ins fs i x).getD j f2z = (fs.drop i).getD (j - i - 1) f2z := by
  unfold ins
  simp only [List.getD]
  rw [List.getElem?_append_right (by rw [List.length_take]; omega), List.length_take, Nat.min_eq_left h]
  obtain ⟨k, hk⟩ : ∃ k, j - i = k + 1 := ⟨j - i - 1, by omega⟩
  rw [hk, List.getElem?_cons_succ, Nat.add_sub_cancel]
theorem ins_cells {W : World} {b i : Nat} {fs : List F2} {x : F2} (hi : i ≤ fs.length) (hb : b < W.heap.size)
    (lo : ∀ j, j < i * 2 → W.cell? ⟨b, j, none⟩ = (fileCells fs)[j]?) (m0 : W.cell? ⟨b, i * 2, none⟩ = some (.string x.nm)) (m1 : W.cell? ⟨b, i * 2 + 1, none⟩ = some (.string x.tx))
    (up : ∀ j, j < (fs.length - i) * 2 → W.cell? ⟨b, (i + 1) * 2 + j, none⟩ = (fileCells (fs.drop i))[j]?) : FilesAt W (some ⟨b, 0, none⟩) (ins fs i x) := by
  refine .inr ⟨b, 0, rfl, hb, fun j hj => ?_⟩
  rw [ins_len _ _ _ hi] at hj
  rw [Nat.zero_add]
  rcases Nat.lt_trichotomy j i with h | h | h
  · rw [ins_lo hi h, lo _ (by omega), lo _ (by omega)]
    exact fileCells_get fs j (by omega)
  · subst h
    rw [ins_mid hi]
    exact ⟨m0, m1⟩
  · rw [ins_hi hi h]
    have e := fileCells_get (fs.drop i) (j - i - 1) (by rw [List.length_drop]; omega)
    have u0 := up ((j - i - 1) * 2) (by omega)
    have u1 := up ((j - i - 1) * 2 + 1) (by omega)
    rw [show (i + 1) * 2 + (j - i - 1) * 2 = j * 2 by omega] at u0
    rw [show (i + 1) * 2 + ((j - i - 1) * 2 + 1) = j * 2 + 1 by omega] at u1
    rw [u0, u1]
    exact e
theorem own_new {w : World} {B : Nat} {v : Value} {gs : List F2} (h : OwnF w B v gs) {p : Nat} (hp : p < gs.length) : ∃ a cap, v = .slice a gs.length cap ∧ NewF B w a gs := by
  obtain ⟨g, cap, hv, hg, hnc, hcel, hfz, hgw⟩ := own_parts h hp
  have hf : FilesAt w (some ⟨g, 0, none⟩) gs := .inr ⟨g, 0, rfl, hgw, fun i hi => by rw [Nat.zero_add]; exact hcel i hi⟩
  exact ⟨_, cap, hv, hf, .inr ⟨g, rfl, hg, open_of_files hf hgw hfz⟩⟩
theorem ins_end (fs : List F2) (x : F2) : ins fs fs.length x = fs ++ [x] := by unfold ins; rw [List.take_length, List.drop_length]
/-- A slice of these files, in new memory. -/
def IsIns (B : Nat) (gs : List F2) (n : Nat) (e : Ending) (w' : World) : Prop := ∃ a' cap', e = .returned (.slice a' n cap') ∧ NewF B w' a' gs
set_option maxHeartbeats 1000000 in
set_option maxRecDepth 100000 in
/-- Insert at the end. -/
theorem c27e (B vb : Nat) (av : Option Addr) (cv : Nat) (fs : List F2) (x : F2) (w : World) (hown : OwnF w B (.slice av fs.length cv) fs) (hl : fs.length ≤ 40) (hB : B ≤ w.heap.size)
    (hvs : ∀ j v, [Value.string x.nm, .string x.tx][j]? = some v → w.cell? ((⟨vb, 0, none⟩ : Addr).add j) = some v) :
    Calls Try.prog 27 #[.slice av fs.length cv, .int .i64 fs.length, .slice (some ⟨vb, 0, none⟩) 1 1] w fun e w' => IsIns B (ins fs fs.length x) (fs.length + 1) e w' ∧ Below B w w' := by
  obtain ⟨i0, hi, hz0, hz1, hz2⟩ := info_parts info38
  have hcv := own_cap hown
  have hlt := hown.lt
  have hownR : w.ownsRow B 38 2 (.slice av fs.length cv) fs.length (fileCells fs) := hown
  have HV : Hid (∀ j v, [Value.string x.nm, .string x.tx][j]? = some v → w.cell? ((⟨vb, 0, none⟩ : Addr).add j) = some v) := hvs
  clear hown hvs
  go_enter Try.func27, Try.ntmps27
  go_wp2_with (at_builtin; refine wpList_append_own _ rfl _ _ 27 rfl B 38 i0 (.agg #[.string ⟨#[]⟩, .string ⟨#[]⟩]) 2 32 Try.underlying27 hi hz0 hz1 hz2 rfl (by decide) _ _ _ rfl hownR ⟨vb, 0, none⟩ 1 1 [.string x.nm, .string x.tx] rfl rfl HV.out (by intro u hu; simp at hu; rcases hu with rfl | rfl <;> rfl) (by unfold maxLen; omega) (by omega) hB ?_; intro v' w1 hown' hgrow _)
  all_goals
    have HB : Hid (Below B w w1) := (Below.refl B w).grown hgrow hB (fun k hk => (hlt k hk).1)
    have HO : Hid (OwnF w1 B v' (fs ++ [x])) := by
      show w1.ownsRow B 38 2 v' (fs ++ [x]).length (fileCells (fs ++ [x]))
      rw [fileCells_app, List.length_append]
      exact hown'
    obtain ⟨a', cap', hv', hnew⟩ := own_new HO.out (p := fs.length) (by simp)
    have HN : Hid (NewF B w1 a' (ins fs fs.length x)) := by rw [ins_end]; exact hnew
    have hv'' : v' = .slice a' (fs.length + 1) cap' := by rw [hv']; simp
    subst hv''
    clear hown' hgrow hnew hv'
    go_wp2
    go_ret
    exact ⟨⟨a', cap', rfl, HN.out⟩, HB.out⟩
theorem in_cell {b o : Nat} {vs : List Value} {w : World} (h : ∀ j, j < vs.length → (w.cell? ⟨b, o + j, none⟩).isSome = true) (j : Nat) (hj : j < vs.length) : (w.setCells b o vs).cell? ⟨b, o + j, none⟩ = vs[j]? := by
  rw [World.cell?_setCells_in b vs o w h j hj, List.getElem?_eq_getElem hj]
theorem out_cell {b o q : Nat} {vs : List Value} {w : World} (h : q < o ∨ o + vs.length ≤ q) : (w.setCells b o vs).cell? ⟨b, q, none⟩ = w.cell? ⟨b, q, none⟩ := World.cell?_setCells_out b vs o w _ (fun _ _ => h)
theorem c27 (B vb p : Nat) (av : Option Addr) (cv : Nat) (fs : List F2) (x : F2) (w : World) (hown : OwnF w B (.slice av fs.length cv) fs) (hp : p ≤ fs.length) (hl : fs.length ≤ 40) (hB : B ≤ w.heap.size)
    (hvb : w.heap[vb]? = some (.cells #[.string x.nm, .string x.tx] 38 (0, 0))) (hne : ∀ k, (Value.slice av fs.length cv).ownBlock = some k → vb ≠ k) :
    Calls Try.prog 27 #[.slice av fs.length cv, .int .i64 p, .slice (some ⟨vb, 0, none⟩) 1 1] w fun e w' => IsIns B (ins fs p x) (fs.length + 1) e w' ∧ Below B w w' := by
  have hvw : vb < w.heap.size := blk_lt hvb
  have hvs : ∀ j v, [Value.string x.nm, .string x.tx][j]? = some v → w.cell? ⟨vb, 0 + j, none⟩ = some v := fun j v h => by
    rw [Nat.zero_add, Lib.cell_of_heap hvb]; simpa using h
  have hdl : (fileCells (fs.drop p)).length = (fs.length - p) * 2 := by rw [fileCells_len, List.length_drop]
  by_cases hpe : p = fs.length
  · subst hpe
    exact c27e B vb av cv fs x w hown hl hB (fun j v h => by rw [addX]; exact hvs j v h)
  have hpl : p < fs.length := by omega
  have hown' := hown
  rcases hown.2 with ⟨hv, h0⟩ | ⟨g, cap, cur, hv, hg, hh, hnc, hcm, hcs, htk⟩
  · omega
  injection hv with e1 e2 e3
  subst e1
  subst e3
  have hgw : g < w.heap.size := blk_lt hh
  have hvg : vb ≠ g := hne g rfl
  have hcel : ∀ j, j < fs.length * 2 → w.cell? ⟨g, j, none⟩ = (fileCells fs)[j]? := fun j hj => hown'.cellAt j hj
  have hcs' : ∀ j v, (fileCells fs)[j]? = some v → w.cell? ⟨g, 0 + j, none⟩ = some v := fun j v h => by
    have : j < fs.length * 2 := by rw [← fileCells_len]; exact (List.getElem?_eq_some_iff.1 h).1
    rw [Nat.zero_add, hcel j this]; exact h
  by_cases hroom : fs.length + 1 ≤ cv
  · have hsp : ∀ j, j < (fs.length + 1) * 2 → (w.cell? ⟨g, j, none⟩).isSome = true := fun j hj => by
      rw [Lib.cell_of_heap hh, Array.getElem?_eq_getElem (by rw [hcs]; omega)]; rfl
    have hfz : ∀ j, w.frozen? ⟨g, j, none⟩ = false := fun j => Lib.frozen_of_heap hh j
    refine (c27s g cv p vb fs x w hpl hl hroom hvg hcs' hsp hfz hvs 38 38 2 cur.size (by simp [World.shape?, hvb]) (by simp [World.shape?, hh]) (by omega) (fun j => Lib.frozen_of_heap hvb j)).mono ?_
    rintro e w' ⟨rfl, rfl⟩
    have hbu : But g w ((w.drew.setCells g ((p + 1) * 2) (fileCells (fs.drop p))).setCells g (p * 2) [.string x.nm, .string x.tx]) := But.setCells g _ _ (But.setCells g _ _ (But.refl _ _).drew)
    have hs1 : ∀ j, j < (fs.length + 1) * 2 → ((w.drew.setCells g ((p + 1) * 2) (fileCells (fs.drop p))).cell? ⟨g, j, none⟩).isSome = true := fun j hj => isSome_setCells g _ _ _ _ (hsp j hj)
    have hfw : ∀ j, ((w.drew.setCells g ((p + 1) * 2) (fileCells (fs.drop p))).setCells g (p * 2) [.string x.nm, .string x.tx]).frozen? ⟨g, j, none⟩ = false := fun j => by rw [World.frozen?_setCells, World.frozen?_setCells]; exact hfz j
    have hgz : g < ((w.drew.setCells g ((p + 1) * 2) (fileCells (fs.drop p))).setCells g (p * 2) [.string x.nm, .string x.tx]).heap.size := Nat.lt_of_lt_of_le hgw hbu.size
    have hin : ∀ j, j < 2 → ((w.drew.setCells g ((p + 1) * 2) (fileCells (fs.drop p))).setCells g (p * 2) [.string x.nm, .string x.tx]).cell? ⟨g, p * 2 + j, none⟩ = [Value.string x.nm, .string x.tx][j]? := fun j hj => in_cell (fun q hq => hs1 _ (by simp at hq; omega)) j (by simpa using hj)
    have hF := ins_cells (x := x) hp hgz
      (fun j hj => by rw [out_cell (.inl hj), out_cell (.inl (by omega))]; exact hcel j (by omega))
      (hin 0 (by omega)) (hin 1 (by omega))
      (fun j hj => by rw [out_cell (.inr (by simp; omega))]; exact in_cell (w := w.drew) (o := (p + 1) * 2) (fun q hq => hsp ((p + 1) * 2 + q) (by rw [hdl] at hq; omega)) j (by rw [hdl]; exact hj))
    refine ⟨⟨_, _, rfl, hF, .inr ⟨g, rfl, hg, open_of_files hF hgz hfw⟩⟩, hbu.below hg hB⟩
  · refine (c27g g cv p vb fs x w hpl hl hnc (by omega) hgw hvw hcs' hvs).mono ?_
    rintro e w' ⟨G, ROW, hG, hR, hR1, rfl, rfl⟩
    have hbl : Below w.heap.size w (w.alloc (.cells ROW 38)).drew := ((Below.refl _ _).alloc (Nat.le_refl _) _).drew
    have hh1 : (w.alloc (.cells ROW 38)).drew.heap[w.heap.size]? = some (.cells ROW 38 (0, 0)) := alloc_new (w := w) rfl _
    have hN : ∀ j, j < (fs.length + 1) * 2 → ((w.alloc (.cells ROW 38)).drew.cell? ⟨w.heap.size, j, none⟩).isSome = true := fun j hj => by
      rw [Lib.cell_of_heap hh1, Array.getElem?_eq_getElem (by omega)]; rfl
    have hbu : But w.heap.size w ((((w.alloc (.cells ROW 38)).drew.setCells w.heap.size (p * 2) [.string x.nm, .string x.tx]).drew).setCells w.heap.size ((p + 1) * 2) (fileCells (fs.drop p))) := But.setCells _ _ _ (But.setCells _ _ _ (But.of_below hbl)).drew
    have hs1 : ∀ j, j < (fs.length + 1) * 2 → (((w.alloc (.cells ROW 38)).drew.setCells w.heap.size (p * 2) [.string x.nm, .string x.tx]).drew.cell? ⟨w.heap.size, j, none⟩).isSome = true := fun j hj => isSome_setCells _ _ _ _ _ (hN j hj)
    have hgz : w.heap.size < ((((w.alloc (.cells ROW 38)).drew.setCells w.heap.size (p * 2) [.string x.nm, .string x.tx]).drew).setCells w.heap.size ((p + 1) * 2) (fileCells (fs.drop p))).heap.size := by
      have h1 : But w.heap.size (w.alloc (.cells ROW 38)).drew ((((w.alloc (.cells ROW 38)).drew.setCells w.heap.size (p * 2) [.string x.nm, .string x.tx]).drew).setCells w.heap.size ((p + 1) * 2) (fileCells (fs.drop p))) := But.setCells _ _ _ (But.setCells _ _ _ (But.refl _ _)).drew
      exact Nat.lt_of_lt_of_le (blk_lt hh1) h1.size
    have hfw : ∀ j, ((((w.alloc (.cells ROW 38)).drew.setCells w.heap.size (p * 2) [.string x.nm, .string x.tx]).drew).setCells w.heap.size ((p + 1) * 2) (fileCells (fs.drop p))).frozen? ⟨w.heap.size, j, none⟩ = false := fun j => by
      rw [World.frozen?_setCells]
      exact (World.frozen?_setCells _ _ _ _ _).trans (Lib.frozen_of_heap hh1 j)
    have hin : ∀ j, j < 2 → ((((w.alloc (.cells ROW 38)).drew.setCells w.heap.size (p * 2) [.string x.nm, .string x.tx]).drew).setCells w.heap.size ((p + 1) * 2) (fileCells (fs.drop p))).cell? ⟨w.heap.size, p * 2 + j, none⟩ = [Value.string x.nm, .string x.tx][j]? := fun j hj => by
      rw [out_cell (.inl (by omega))]
      exact in_cell (w := (w.alloc (.cells ROW 38)).drew) (fun q hq => hN _ (by simp at hq; omega)) j (by simpa using hj)
    have hF := ins_cells (x := x) hp hgz
      (fun j hj => by
        rw [out_cell (.inl (by omega))]
        exact ((out_cell (w := (w.alloc (.cells ROW 38)).drew) (.inl hj)).trans (Lib.cell_of_heap hh1 j)).trans (hR1 j hj))
      (hin 0 (by omega)) (hin 1 (by omega))
      (fun j hj => in_cell (fun q hq => hs1 _ (by rw [hdl] at hq; omega)) j (by rw [hdl]; exact hj))
    refine ⟨⟨_, _, rfl, hF, .inr ⟨w.heap.size, rfl, hB, open_of_files hF hgz hfw⟩⟩, hbu.below hB hB⟩
end Go.Proofs.Ytolihfbnbkaflaa
