import Derived.Test.YtolihfbnbkaflaaW5
namespace Go.Proofs.Ytolihfbnbkaflaa
open Go.RowKit
set_option maxHeartbeats 1000000 in
theorem c21s (a : Option Addr) (cap : Nat) (rs : List F2) (w : World) (hl : rs.length ≤ 1048576) (hat : FilesAt w a rs) :
    Calls Try.prog 21 #[.slice a rs.length cap] w fun e w' => (e = .returned (.slice (some ⟨w.heap.size, 0, none⟩) rs.length rs.length) ∧ FilesAt w' (some ⟨w.heap.size, 0, none⟩) rs ∧ w.heap.size + 1 ≤ w'.heap.size ∧ ∀ j, w'.frozen? ⟨w.heap.size, j, none⟩ = false) ∧ Below w.heap.size w w' := by
  obtain ⟨b, off, hc⟩ := files_some hat
  have HC : Hid (rs = [] ∨ (a = some ⟨b, off, none⟩ ∧ b < w.heap.size ∧ ∀ i, i < rs.length → w.cell? ⟨b, off + i * 2, none⟩ = some (.string (rs.getD i f2z).nm) ∧ w.cell? ⟨b, off + i * 2 + 1, none⟩ = some (.string (rs.getD i f2z).tx))) := hc
  clear hc hat
  obtain ⟨i0, hi, hz0, hz1, hz2⟩ := info_parts info38
  have hmk : ∀ u : World, (Instr.makeSlice 27 (.int .i64 (rs.length : Int)) (.int .i64 (rs.length : Int))).run Try.prog u =
      .ok (.slice (some ⟨u.heap.size, 0, none⟩) rs.length rs.length) (u.alloc (.cells (madeCells #[.string ⟨#[]⟩, .string ⟨#[]⟩] (rs.length * 2)) 38)) := fun u => by
    have h := run_make (P := Try.prog) u 27 38 i0 (.agg #[.string ⟨#[]⟩, .string ⟨#[]⟩]) Try.underlying27 hi hz0 .i64 .i64 (rs.length : Int) (rs.length : Int) (by omega) (Int.le_refl _) (by rw [hz2]; omega) (by omega)
    simpa [hz1, Value.cells] using h
  go_enter Try.func21, Try.ntmps21
  go_wp2_with fail
  go_loopw [4] (fun i wr => ∃ (k : Nat), k ≤ rs.length ∧ i = .int .i64 k ∧ Below w.heap.size w wr ∧ w.heap.size + 1 ≤ wr.heap.size ∧ (∀ j, wr.frozen? ⟨w.heap.size, j, none⟩ = false) ∧ Hid (∀ j, j < k → wr.cell? ⟨w.heap.size, j * 2, none⟩ = some (.string (rs.getD j f2z).nm) ∧ wr.cell? ⟨w.heap.size, j * 2 + 1, none⟩ = some (.string (rs.getD j f2z).tx)) ∧ Hid (∀ j, k ≤ j → j < rs.length → wr.cell? ⟨w.heap.size, j * 2, none⟩ = some (.string ⟨#[]⟩) ∧ wr.cell? ⟨w.heap.size, j * 2 + 1, none⟩ = some (.string ⟨#[]⟩))) (fun i _ => rs.length - (intOf i).toNat)
  case atStart =>
    refine ⟨0, Nat.zero_le _, rfl, (Below.refl _ _).alloc (Nat.le_refl _) _, by simp, fun j => by simp, fun j h => absurd h (Nat.not_lt_zero _), fun j _ h => ?_⟩
    have e0 := made2 rs.length (j * 2) (by omega)
    have e1 := made2 rs.length (j * 2 + 1) (by omega)
    rw [show j * 2 % 2 = 0 by omega] at e0
    rw [show (j * 2 + 1) % 2 = 1 by omega] at e1
    simp [e0, e1]
  case round =>
    obtain ⟨k, hk, rfl, hb, hz, hfz, hdone, hrest⟩ := hrel
    by_cases hlt : k < rs.length
    · rcases HC.out with hss | ⟨ha, hbw, hcell⟩
      · rw [hss] at hlt; exact absurd hlt (Nat.not_lt_zero _)
      subst ha
      have g0 := (hb.cell (p := ⟨b, off + k * 2, none⟩) hbw).trans (hcell k hlt).1
      have g1 := (hb.cell (p := ⟨b, off + k * 2 + 1, none⟩) hbw).trans (hcell k hlt).2
      obtain ⟨q0, q1⟩ := hrest.out k (Nat.le_refl _) hlt
      generalize hx : rs.getD k f2z = x at *
      have HX : Hid (rs.getD k f2z = x) := hx
      clear hx hcell
      go_wp2_with fail
      refine (c13b x wr).mono ?_
      rintro e w1 ⟨rfl, hb1⟩
      have hB1 : Below w.heap.size w w1 := hb.trans (hb1.mono hb.size)
      have p0 := (hb1.cell (p := ⟨w.heap.size, k * 2, none⟩) (by simp; omega)).trans q0
      have p1 := (hb1.cell (p := ⟨w.heap.size, k * 2 + 1, none⟩) (by simp; omega)).trans q1
      have f0 := (hb1.frozen (p := ⟨w.heap.size, k * 2, none⟩) (by simp; omega)).trans (hfz _)
      have f1 := (hb1.frozen (p := ⟨w.heap.size, k * 2 + 1, none⟩) (by simp; omega)).trans (hfz _)
      have hold : ∀ j, w1.cell? ⟨w.heap.size, j, none⟩ = wr.cell? ⟨w.heap.size, j, none⟩ := fun j => hb1.cell (by simp; omega)
      have HO : Hid (∀ j, w1.cell? ⟨w.heap.size, j, none⟩ = wr.cell? ⟨w.heap.size, j, none⟩) := hold
      have hoz : w.heap.size + 1 ≤ w1.heap.size := Nat.le_trans hz hb1.size
      have HFZ : Hid (∀ j, w1.frozen? ⟨w.heap.size, j, none⟩ = false) := fun j => (hb1.frozen (p := ⟨w.heap.size, j, none⟩) (by simp; omega)).trans (hfz j)
      clear hold
      go_wp2
      go_roundw
      case rel =>
        refine ⟨k + 1, by omega, by go_num, (hB1.setCell (by simp) _).setCell (by simp) _, by simpa using hoz, fun j => by rw [← HFZ.out j]; simp, fun j hj => ?_, fun j h1 h2 => ?_⟩
        · by_cases e : j = k
          · subst e
            rw [HX.out]
            exact set2_at w1 w.heap.size (j * 2) _ _ _ _ p0 p1
          · have hd := hdone.out j (by omega)
            rw [set2_other _ _ _ _ _ _ (by omega) (by omega), set2_other _ _ _ _ _ _ (by omega) (by omega), HO.out, HO.out]
            exact hd
        · have hd := hrest.out j (by omega) h2
          rw [set2_other _ _ _ _ _ _ (by omega) (by omega), set2_other _ _ _ _ _ _ (by omega) (by omega), HO.out, HO.out]
          exact hd
      case measure => simp [intOf]; omega
    · have hdone' : Hid (FilesAt wr (some ⟨w.heap.size, 0, none⟩) rs) := .inr ⟨w.heap.size, 0, rfl, by omega, fun i hi => by simp only [Nat.zero_add]; exact hdone.out i (by omega)⟩
      go_wp2
      go_ret
      exact ⟨⟨rfl, hdone'.out, hz, hfz⟩, hb⟩

theorem open_of_files {w : World} {B : Nat} {fs : List F2} (h : FilesAt w (some ⟨B, 0, none⟩) fs) (hz : B < w.heap.size) (hf : ∀ j, w.frozen? ⟨B, j, none⟩ = false) : Open2 w B fs.length := by
  refine ⟨hz, fun j hj => ?_, hf⟩
  rcases h with h | ⟨b, off, h1, h2, h3⟩
  · rw [h] at hj; simp at hj
  · obtain ⟨rfl, rfl⟩ : B = b ∧ 0 = off := by injection h1 with h1; injection h1 with e1 e2; exact ⟨e1, e2⟩
    have := h3 (j / 2) (by omega)
    simp only [Nat.zero_add] at this
    rcases Nat.mod_two_eq_zero_or_one j with h | h
    · rw [show j = j / 2 * 2 by omega]; exact ⟨_, this.1⟩
    · rw [show j = j / 2 * 2 + 1 by omega]; exact ⟨_, this.2⟩
theorem ne_of_lt' {a b : ByteArray} (h : lt a b = true) : a ≠ b := fun e => by rw [e, lt_irrefl'] at h; cases h
theorem str_ne {x y : ByteArray} (h : x ≠ y) : (x.toList == y.toList) = false := by
  rw [beq_eq_false_iff_ne]
  intro e
  rw [ByteArray.toList_eq, ByteArray.toList_eq] at e
  exact h (ByteArray.ext (Array.toList_inj.1 e))
theorem getD_mem {fs : List F2} {x : F2} (h : x ∈ fs) : ∃ i, i < fs.length ∧ fs.getD i f2z = x := by
  obtain ⟨i, hi, rfl⟩ := List.getElem_of_mem h
  exact ⟨i, hi, by simp [List.getD, List.getElem?_eq_getElem hi]⟩
theorem filter_all {fs : List F2} {nm : ByteArray} (h : ∀ i, i < fs.length → (fs.getD i f2z).nm ≠ nm) : without fs nm = fs := by
  unfold without
  refine List.filter_eq_self.2 fun x hx => ?_
  obtain ⟨i, hi, rfl⟩ := getD_mem hx
  rw [str_ne (h i hi)]; rfl
theorem take_getD {fs : List F2} {p i : Nat} (h : i < p) : (fs.take p).getD i f2z = fs.getD i f2z := by simp [List.getD, List.getElem?_take_of_lt h]
/-- In a valid tree taking a name out is taking its place out. -/
theorem without_del {fs : List F2} {p : Nat} (hm : Asc fs) (hp : p < fs.length) : without fs (fs.getD p f2z).nm = del fs p := by
  have e : fs = fs.take p ++ fs.getD p f2z :: fs.drop (p + 1) := by
    conv => lhs; rw [← List.take_append_drop (p + 1) fs, take_succ_getD hp]
    simp
  have h1 : without (fs.take p) (fs.getD p f2z).nm = fs.take p := filter_all fun i hi => by
    rw [List.length_take] at hi
    rw [take_getD (by omega)]
    exact ne_of_lt' (hm i p (by omega) hp)
  have h2 : without (fs.drop (p + 1)) (fs.getD p f2z).nm = fs.drop (p + 1) := filter_all fun i hi => by
    rw [List.length_drop] at hi
    rw [drop_getD]
    exact (ne_of_lt' (hm p (p + 1 + i) (by omega) (by omega))).symm
  have h3 : without (fs.take p ++ fs.getD p f2z :: fs.drop (p + 1)) (fs.getD p f2z).nm = without (fs.take p) (fs.getD p f2z).nm ++ without (fs.drop (p + 1)) (fs.getD p f2z).nm := by
    unfold without
    rw [List.filter_append, List.filter_cons_of_neg (by simp)]
  rw [← e, h1, h2] at h3
  exact h3
/-- What DropFile answers. -/
def DropR (fs : List F2) (nm : ByteArray) (c : Int) (gs : List F2) : Prop :=
  (¬ treeOk fs ∧ c = 1 ∧ gs = []) ∨ (treeOk fs ∧ (∀ i, i < fs.length → (fs.getD i f2z).nm ≠ nm) ∧ c = 4 ∧ gs = []) ∨ (treeOk fs ∧ (∃ i, i < fs.length ∧ (fs.getD i f2z).nm = nm) ∧ c = 0 ∧ gs = without fs nm)
theorem dropR_one {fs : List F2} {nm : ByteArray} {c c' : Int} {gs gs' : List F2} (h : DropR fs nm c gs) (k : DropR fs nm c' gs') : c' = c ∧ gs' = gs := by
  rcases h with ⟨h1, rfl, rfl⟩ | ⟨h1, h2, rfl, rfl⟩ | ⟨h1, ⟨i, hi, h2⟩, rfl, rfl⟩ <;> rcases k with ⟨k1, rfl, rfl⟩ | ⟨k1, k2, rfl, rfl⟩ | ⟨k1, ⟨j, hj, k2⟩, rfl, rfl⟩
  · exact ⟨rfl, rfl⟩
  · exact absurd k1 h1
  · exact absurd k1 h1
  · exact absurd h1 k1
  · exact ⟨rfl, rfl⟩
  · exact absurd k2 (h2 j hj)
  · exact absurd h1 k1
  · exact absurd h2 (k2 i hi)
  · exact ⟨rfl, rfl⟩
theorem dropR_len {fs : List F2} {nm : ByteArray} {c : Int} {gs : List F2} (h : DropR fs nm c gs) : gs.length ≤ 40 := by
  rcases h with ⟨h1, rfl, rfl⟩ | ⟨h1, h2, rfl, rfl⟩ | ⟨h1, h2, rfl, rfl⟩
  · simp
  · simp
  · exact Nat.le_trans (without_len _ _) h1.1
set_option maxHeartbeats 400000 in
theorem c8s (a : Option Addr) (cap : Nat) (is : List F2) (w : World) (hl : is.length ≤ 1048576) (hat : FilesAt w a is) :
    Calls Try.prog 8 #[.agg #[.slice a is.length cap]] w fun e w' => (∃ B, w.heap.size ≤ B ∧ e = .returned (.agg #[.slice (some ⟨B, 0, none⟩) is.length is.length]) ∧ FilesAt w' (some ⟨B, 0, none⟩) is ∧ Open2 w' B is.length) ∧ Below w.heap.size w w' := by
  have HA : Hid (FilesAt w a is) := hat
  clear hat
  go_enter Try.func8, Try.ntmps8
  go_wp2_with fail
  refine (c21s a cap is _ hl (files_below HA.out ((((Below.refl _ _).alloc (Nat.le_refl _) _).alloc (by simp) _).alloc (by simp; omega) _))).mono ?_
  rintro e w1 ⟨⟨rfl, h1, hz1, hf1⟩, hb1⟩
  have hsz : (((w.alloc (.cells #[.slice a is.length cap] 24)).alloc (.cells #[.slice none 0 0] 29)).alloc (.cells #[.slice none 0 0] 29)).heap.size = w.heap.size + 3 := by simp
  have H1 : Hid (FilesAt w1 (some ⟨w.heap.size + 3, 0, none⟩) is) := by rw [← hsz]; exact h1
  have hB : Below w.heap.size w w1 := ((((Below.refl _ _).alloc (Nat.le_refl _) _).alloc (by simp) _).alloc (by simp; omega) _).trans (hb1.mono (by simp; omega))
  have e1 : w1.cell? ⟨w.heap.size + 1, 0, none⟩ = some (.slice none 0 0) := (hb1.cell (p := ⟨w.heap.size + 1, 0, none⟩) (by simp)).trans (by simp [go_sem])
  have e2 : w1.cell? ⟨w.heap.size + 1 + 1, 0, none⟩ = some (.slice none 0 0) := (hb1.cell (p := ⟨w.heap.size + 1 + 1, 0, none⟩) (by simp)).trans (by simp [go_sem])
  have f1 : w1.frozen? ⟨w.heap.size + 1, 0, none⟩ = false := (hb1.frozen (p := ⟨w.heap.size + 1, 0, none⟩) (by simp)).trans (by simp [go_sem])
  have f2 : w1.frozen? ⟨w.heap.size + 1 + 1, 0, none⟩ = false := (hb1.frozen (p := ⟨w.heap.size + 1 + 1, 0, none⟩) (by simp)).trans (by simp [go_sem])
  have hz1' : w.heap.size + 3 + 1 ≤ w1.heap.size := by rw [← hsz]; exact hz1
  have HF1 : Hid (∀ j, w1.frozen? ⟨w.heap.size + 3, j, none⟩ = false) := by rw [← hsz]; exact hf1
  clear h1 hsz hz1 hf1
  go_wp2
  refine bodyPost_ret (v := .agg #[.slice (some ⟨w.heap.size + 3, 0, none⟩) is.length is.length]) (by simp [results, Try.results8, go_sem, e1]) rfl ⟨⟨w.heap.size + 3, by omega, rfl, ?_, ?_⟩, ?_⟩
  · exact files_setCell (files_setCell H1.out (by simp)) (by simp)
  · refine open_of_files (files_setCell (files_setCell H1.out (by simp)) (by simp)) (by simp; omega) (fun j => ?_)
    have := HF1.out j
    simpa using this
  · exact (hB.setCell (by simp; omega) _).setCell (by simp) _


theorem owns_mono {w : World} {B B' : Nat} {e : TypeId} {size : Nat} {v : Value} {n : Nat} {xs : List Value} (h : w.ownsRow B e size v n xs) (hB : B' ≤ B) : w.ownsRow B' e size v n xs := by
  refine ⟨h.1, ?_⟩
  rcases h.2 with h2 | ⟨g, cap, cur, hv, hg, r⟩
  · exact .inl h2
  · exact .inr ⟨g, cap, cur, hv, Nat.le_trans hB hg, r⟩
theorem own_nil (w : World) (B : Nat) : OwnF w B (.slice none 0 0) [] := ⟨rfl, .inl ⟨rfl, rfl⟩⟩
/-- The two blocks of a call that gives a tree and a code. -/
structure TwoAt (w u : World) (t r : Value) : Prop where
  bel : Below w.heap.size w u
  ht : u.heap[w.heap.size]? = some (.cells #[t] 29 (0, 0))
  hr : u.heap[w.heap.size + 1]? = some (.cells #[r] 29 (0, 0))
theorem TwoAt.start (w : World) (t r : Value) : TwoAt w ((w.alloc (.cells #[t] 29)).alloc (.cells #[r] 29)) t r :=
  ⟨((Below.refl _ _).alloc (Nat.le_refl _) _).alloc (by simp) _, by rw [alloc_old (by simp)]; exact alloc_new rfl _, alloc_new (by simp) _⟩
theorem TwoAt.sz {w u : World} {t r : Value} (h : TwoAt w u t r) : w.heap.size + 2 ≤ u.heap.size := blk_lt h.hr
theorem TwoAt.later {w u u' : World} {t r : Value} (h : TwoAt w u t r) (hb : Below u.heap.size u u') : TwoAt w u' t r := by
  have := h.sz
  exact ⟨h.bel.trans (hb.mono (by omega)), by rw [hb.block _ (by omega)]; exact h.ht, by rw [hb.block _ (by omega)]; exact h.hr⟩
theorem TwoAt.but {w u u' : World} {t r : Value} {g : Nat} (h : TwoAt w u t r) (hb : But g u u') (hg : w.heap.size + 2 ≤ g) : TwoAt w u' t r := by
  have := h.sz
  exact ⟨h.bel.trans (hb.below (by omega) (by omega)), by rw [hb.block _ (by omega) (by omega)]; exact h.ht, by rw [hb.block _ (by omega) (by omega)]; exact h.hr⟩
theorem TwoAt.cells {w u : World} {t r : Value} (h : TwoAt w u t r) : u.cell? ⟨w.heap.size, 0, none⟩ = some t ∧ u.cell? ⟨w.heap.size + 1, 0, none⟩ = some r ∧ u.frozen? ⟨w.heap.size + 1, 0, none⟩ = false :=
  ⟨by rw [Lib.cell_of_heap h.ht]; rfl, by rw [Lib.cell_of_heap h.hr]; rfl, Lib.frozen_of_heap h.hr 0⟩
set_option maxHeartbeats 1000000 in
theorem c17 (a : Option Addr) (cap : Nat) (fs : List F2) (nm : ByteArray) (w : World) (hl : fs.length ≤ 1048576) (hs : ∀ i, (fs.getD i f2z).le 1048576) (hat : FilesAt w a fs) :
    Calls Try.prog 17 #[.agg #[.slice a fs.length cap], .string nm] w fun e w' => (∃ v c gs, e = .returned (.tuple #[.agg #[v], .int .i64 c]) ∧ OwnF w' w.heap.size v gs ∧ DropR fs nm c gs) ∧ Below w.heap.size w w' := by
  have HA : Hid (FilesAt w a fs) := hat
  have HS : Hid (∀ i, (fs.getD i f2z).le 1048576) := hs
  have H0 : Hid (TwoAt w ((w.alloc (.cells #[.slice a fs.length cap] 29)).alloc (.cells #[.slice none 0 0] 29)) (.slice a fs.length cap) (.slice none 0 0)) := TwoAt.start _ _ _
  clear hat hs
  go_enter Try.func17, Try.ntmps17
  go_wp2_with fail
  refine (c7 a cap fs _ hl HS.out (files_below HA.out H0.out.bel)).mono ?_
  rintro e w1 ⟨⟨v, rfl, hv⟩, hb1⟩
  have HV : Hid (v = true ↔ treeOk fs) := hv
  have H1 : Hid (TwoAt w w1 (.slice a fs.length cap) (.slice none 0 0)) := H0.out.later hb1
  obtain ⟨t1, r1, f1⟩ := H1.out.cells
  clear hv hb1 H0
  cases v
  · have HR : Hid (DropR fs nm 1 []) := .inl ⟨fun h => (by have := HV.out.2 h; cases this), rfl, rfl⟩
    clear HV
    go_wp2
    refine bodyPost_ret (v := .tuple #[.agg #[.slice none 0 0], .int .i64 1]) (by simp [results, Try.results17, go_sem, r1]) rfl ⟨⟨_, _, _, rfl, own_nil _ _, HR.out⟩, H1.out.bel.setCell (by simp) _⟩
  have hok := HV.out.1 rfl
  have hl40 : fs.length ≤ 40 := hok.1
  have HOK : Hid (treeOk fs) := hok
  clear hok HV
  go_wp2_with fail
  refine (c30 a cap fs nm w1 hl40 (files_below HA.out H1.out.bel)).mono ?_
  rintro e w2 ⟨⟨r, rfl, hr⟩, hb2⟩
  have HRR : Hid ((r < 0 ∧ ∀ i, i < fs.length → (fs.getD i f2z).nm ≠ nm) ∨ (0 ≤ r ∧ ∃ i, i < fs.length ∧ (fs.getD i f2z).nm = nm)) := hr
  have H2 : Hid (TwoAt w w2 (.slice a fs.length cap) (.slice none 0 0)) := H1.out.later hb2
  clear hr hb2 t1 r1 f1
  obtain ⟨t2, r2, f2⟩ := H2.out.cells
  by_cases hneg : r < 0
  · have HR : Hid (DropR fs nm 4 []) := .inr (.inl ⟨HOK.out, by rcases HRR.out with h | h; exact h.2; omega, rfl, rfl⟩)
    go_wp2
    refine bodyPost_ret (v := .tuple #[.agg #[.slice none 0 0], .int .i64 4]) (by simp [results, Try.results17, go_sem, r2]) rfl ⟨⟨_, _, _, rfl, own_nil _ _, HR.out⟩, H2.out.bel.setCell (by simp) _⟩
  have HR : Hid (DropR fs nm 0 (without fs nm)) := .inr (.inr ⟨HOK.out, by rcases HRR.out with h | h; omega; exact h.2, rfl, rfl⟩)
  have hneg' : decide (r < 0) = false := decide_eq_false hneg
  go_wp2_with fail
  refine (c24 a cap fs nm w2 hl40 (files_below HA.out H2.out.bel)).mono ?_
  rintro e w3 ⟨⟨v, rfl, hown⟩, hb3⟩
  have HO : Hid (OwnF w3 (w2.heap.size + 3) v (without fs nm)) := hown
  have H3 : Hid (TwoAt w w3 (.slice a fs.length cap) (.slice none 0 0)) := H2.out.later hb3
  have hz2 := H2.out.sz
  clear hown hb3 t2 r2 f2
  obtain ⟨t3, r3, f3⟩ := H3.out.cells
  obtain ⟨av, cv, hve, _⟩ := HO.out.form
  subst hve
  go_wp2
  refine bodyPost_ret (v := .tuple #[.agg #[.slice av (without fs nm).length cv], .int .i64 0]) (by simp [results, Try.results17, go_sem, r3]) rfl ⟨⟨_, _, _, rfl, ?_, HR.out⟩, H3.out.bel.setCell (by simp) _⟩
  exact owns_but (b := w.heap.size + 1) (owns_mono HO.out (by omega)) ((But.refl _ _).setCell _ _) (fun e => by have := (HO.out.lt _ e).1; omega)
theorem own_parts {w : World} {B : Nat} {v : Value} {fs : List F2} (h : OwnF w B v fs) {p : Nat} (hp : p < fs.length) : ∃ g cap, v = .slice (some ⟨g, 0, none⟩) fs.length cap ∧ B ≤ g ∧ fs.length ≤ cap ∧ (∀ i, i < fs.length → w.cell? ⟨g, i * 2, none⟩ = some (.string (fs.getD i f2z).nm) ∧ w.cell? ⟨g, i * 2 + 1, none⟩ = some (.string (fs.getD i f2z).tx)) ∧ (∀ j, w.frozen? ⟨g, j, none⟩ = false) ∧ g < w.heap.size := by
  have h' := h
  rcases h.2 with ⟨hv, h0⟩ | ⟨g, cap, cur, hv, hg, hh, hnc, _⟩
  · omega
  · subst hv
    refine ⟨g, cap, rfl, hg, hnc, fun i hi => ?_, fun j => Lib.frozen_of_heap hh j, blk_lt hh⟩
    obtain ⟨e0, e1⟩ := fileCells_get fs i hi
    rw [h'.cellAt _ (by omega), h'.cellAt _ (by omega)]
    exact ⟨e0, e1⟩
theorem open_far {w : World} {b n g j : Nat} {v : Value} (h : Open2 w b n) (hne : g ≠ b) : Open2 (w.setCell ⟨g, j, none⟩ v) b n := by
  refine ⟨by simpa using h.1, fun i hi => ?_, fun i => by have := h.2.2 i; simpa using this⟩
  rw [World.cell?_setCell_other _ _ _ _ (by intro e; injection e with e1 _; exact hne e1)]
  exact h.2.1 i hi
/-- New memory of one's own that holds these files. -/
def NewF (B : Nat) (w : World) (a : Option Addr) (gs : List F2) : Prop := FilesAt w a gs ∧ (gs = [] ∨ ∃ g, a = some ⟨g, 0, none⟩ ∧ B ≤ g ∧ Open2 w g gs.length)
set_option maxHeartbeats 1000000 in
theorem c18 (a : Option Addr) (cap : Nat) (fs : List F2) (nm : ByteArray) (w : World) (hl : fs.length ≤ 1048576) (hs : ∀ i, (fs.getD i f2z).le 1048576) (hat : FilesAt w a fs) :
    Calls Try.prog 18 #[.agg #[.slice a fs.length cap], .string nm] w fun e w' => (∃ a' cap' c gs, e = .returned (.tuple #[.agg #[.slice a' gs.length cap'], .int .i64 c]) ∧ NewF w.heap.size w' a' gs ∧ DropR fs nm c gs) ∧ Below w.heap.size w w' := by
  have HA : Hid (FilesAt w a fs) := hat
  have HS : Hid (∀ i, (fs.getD i f2z).le 1048576) := hs
  have H0 : Hid (TwoAt w ((w.alloc (.cells #[.slice a fs.length cap] 29)).alloc (.cells #[.slice none 0 0] 29)) (.slice a fs.length cap) (.slice none 0 0)) := TwoAt.start _ _ _
  clear hat hs
  go_enter Try.func18, Try.ntmps18
  go_wp2_with fail
  refine (c9 a cap fs _ hl HS.out (files_below HA.out H0.out.bel)).mono ?_
  rintro e w1 ⟨⟨v, rfl, hv⟩, hb1⟩
  have HV : Hid (v = true ↔ treeOk fs) := hv
  have H1 : Hid (TwoAt w w1 (.slice a fs.length cap) (.slice none 0 0)) := H0.out.later hb1
  obtain ⟨t1, r1, f1⟩ := H1.out.cells
  clear hv hb1 H0
  cases v
  · have HR : Hid (DropR fs nm 1 []) := .inl ⟨fun h => (by have := HV.out.2 h; cases this), rfl, rfl⟩
    clear HV
    go_wp2
    refine bodyPost_ret (v := .tuple #[.agg #[.slice none 0 0], .int .i64 1]) (by simp [results, Try.results18, go_sem, r1]) rfl ⟨⟨none, 0, _, [], rfl, ⟨.inl rfl, .inl rfl⟩, HR.out⟩, H1.out.bel.setCell (by simp) _⟩
  have hok := HV.out.1 rfl
  have hl40 : fs.length ≤ 40 := hok.1
  have HOK : Hid (treeOk fs) := hok
  clear hok HV
  go_wp2_with fail
  refine (c26 a cap fs nm w1 hl40 (files_below HA.out H1.out.bel) (asc_of HOK.out)).mono ?_
  rintro e w2 ⟨⟨p, f, rfl, hpl⟩, hb2⟩
  have HP : Hid (Place fs nm p f) := hpl
  have H2 : Hid (TwoAt w w2 (.slice a fs.length cap) (.slice none 0 0)) := H1.out.later hb2
  clear hpl hb2 t1 r1 f1
  obtain ⟨t2, r2, f2⟩ := H2.out.cells
  cases f
  · have HR : Hid (DropR fs nm 4 []) := by
      refine .inr (.inl ⟨HOK.out, fun i hi e => ?_, rfl, rfl⟩)
      have hpl := HP.out
      rcases Nat.lt_or_ge i p with h | h
      · have := hpl.less i h; rw [e, lt_irrefl'] at this; cases this
      · rcases Nat.lt_or_ge p i with h1 | h1
        · have h2 := asc_of HOK.out p i h1 hi
          rw [e, hpl.more p (Nat.le_refl _) (by omega)] at h2; cases h2
        · obtain rfl : i = p := by omega
          have := hpl.here.2 ⟨hi, e⟩; cases this
    go_wp2
    refine bodyPost_ret (v := .tuple #[.agg #[.slice none 0 0], .int .i64 4]) (by simp [results, Try.results18, go_sem, r2]) rfl ⟨⟨none, 0, _, [], rfl, ⟨.inl rfl, .inl rfl⟩, HR.out⟩, H2.out.bel.setCell (by simp) _⟩
  obtain ⟨hp, hpn⟩ := HP.out.here.1 rfl
  have HR : Hid (DropR fs nm 0 (del fs p)) := by
    refine .inr (.inr ⟨HOK.out, ⟨p, hp, hpn⟩, rfl, ?_⟩)
    rw [← hpn, without_del (asc_of HOK.out) hp]
  obtain ⟨b, off, hc⟩ := files_some (files_below HA.out H2.out.bel)
  rcases hc with hc | ⟨ha, hbw, hcell⟩
  · rw [hc] at hp; exact absurd hp (Nat.not_lt_zero _)
  subst ha
  have HCE : Hid (∀ i, i < fs.length → w2.cell? ⟨b, off + i * 2, none⟩ = some (.string (fs.getD i f2z).nm) ∧ w2.cell? ⟨b, off + i * 2 + 1, none⟩ = some (.string (fs.getD i f2z).tx)) := hcell
  clear hcell HP hpn
  have hz2 := H2.out.sz
  go_wp2_with fail
  refine (c25 b off cap fs w2 hl hbw HCE.out).mono ?_
  rintro e w3 ⟨v, rfl, hown, hb3⟩
  obtain ⟨g, cap3, hve, hg, hnc, hcel, hfz, hgw⟩ := own_parts hown hp
  subst hve
  have H3 : Hid (TwoAt w w3 (.slice (some ⟨b, off, none⟩) fs.length cap) (.slice none 0 0)) := H2.out.later hb3
  have HC3 : Hid (∀ i, i < fs.length → w3.cell? ⟨g, i * 2, none⟩ = some (.string (fs.getD i f2z).nm) ∧ w3.cell? ⟨g, i * 2 + 1, none⟩ = some (.string (fs.getD i f2z).tx)) := hcel
  have HF3 : Hid (∀ j, w3.frozen? ⟨g, j, none⟩ = false) := hfz
  clear hown hb3 hcel hfz HCE t2 r2 f2
  go_wp2_with fail
  refine (c31 g cap3 fs p w3 hl40 hp hnc hgw HC3.out HF3.out).mono ?_
  rintro e w4 ⟨rfl, hfa, hop, hbu⟩
  have H4 : Hid (TwoAt w w4 (.slice (some ⟨b, off, none⟩) fs.length cap) (.slice none 0 0)) := H3.out.but hbu (by omega)
  have HFA : Hid (FilesAt w4 (some ⟨g, 0, none⟩) (del fs p)) := hfa
  have HOP : Hid (Open2 w4 g (fs.length - 1)) := hop
  obtain ⟨t4, r4, f4⟩ := H4.out.cells
  clear hfa hop hbu HC3 HF3
  go_wp2
  refine bodyPost_ret (v := .tuple #[.agg #[.slice (some ⟨g, 0, none⟩) (fs.length - 1) cap3], .int .i64 0]) (by simp [results, Try.results18, go_sem, r4]) rfl ⟨⟨some ⟨g, 0, none⟩, cap3, 0, del fs p, by rw [del_len hp], ⟨files_setCell HFA.out (by simp; omega), .inr ⟨g, rfl, by omega, ?_⟩⟩, HR.out⟩, H4.out.bel.setCell (by simp) _⟩
  rw [del_len hp]
  exact open_far HOP.out (by omega)
end Go.Proofs.Ytolihfbnbkaflaa
