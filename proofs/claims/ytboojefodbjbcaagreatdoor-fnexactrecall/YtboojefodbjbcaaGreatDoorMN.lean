import Derived.Test.YtboojefodbjbcaaGreatDoorMI
namespace Go.Proofs.YtboojefodbjbcaaGreatDoor
open Go.RowKit Go.Maps
set_option maxRecDepth 100000
set_option linter.unusedVariables false
theorem getD_eq {α : Type} {a b : List α} (z : α) (hn : a.length = b.length) (h : ∀ j, j < b.length → a.getD j z = b.getD j z) : a = b := by
 refine List.ext_getElem hn fun j h1 h2 => ?_
 have := h j h2
 simpa [List.getD, List.getElem?_eq_getElem h1, List.getElem?_eq_getElem h2] using this
set_option maxHeartbeats 1000000 in
theorem c36o (a : Option Addr) (cap : Nat) (is : List ByteArray) (w : World) (hl : is.length ≤ 1048576) (hat : StrsAt w a is) :
 Calls Tryz.prog 36 #[.slice a is.length cap] w fun e w' => (e = .returned (.slice (some ⟨w.heap.size, 0, none⟩) is.length is.length) ∧ w'.ownsRow w.heap.size 9 1 (.slice (some ⟨w.heap.size, 0, none⟩) is.length is.length) is.length (is.map Value.string)) ∧ Below w.heap.size w w' := by
 obtain ⟨b, off, hc⟩ := strs_some hat
 have HC := hidI hc
 clear hc hat
 obtain ⟨i0, hi, hz0, hz1, hz2⟩ := info_parts info9
 have hmk : ∀ u : World, (Instr.makeSlice 22 (.int .i64 (is.length : Int)) (.int .i64 (is.length : Int))).run Tryz.prog u =
  .ok (.slice (some ⟨u.heap.size, 0, none⟩) is.length is.length) (u.alloc (.cells (madeCells #[.string ⟨#[]⟩] is.length) 9)) := fun u => by
  have h := run_make (P := Tryz.prog) u 22 9 i0 (.string ⟨#[]⟩) Tryz.underlying22 hi hz0 .i64 .i64 (is.length : Int) (is.length : Int) (by omega) (Int.le_refl _) (by rw [hz2]; omega) (by omega)
  simpa [hz1, Value.cells] using h
 have H0 : Hid ((w.alloc (.cells (madeCells #[.string ⟨#[]⟩] is.length) 9)).ownsRow w.heap.size 9 1 (.slice (some ⟨w.heap.size, 0, none⟩) is.length is.length) is.length ((List.replicate is.length (⟨#[]⟩ : ByteArray)).map Value.string)) := by
  have h := World.ownsRow_lit (base := w.heap.size) (e := 9) (size := 1) w (madeCells #[.string ⟨#[]⟩] is.length) is.length (Nat.le_refl _) (by unfold maxLen; omega) (by simp [size_madeCells])
  rw [toList_madeCells_one] at h
  rw [List.map_replicate]
  exact h
 go_enter Tryz.func36, Tryz.ntmps36
 go_wp2_with fail
 go_loopw [4] (fun i wr => ∃ (k : Nat) (P : List ByteArray), k ≤ is.length ∧ i = .int .i64 k ∧ P.length = is.length ∧ Hid (∀ j, j < k → P.getD j ByteArray.empty = is.getD j ByteArray.empty) ∧ Hid (wr.ownsRow w.heap.size 9 1 (.slice (some ⟨w.heap.size, 0, none⟩) is.length is.length) is.length (P.map Value.string)) ∧ Below w.heap.size w wr) (fun i _ => is.length - (Go.RowKit.intOf i).toNat)
 case atStart => exact ⟨0, List.replicate is.length ⟨#[]⟩, Nat.zero_le _, rfl, by simp, fun j h => absurd h (Nat.not_lt_zero _), H0, (Below.refl _ _).alloc (Nat.le_refl _) _⟩
 case round =>
  obtain ⟨k, P, hk, rfl, hP, hd, hown, hb⟩ := hrel
  by_cases hlt : k < is.length
  · rcases HC.out with hss | ⟨ha, hbw, hcell⟩
    · rw [hss] at hlt; exact absurd hlt (Nat.not_lt_zero _)
    subst ha
    have g0 : wr.cell? ⟨b, off + k, none⟩ = some (.string (is.getD k ByteArray.empty)) := (hb.cell (by exact hbw)).trans (hcell k hlt)
    have g1 : wr.cell? ⟨w.heap.size, k, none⟩ = some (.string (P.getD k ByteArray.empty)) := by
     rw [hown.out.cellAt k (by omega), List.getElem?_map, List.getElem?_eq_getElem (by omega)]
     simp [List.getD, List.getElem?_eq_getElem (show k < P.length by omega)]
    have g2 := hown.out.frozenAt k
    have HD : Hid (∀ j, j < k + 1 → (P.set k (is.getD k ByteArray.empty)).getD j ByteArray.empty = is.getD j ByteArray.empty) := fun j hj => by
     by_cases e : j = k
     · subst e; exact getD_set_same (by omega)
     · rw [getD_set_other (fun h => e h.symm)]; exact hd.out j (by omega)
    obtain ⟨s1, s2⟩ := hown.out.stored k (.string (is.getD k ByteArray.empty))
    rw [← List.map_set] at s1
    have HS := hidI s1
    clear hcell s1 s2
    generalize is.getD k ByteArray.empty = x at *
    go_wp2
    go_roundw
    case rel => exact ⟨k + 1, _, by omega, by go_num, by simpa using hP, HD, HS, hb.setCell (by simp) _⟩
    case measure => simp [Go.RowKit.intOf]; omega
  · have hPe : P = is := getD_eq ByteArray.empty hP (fun j hj => hd.out j (by omega))
    subst hPe
    have hown' := hown.out
    go_wp2
    go_ret
    exact ⟨⟨rfl, hown'⟩, hb⟩
theorem gC_ext {P : List G3} {l : List Value} (hl : l.length = P.length * 3) (h : ∀ q, q < P.length → l[q * 3]? = some (.bool (P.getD q g3z).nm) ∧ l[q * 3 + 1]? = some (.string (P.getD q g3z).tl) ∧ l[q * 3 + 2]? = some (.string (P.getD q g3z).ar)) : l = gC P := by
 refine List.ext_getElem? fun j => ?_
 by_cases hj : j < P.length * 3
 · obtain ⟨q, r, e, hr⟩ : ∃ q r, j = q * 3 + r ∧ r < 3 := ⟨j / 3, j % 3, by omega, by omega⟩
   have hq : q < P.length := by omega
   obtain ⟨a0, a1, a2⟩ := h q hq
   obtain ⟨b0, b1, b2⟩ := gC_at P q hq
   have : r = 0 ∨ r = 1 ∨ r = 2 := by omega
   rcases this with rfl | rfl | rfl
   · rw [e, Nat.add_zero, a0, b0]
   · rw [e, a1, b1]
   · rw [e, a2, b2]
 · rw [List.getElem?_eq_none (by omega), List.getElem?_eq_none (by rw [gC_len]; omega)]
set_option maxHeartbeats 1000000 in
theorem c108o (a : Option Addr) (cap : Nat) (is : List G3) (w : World) (hl : is.length ≤ 1048576) (hat : GlsAt w a is) :
 Calls Tryz.prog 108 #[.slice a is.length cap] w fun e w' => (e = .returned (.slice (some ⟨w.heap.size, 0, none⟩) is.length is.length) ∧ w'.ownsRow w.heap.size 127 3 (.slice (some ⟨w.heap.size, 0, none⟩) is.length is.length) is.length (gC is)) ∧ Below w.heap.size w w' := by
 obtain ⟨b, off, hc⟩ := gls_some hat
 have HC := hidI hc
 clear hc hat
 obtain ⟨i0, hi, hz0, hz1, hz2⟩ := info_parts info127
 have hmk : ∀ u : World, (Instr.makeSlice 80 (.int .i64 (is.length : Int)) (.int .i64 (is.length : Int))).run Tryz.prog u =
  .ok (.slice (some ⟨u.heap.size, 0, none⟩) is.length is.length) (u.alloc (.cells (madeCells #[.bool false, .string ⟨#[]⟩, .string ⟨#[]⟩] (is.length * 3)) 127)) := fun u => by
  have h := run_make (P := Tryz.prog) u 80 127 i0 (.agg #[.bool false, .string ⟨#[]⟩, .string ⟨#[]⟩]) Tryz.underlying80 hi hz0 .i64 .i64 (is.length : Int) (is.length : Int) (by omega) (Int.le_refl _) (by rw [hz2]; omega) (by omega)
  simpa [hz1, Value.cells] using h
 have H0 : Hid ((w.alloc (.cells (madeCells #[.bool false, .string ⟨#[]⟩, .string ⟨#[]⟩] (is.length * 3)) 127)).ownsRow w.heap.size 127 3 (.slice (some ⟨w.heap.size, 0, none⟩) is.length is.length) is.length (gC (List.replicate is.length g3z))) := by
  have h := World.ownsRow_lit (base := w.heap.size) (e := 127) (size := 3) w (madeCells #[.bool false, .string ⟨#[]⟩, .string ⟨#[]⟩] (is.length * 3)) is.length (Nat.le_refl _) (by unfold maxLen; omega) (by simp [size_madeCells])
  have e : (madeCells #[Value.bool false, .string ⟨#[]⟩, .string ⟨#[]⟩] (is.length * 3)).toList = gC (List.replicate is.length g3z) := by
   refine gC_ext (by simp [size_madeCells]) (fun q hq => ?_)
   rw [List.length_replicate] at hq
   have e0 := madeG is.length (q * 3) (by omega)
   have e1 := madeG is.length (q * 3 + 1) (by omega)
   have e2 := madeG is.length (q * 3 + 2) (by omega)
   rw [show q * 3 % 3 = 0 by omega] at e0
   rw [show (q * 3 + 1) % 3 = 1 by omega] at e1
   rw [show (q * 3 + 2) % 3 = 2 by omega] at e2
   have ez : (List.replicate is.length g3z).getD q g3z = g3z := by simp [List.getD, hq]
   rw [ez, Array.getElem?_toList, Array.getElem?_toList, Array.getElem?_toList]
   exact ⟨e0, e1, e2⟩
  rw [e] at h
  exact h
 go_enter Tryz.func108, Tryz.ntmps108
 go_wp2_with fail
 go_loopw [4] (fun i wr => ∃ (k : Nat) (P : List G3), k ≤ is.length ∧ i = .int .i64 k ∧ P.length = is.length ∧ Hid (∀ j, j < k → P.getD j g3z = is.getD j g3z) ∧ Hid (wr.ownsRow w.heap.size 127 3 (.slice (some ⟨w.heap.size, 0, none⟩) is.length is.length) is.length (gC P)) ∧ Below w.heap.size w wr ∧ w.heap.size < wr.heap.size) (fun i _ => is.length - (Go.RowKit.intOf i).toNat)
 case atStart => exact ⟨0, List.replicate is.length g3z, Nat.zero_le _, rfl, by simp, fun j h => absurd h (Nat.not_lt_zero _), H0, (Below.refl _ _).alloc (Nat.le_refl _) _, by simp⟩
 case round =>
  obtain ⟨k, P, hk, rfl, hP, hd, hown, hb, hz⟩ := hrel
  by_cases hlt : k < is.length
  · rcases HC.out with hss | ⟨ha, hbw, hcell⟩
    · rw [hss] at hlt; exact absurd hlt (Nat.not_lt_zero _)
    subst ha
    have g0 := (hb.cell (p := ⟨b, off + k * 3, none⟩) hbw).trans (hcell k hlt).1
    have g1 := (hb.cell (p := ⟨b, off + k * 3 + 1, none⟩) hbw).trans (hcell k hlt).2.1
    have g2 := (hb.cell (p := ⟨b, off + k * 3 + 2, none⟩) hbw).trans (hcell k hlt).2.2
    have HD : Hid (∀ j, j < k + 1 → (P.set k (is.getD k g3z)).getD j g3z = is.getD j g3z) := fun j hj => by
     by_cases e : j = k
     · subst e; exact getD_set_same (by omega)
     · rw [getD_set_other (fun h => e h.symm)]; exact hd.out j (by omega)
    clear hcell
    generalize is.getD k g3z = x at *
    go_wp2_with fail
    refine (c122 x wr).mono ?_
    rintro e w1 ⟨rfl, hb1⟩
    have hB1 : Below w.heap.size w w1 := hb.trans (hb1.mono hb.size)
    have hz1' : w.heap.size < w1.heap.size := Nat.lt_of_lt_of_le hz hb1.size
    have O1 := own_below hown.out hb1
    obtain ⟨a0, a1, a2⟩ := gC_at P k (by omega)
    have p0 := (O1.cellAt (k * 3) (by omega)).trans a0
    have p1 := (O1.cellAt (k * 3 + 1) (by omega)).trans a1
    have p2 := (O1.cellAt (k * 3 + 2) (by omega)).trans a2
    have f0 := O1.frozenAt (k * 3)
    have f1 := O1.frozenAt (k * 3 + 1)
    have f2 := O1.frozenAt (k * 3 + 2)
    have O2 := (((O1.stored (k * 3) (.bool x.nm)).1.stored (k * 3 + 1) (.string x.tl)).1.stored (k * 3 + 2) (.string x.ar)).1
    rw [← gC_set P k x (by omega)] at O2
    have HS := hidI O2
    clear O1 O2 a0 a1 a2 hown hd
    go_wp2
    go_roundw
    case rel => exact ⟨k + 1, _, by omega, by go_num, by simpa using hP, HD, HS, ((hB1.setCell (by simp) _).setCell (by simp) _).setCell (by simp) _, by simpa using hz1'⟩
    case measure => simp [Go.RowKit.intOf]; omega
  · have hPe : P = is := getD_eq g3z hP (fun j hj => hd.out j (by omega))
    subst hPe
    have hown' := hown.out
    go_wp2
    go_ret
    exact ⟨⟨rfl, hown'⟩, hb⟩
set_option maxHeartbeats 2000000 in
theorem c76o (x : R3) (ai : Option Addr) (ci : Nat) (w : World) (hl : x.gs.length ≤ 1048576) (hat : GlsAt w ai x.gs) :
 Calls Tryz.prog 76 #[.agg #[.string x.key, .slice ai x.gs.length ci, .string x.out]] w fun e w' => (e = .returned (.agg #[.string x.key, .slice (some ⟨w.heap.size + 3, 0, none⟩) x.gs.length x.gs.length, .string x.out]) ∧ w'.ownsRow (w.heap.size + 3) 127 3 (.slice (some ⟨w.heap.size + 3, 0, none⟩) x.gs.length x.gs.length) x.gs.length (gC x.gs)) ∧ Below w.heap.size w w' := by
 have hB0 : Below w.heap.size w (((w.alloc (.cells #[.string x.key, .slice ai x.gs.length ci, .string x.out] 119)).alloc (.cells #[.string ⟨#[]⟩, .slice none 0 0, .string ⟨#[]⟩] 82)).alloc (.cells #[.string x.key, .slice none 0 0, .string ⟨#[]⟩] 82)) := (((Below.refl _ _).alloc (Nat.le_refl _) _).alloc (by simp) _).alloc (by simp; omega) _
 have h43 := c108o ai ci x.gs _ hl (gls_below hat hB0)
 go_enter Tryz.func76, Tryz.ntmps76
 go_wp2_with fail
 refine h43.mono ?_
 rintro e w1 ⟨⟨rfl, hat1⟩, hb1⟩
 have hx1 : Below (w.heap.size + 3) (((w.alloc (.cells #[.string x.key, .slice ai x.gs.length ci, .string x.out] 119)).alloc (.cells #[.string ⟨#[]⟩, .slice none 0 0, .string ⟨#[]⟩] 82)).alloc (.cells #[.string x.key, .slice none 0 0, .string ⟨#[]⟩] 82)) w1 := by have h := hb1; simp at h; exact h
 have hB1 : Below w.heap.size w w1 := hB0.trans (hx1.mono (by omega))
 obtain ⟨⟨a2, r0, r1, r2⟩, ⟨o0, o1, o2⟩, fr, fo⟩ := toR_cells hx1
 have fr0 := fr 0
 have fr1 := fr 1
 have fr2 := fr 2
 have fo1 := fo 1
 have fo2 := fo 2
 have HG : Hid (w1.ownsRow (w.heap.size + 3) 127 3 (.slice (some ⟨w.heap.size + 3, 0, none⟩) x.gs.length x.gs.length) x.gs.length (gC x.gs)) := by have h := hat1; simp at h; exact h
 clear hb1 h43 hat hat1 fr fo
 go_wp2
 have ne : ∀ i j, (⟨w.heap.size + 1 + 1, i, none⟩ : Addr) ≠ ⟨w.heap.size + 1, j, none⟩ := fun i j e => by injection e with e _; omega
 generalize hS : Value.slice (some ⟨w.heap.size + 1 + 1 + 1, 0, none⟩) x.gs.length x.gs.length = SL
 have q0 : ((w1.setCell ⟨w.heap.size + 1 + 1, 1, none⟩ SL).setCell ⟨w.heap.size + 1 + 1, 2, none⟩ (.string x.out)).cell? ⟨w.heap.size + 1, 0, none⟩ = some (.string ⟨#[]⟩) := by rw [World.cell?_setCell_other _ _ _ _ (ne _ _), World.cell?_setCell_other _ _ _ _ (ne _ _)]; exact r0
 have q1 : ((w1.setCell ⟨w.heap.size + 1 + 1, 1, none⟩ SL).setCell ⟨w.heap.size + 1 + 1, 2, none⟩ (.string x.out)).cell? ⟨w.heap.size + 1, 1, none⟩ = some (.slice none 0 0) := by rw [World.cell?_setCell_other _ _ _ _ (ne _ _), World.cell?_setCell_other _ _ _ _ (ne _ _)]; exact r1
 have q2 : ((w1.setCell ⟨w.heap.size + 1 + 1, 1, none⟩ SL).setCell ⟨w.heap.size + 1 + 1, 2, none⟩ (.string x.out)).cell? ⟨w.heap.size + 1, 2, none⟩ = some (.string ⟨#[]⟩) := by rw [World.cell?_setCell_other _ _ _ _ (ne _ _), World.cell?_setCell_other _ _ _ _ (ne _ _)]; exact r2
 have F := set3_at _ (w.heap.size + 1) 0 (.string x.key) SL (.string x.out) _ _ _ q0 q1 q2
 simp only [Nat.zero_add] at F
 refine bodyPost_ret (v := .agg #[.string x.key, SL, .string x.out]) (by simp [results, Tryz.results76, go_sem, F.1, F.2.1, F.2.2]) rfl ⟨⟨by rw [← hS], ?_⟩, ?_⟩
 · subst hS
   refine own_set (own_set (own_set (own_set (own_set HG.out _ _ ?_) _ _ ?_) _ _ ?_) _ _ ?_) _ _ ?_ <;> (dsimp only; omega)
 · exact ((((hB1.setCell (by simp; omega) _).setCell (by simp; omega) _).setCell (by simp) _).setCell (by simp) _).setCell (by simp) _
theorem recO_set {W : World} {base : Nat} {v : Value} {rs : List R3} {vs : List Value} (h : RecOwn W base v rs vs) {p : Addr} {x : Value} (hp : p.block < base) : RecOwn (W.setCell p x) base v rs vs :=
 h.keep (fun q t _ _ hq => Below.heap_setCell _ _ _ _ (by omega))
theorem recO_low {W : World} {base base' : Nat} {v : Value} {rs : List R3} {vs : List Value} (h : RecOwn W base v rs vs) (hb : base' ≤ base) : RecOwn W base' v rs vs :=
 ⟨h.len, own_low h.row hb, fun i hi => by
  obtain ⟨a3, cx3, e, h3⟩ := h.gl i hi
  exact ⟨a3, cx3, e, own_low h3 hb⟩, h.apart⟩
def AllSome (rs : List R3) (vs : List Value) : Prop := ∀ i, i < rs.length → ∃ q, vs.getD i undef = .slice (some ⟨q, 0, none⟩) (rs.getD i r3z).gs.length (rs.getD i r3z).gs.length
theorem rec_put {W : World} {N g cap : Nat} {P : List R3} {vs : List Value} {k : Nat} {y : R3} {a : Option Addr} {c : Nat} (h : RecOwn W N (.slice (some ⟨g, 0, none⟩) P.length cap) P vs) (hk : k < P.length) (h5 : W.ownsRow N 127 3 (.slice a y.gs.length c) y.gs.length (gC y.gs)) (hne : ∀ i, i < P.length → i ≠ k → ∀ q, (vs.getD i undef).ownBlock = some q → (Value.slice a y.gs.length c).ownBlock ≠ some q) :
 RecOwn (((W.setCell ⟨g, k * 3, none⟩ (.string y.key)).setCell ⟨g, k * 3 + 1, none⟩ (.slice a y.gs.length c)).setCell ⟨g, k * 3 + 2, none⟩ (.string y.out)) N (.slice (some ⟨g, 0, none⟩) P.length cap) (P.set k y) (vs.set k (.slice a y.gs.length c)) := by
 have hv : k < vs.length := by rw [h.len]; exact hk
 have hkeep : ∀ {n c' : Nat} {a' : Option Addr} {xs : List Value}, W.ownsRow N 127 3 (.slice a' n c') n xs → (((W.setCell ⟨g, k * 3, none⟩ (.string y.key)).setCell ⟨g, k * 3 + 1, none⟩ (.slice a y.gs.length c)).setCell ⟨g, k * 3 + 2, none⟩ (.string y.out)).ownsRow N 127 3 (.slice a' n c') n xs := fun {n c' a' xs} h3 => by
  refine own_keep' h3 (fun q hq => ?_)
  have hqg : q ≠ g := fun e => by subst e; exact absurd (ofT_one (own_ofT h3 hq) (own_ofT h.row rfl)) (by decide)
  rw [Below.heap_setCell _ _ _ _ (by exact hqg), Below.heap_setCell _ _ _ _ (by exact hqg), Below.heap_setCell _ _ _ _ (by exact hqg)]
 refine ⟨by simp [h.len], ?_, fun i hi => ?_, fun i j hi hj hij => ?_⟩
 · have s := (((h.row.stored (k * 3) (.string y.key)).1.stored (k * 3 + 1) (.slice a y.gs.length c)).1.stored (k * 3 + 2) (.string y.out)).1
   have e : (((rC P vs).set (k * 3) (.string y.key)).set (k * 3 + 1) (.slice a y.gs.length c)).set (k * 3 + 2) (.string y.out) = rC (P.set k y) (vs.set k (.slice a y.gs.length c)) := by
    refine rC_ext (by simp [rC_len]) (fun q hq => ?_)
    rw [List.length_set] at hq
    obtain ⟨b0, b1, b2⟩ := rC_at P vs q hq
    by_cases e : q = k
    · subst e
      rw [getD_set_same hq, getD_set_same hv]
      have l1 : (rC P vs).length = P.length * 3 := rC_len _ _
      refine ⟨?_, ?_, ?_⟩
      · rw [List.getElem?_set_ne (by omega), List.getElem?_set_ne (by omega), List.getElem?_set_self (by omega)]
      · rw [List.getElem?_set_ne (by omega), List.getElem?_set_self (by simp; omega)]
      · rw [List.getElem?_set_self (by simp; omega)]
    · rw [getD_set_other (fun h => e h.symm), getD_set_other (fun h => e h.symm)]
      refine ⟨?_, ?_, ?_⟩
      · rw [List.getElem?_set_ne (by omega), List.getElem?_set_ne (by omega), List.getElem?_set_ne (by omega)]; exact b0
      · rw [List.getElem?_set_ne (by omega), List.getElem?_set_ne (by omega), List.getElem?_set_ne (by omega)]; exact b1
      · rw [List.getElem?_set_ne (by omega), List.getElem?_set_ne (by omega), List.getElem?_set_ne (by omega)]; exact b2
   rw [e] at s
   rw [List.length_set]
   exact s
 · rw [List.length_set] at hi
   by_cases ei : i = k
   · subst ei
     rw [getD_set_same hi, getD_set_same hv]
     exact ⟨a, c, rfl, hkeep h5⟩
   · rw [getD_set_other (fun h => ei h.symm), getD_set_other (fun h => ei h.symm)]
     obtain ⟨a3, cx3, e, h3⟩ := h.gl i hi
     exact ⟨a3, cx3, e, hkeep h3⟩
 · rw [List.length_set] at hi hj
   by_cases ei : i = k
   · subst ei
     have ej : j ≠ i := fun h => hij h.symm
     rw [getD_set_same hv, getD_set_other (fun h => ej h.symm)]
     cases hq : (vs.getD j undef).ownBlock with
     | none =>
      cases hb : (Value.slice a y.gs.length c).ownBlock with
      | none => exact .inl rfl
      | some q => exact .inr (fun e => by cases e)
     | some q => exact .inr (hne j hj ej q hq)
   · rw [getD_set_other (fun h => ei h.symm)]
     by_cases ej : j = k
     · subst ej
       rw [getD_set_same hv]
       cases hq : (vs.getD i undef).ownBlock with
       | none => exact .inl rfl
       | some q => exact .inr (fun e => hne i hi ei q hq e.symm)
     · rw [getD_set_other (fun h => ej h.symm)]
       exact h.apart i j hi hj hij
set_option maxHeartbeats 2000000 in
theorem c37o (a : Option Addr) (cap : Nat) (is : List R3) (w : World) (hl : is.length ≤ 1048576) (hs : ∀ i, (is.getD i r3z).le 1048576) (hat : RecsAt w a is) :
 Calls Tryz.prog 37 #[.slice a is.length cap] w fun e w' => (e = .returned (.slice (some ⟨w.heap.size, 0, none⟩) is.length is.length) ∧ ∃ vs, RecOwn w' w.heap.size (.slice (some ⟨w.heap.size, 0, none⟩) is.length is.length) is vs ∧ AllSome is vs) ∧ Below w.heap.size w w' := by
 obtain ⟨b, off, hc⟩ := recs_some hat
 have HC := hidI hc
 have HS : Hid (∀ i, (is.getD i r3z).le 1048576) := hs
 clear hc hat hs
 obtain ⟨i0, hi, hz0, hz1, hz2⟩ := info_parts info82
 have hmk : ∀ u : World, (Instr.makeSlice 43 (.int .i64 (is.length : Int)) (.int .i64 (is.length : Int))).run Tryz.prog u =
  .ok (.slice (some ⟨u.heap.size, 0, none⟩) is.length is.length) (u.alloc (.cells (madeCells #[.string ⟨#[]⟩, .slice none 0 0, .string ⟨#[]⟩] (is.length * 3)) 82)) := fun u => by
  have h := run_make (P := Tryz.prog) u 43 82 i0 (.agg #[.string ⟨#[]⟩, .slice none 0 0, .string ⟨#[]⟩]) Tryz.underlying43 hi hz0 .i64 .i64 (is.length : Int) (is.length : Int) (by omega) (Int.le_refl _) (by rw [hz2]; omega) (by omega)
  simpa [hz1, Value.cells] using h
 have ezv : ∀ i, i < is.length → (List.replicate is.length (Value.slice none 0 0)).getD i undef = .slice none 0 0 := fun i hi => by simp [List.getD, hi]
 have ezr : ∀ i, i < is.length → (List.replicate is.length r3z).getD i r3z = r3z := fun i hi => by simp [List.getD, hi]
 have H0 : Hid (RecOwn (w.alloc (.cells (madeCells #[.string ⟨#[]⟩, .slice none 0 0, .string ⟨#[]⟩] (is.length * 3)) 82)) w.heap.size (.slice (some ⟨w.heap.size, 0, none⟩) is.length is.length) (List.replicate is.length r3z) (List.replicate is.length (.slice none 0 0))) := by
  have h := World.ownsRow_lit (base := w.heap.size) (e := 82) (size := 3) w (madeCells #[.string ⟨#[]⟩, .slice none 0 0, .string ⟨#[]⟩] (is.length * 3)) is.length (Nat.le_refl _) (by unfold maxLen; omega) (by simp [size_madeCells])
  have e : (madeCells #[Value.string ⟨#[]⟩, .slice none 0 0, .string ⟨#[]⟩] (is.length * 3)).toList = rC (List.replicate is.length r3z) (List.replicate is.length (.slice none 0 0)) := by
   refine rC_ext (by simp [size_madeCells]) (fun q hq => ?_)
   rw [List.length_replicate] at hq
   have e0 := madeR is.length (q * 3) (by omega)
   have e1 := madeR is.length (q * 3 + 1) (by omega)
   have e2 := madeR is.length (q * 3 + 2) (by omega)
   rw [show q * 3 % 3 = 0 by omega] at e0
   rw [show (q * 3 + 1) % 3 = 1 by omega] at e1
   rw [show (q * 3 + 2) % 3 = 2 by omega] at e2
   rw [ezr q hq, ezv q hq, Array.getElem?_toList, Array.getElem?_toList, Array.getElem?_toList]
   exact ⟨e0, e1, e2⟩
  rw [e] at h
  refine ⟨by simp, by rw [List.length_replicate]; exact h, fun i hi => ?_, fun i j hi _ _ => ?_⟩
  · rw [List.length_replicate] at hi
    rw [ezr i hi, ezv i hi]
    exact ⟨none, 0, rfl, World.ownsRow_nil _ _ _ _⟩
  · rw [List.length_replicate] at hi
    rw [ezv i hi]
    exact .inl rfl
 clear ezv ezr
 go_enter Tryz.func37, Tryz.ntmps37
 go_wp2_with fail
 go_loopw [4] (fun i wr => ∃ (k : Nat) (P : List R3) (vs : List Value), k ≤ is.length ∧ i = .int .i64 k ∧ P.length = is.length ∧ Hid (∀ j, j < k → P.getD j r3z = is.getD j r3z ∧ ∃ q, vs.getD j undef = .slice (some ⟨q, 0, none⟩) (is.getD j r3z).gs.length (is.getD j r3z).gs.length) ∧ Hid (RecOwn wr w.heap.size (.slice (some ⟨w.heap.size, 0, none⟩) is.length is.length) P vs) ∧ Below w.heap.size w wr ∧ w.heap.size < wr.heap.size) (fun i _ => is.length - (Go.RowKit.intOf i).toNat)
 case atStart => exact ⟨0, _, _, Nat.zero_le _, rfl, by simp, fun j h => absurd h (Nat.not_lt_zero _), H0, (Below.refl _ _).alloc (Nat.le_refl _) _, by simp⟩
 case round =>
  obtain ⟨k, P, vs, hk, rfl, hP, hd, hown, hb, hz⟩ := hrel
  by_cases hlt : k < is.length
  · rcases HC.out with hss | ⟨ha, hbw, hcell⟩
    · rw [hss] at hlt; exact absurd hlt (Nat.not_lt_zero _)
    subst ha
    obtain ⟨ai, ci, g0, g1, g2, g3⟩ := (hcell k hlt).below hbw hb
    have hxl := (HS.out k).2.1
    generalize hx : is.getD k r3z = x at *
    have HX : Hid (is.getD k r3z = x) := hx
    clear hx hcell
    go_wp2_with fail
    refine (c76o x ai ci wr hxl g3).mono ?_
    rintro e w1 ⟨⟨rfl, hg1⟩, hb1⟩
    have hB1 : Below w.heap.size w w1 := hb.trans (hb1.mono hb.size)
    have hz1' : w.heap.size < w1.heap.size := Nat.lt_of_lt_of_le hz hb1.size
    have O1 : RecOwn w1 w.heap.size (.slice (some ⟨w.heap.size, 0, none⟩) P.length is.length) P vs := by
     have h := hown.out.keep (W' := w1) (fun q t hT _ _ => hb1.block q (ofT_lt hT))
     rw [hP]
     exact h
    have hkP : k < P.length := by omega
    obtain ⟨a0, a1, a2⟩ := rC_at P vs k hkP
    obtain ⟨a3, cx3, e3, h3⟩ := O1.gl k hkP
    have p0 := (O1.row.cellAt (k * 3) (by omega)).trans a0
    have p1 := (O1.row.cellAt (k * 3 + 1) (by omega)).trans a1
    have p2 := (O1.row.cellAt (k * 3 + 2) (by omega)).trans a2
    rw [e3] at p1
    have f0 := O1.row.frozenAt (k * 3)
    have f1 := O1.row.frozenAt (k * 3 + 1)
    have f2 := O1.row.frozenAt (k * 3 + 2)
    have O2 := rec_put (y := x) (a := some ⟨wr.heap.size + 3, 0, none⟩) (c := x.gs.length) O1 hkP (own_low hg1 (by omega)) (fun i hi hik q hq e => by
     obtain ⟨a4, c4, e4, h4⟩ := hown.out.gl i hi
     rw [e4] at hq
     have := own_lt h4 hq
     have e' : wr.heap.size + 3 = q := by simpa [Value.ownBlock] using e
     omega)
    rw [hP] at O2
    have HO2 := hidI O2
    have HD : Hid (∀ j, j < k + 1 → (P.set k x).getD j r3z = is.getD j r3z ∧ ∃ q, (vs.set k (.slice (some ⟨wr.heap.size + 3, 0, none⟩) x.gs.length x.gs.length)).getD j undef = .slice (some ⟨q, 0, none⟩) (is.getD j r3z).gs.length (is.getD j r3z).gs.length) := fun j hj => by
     by_cases e : j = k
     · subst e
       rw [getD_set_same hkP, getD_set_same (by rw [hown.out.len]; exact hkP), HX.out]
       exact ⟨rfl, _, rfl⟩
     · rw [getD_set_other (fun h => e h.symm), getD_set_other (fun h => e h.symm)]; exact hd.out j (by omega)
    clear O1 O2 a0 a1 a2 h3 e3 hown hd hg1
    go_wp2
    go_roundw
    case rel => exact ⟨k + 1, _, _, by omega, by go_num, by simpa using hP, HD, HO2, ((hB1.setCell (by simp) _).setCell (by simp) _).setCell (by simp) _, by simpa using hz1'⟩
    case measure => simp [Go.RowKit.intOf]; omega
  · have hPe : P = is := getD_eq r3z hP (fun j hj => (hd.out j (by omega)).1)
    subst hPe
    have HAS : Hid (AllSome P vs) := fun i hi => (hd.out i (by omega)).2
    have hown' := hown.out
    clear hd
    go_wp2
    go_ret
    exact ⟨⟨rfl, vs, hown', HAS.out⟩, hb⟩
set_option maxHeartbeats 2000000 in
theorem c9o (ta ra : Option Addr) (tc rc : Nat) (s : St) (w : World) (hs : s.le 1048576) (hat : StAt w ta ra s) :
 Calls Tryz.prog 9 #[.agg #[.int .i64 s.wd, .slice ta s.ts.length tc, .slice ra s.rs.length rc]] w fun e w' => (∃ tb rb vs, e = .returned (.agg #[.int .i64 s.wd, .slice (some ⟨tb, 0, none⟩) s.ts.length s.ts.length, .slice (some ⟨rb, 0, none⟩) s.rs.length s.rs.length]) ∧ w'.ownsRow w.heap.size 9 1 (.slice (some ⟨tb, 0, none⟩) s.ts.length s.ts.length) s.ts.length (s.ts.map Value.string) ∧ RecOwn w' w.heap.size (.slice (some ⟨rb, 0, none⟩) s.rs.length s.rs.length) s.rs vs ∧ AllSome s.rs vs) ∧ Below w.heap.size w w' := by
 have HS : Hid (s.le 1048576) := hs
 have HA : Hid (StAt w ta ra s) := hat
 clear hs hat
 have hB0 : Below w.heap.size w (((w.alloc (.cells #[.int .i64 s.wd, .slice ta s.ts.length tc, .slice ra s.rs.length rc] 25)).alloc (.cells #[.int .i64 0, .slice none 0 0, .slice none 0 0] 45)).alloc (.cells #[.int .i64 s.wd, .slice none 0 0, .slice none 0 0] 45)) := (((Below.refl _ _).alloc (Nat.le_refl _) _).alloc (by simp) _).alloc (by simp; omega) _
 have h22 := c36o ta tc s.ts _ HS.out.1.1 (strs_below HA.out.1 hB0)
 go_enter Tryz.func9, Tryz.ntmps9
 go_wp2_with fail
 refine h22.mono ?_
 rintro e w1 ⟨⟨rfl, hat1⟩, hb1⟩
 have hx1 : Below (w.heap.size + 3) (((w.alloc (.cells #[.int .i64 s.wd, .slice ta s.ts.length tc, .slice ra s.rs.length rc] 25)).alloc (.cells #[.int .i64 0, .slice none 0 0, .slice none 0 0] 45)).alloc (.cells #[.int .i64 s.wd, .slice none 0 0, .slice none 0 0] 45)) w1 := by have h := hb1; simp at h; exact h
 have hB1 : Below w.heap.size w w1 := hB0.trans (hx1.mono (by omega))
 have hz1 : w.heap.size + 3 ≤ w1.heap.size := by have := hx1.size; simpa using this
 obtain ⟨⟨a2, r0, r1, r2⟩, ⟨o0, o1, o2⟩, fr, fo⟩ := toS_cells hx1
 have fo1 := fo 1
 have HT : Hid (w1.ownsRow (w.heap.size + 3) 9 1 (.slice (some ⟨w.heap.size + 3, 0, none⟩) s.ts.length s.ts.length) s.ts.length (s.ts.map Value.string)) := by have h := hat1; simp at h; exact h
 clear hb1 h22 hat1
 have ne : ∀ i j, (⟨w.heap.size + 1 + 1, i, none⟩ : Addr) ≠ ⟨w.heap.size + 1, j, none⟩ := fun i j e => by injection e with e _; omega
 have ne0 : ∀ i j, (⟨w.heap.size + 1 + 1, i, none⟩ : Addr) ≠ ⟨w.heap.size, j, none⟩ := fun i j e => by injection e with e _; omega
 have hS1 : Below w.heap.size w (w1.setCell ⟨w.heap.size + 1 + 1, 1, none⟩ (.slice (some ⟨w.heap.size + 1 + 1 + 1, 0, none⟩) s.ts.length s.ts.length)) := hB1.setCell (by simp; omega) _
 have h23 := c37o ra rc s.rs _ HS.out.2.1 HS.out.2.2 (recs_below HA.out.2 hS1)
 have a2' : (w1.setCell ⟨w.heap.size + 1 + 1, 1, none⟩ (.slice (some ⟨w.heap.size + 1 + 1 + 1, 0, none⟩) s.ts.length s.ts.length)).cell? ⟨w.heap.size, 2, none⟩ = some (.slice ra s.rs.length rc) := by rw [World.cell?_setCell_other _ _ _ _ (ne0 _ _)]; exact a2
 go_wp2_with fail
 refine h23.mono ?_
 rintro e w2 ⟨⟨rfl, vs, hnew⟩, hb2⟩
 have hB2 : Below w.heap.size w w2 := hS1.trans (hb2.mono hS1.size)
 have HN : Hid (RecOwn w2 w1.heap.size (.slice (some ⟨w1.heap.size, 0, none⟩) s.rs.length s.rs.length) s.rs vs ∧ AllSome s.rs vs) := by have h := hnew; simp at h; exact h
 have hb2' : Below w1.heap.size (w1.setCell ⟨w.heap.size + 1 + 1, 1, none⟩ (.slice (some ⟨w.heap.size + 1 + 1 + 1, 0, none⟩) s.ts.length s.ts.length)) w2 := by have h := hb2; simp at h; exact h
 have HT2 : Hid (w2.ownsRow (w.heap.size + 3) 9 1 (.slice (some ⟨w.heap.size + 3, 0, none⟩) s.ts.length s.ts.length) s.ts.length (s.ts.map Value.string)) := own_below (own_set HT.out _ _ (by show w.heap.size + 1 + 1 < w.heap.size + 3; omega)) hb2
 have cc : ∀ b j, b < w1.heap.size → w2.cell? ⟨b, j, none⟩ = (w1.setCell ⟨w.heap.size + 1 + 1, 1, none⟩ (.slice (some ⟨w.heap.size + 1 + 1 + 1, 0, none⟩) s.ts.length s.ts.length)).cell? ⟨b, j, none⟩ := fun b j h => hb2'.cell (by exact h)
 have ff : ∀ b j, b < w1.heap.size → w2.frozen? ⟨b, j, none⟩ = false → True := fun _ _ _ _ => trivial
 have fq : ∀ b j, b < w1.heap.size → w2.frozen? ⟨b, j, none⟩ = w1.frozen? ⟨b, j, none⟩ := fun b j h => (hb2'.frozen (by exact h)).trans (by simp)
 have p0 : w2.cell? ⟨w.heap.size + 1 + 1, 0, none⟩ = some (.int .i64 s.wd) := by rw [cc _ _ (by omega), World.cell?_setCell_other _ _ _ _ (adr_ne (by omega))]; exact o0
 have p1 : w2.cell? ⟨w.heap.size + 1 + 1, 1, none⟩ = some (.slice (some ⟨w.heap.size + 1 + 1 + 1, 0, none⟩) s.ts.length s.ts.length) := by rw [cc _ _ (by omega)]; exact World.cell?_setCell_same _ _ _ o1
 have p2 : w2.cell? ⟨w.heap.size + 1 + 1, 2, none⟩ = some (.slice none 0 0) := by rw [cc _ _ (by omega), World.cell?_setCell_other _ _ _ _ (adr_ne (by omega))]; exact o2
 have s0 : w2.cell? ⟨w.heap.size + 1, 0, none⟩ = some (.int .i64 0) := by rw [cc _ _ (by omega), World.cell?_setCell_other _ _ _ _ (ne _ _)]; exact r0
 have s1 : w2.cell? ⟨w.heap.size + 1, 1, none⟩ = some (.slice none 0 0) := by rw [cc _ _ (by omega), World.cell?_setCell_other _ _ _ _ (ne _ _)]; exact r1
 have s2 : w2.cell? ⟨w.heap.size + 1, 2, none⟩ = some (.slice none 0 0) := by rw [cc _ _ (by omega), World.cell?_setCell_other _ _ _ _ (ne _ _)]; exact r2
 have g0 := (fq (w.heap.size + 1) 0 (by omega)).trans (fr 0)
 have g1 := (fq (w.heap.size + 1) 1 (by omega)).trans (fr 1)
 have g2 := (fq (w.heap.size + 1) 2 (by omega)).trans (fr 2)
 have g3 := (fq (w.heap.size + 1 + 1) 2 (by omega)).trans (fo 2)
 clear h23 hnew hb2 hb2' cc ff fq fr fo a2' HT
 go_wp2
 generalize hX : Value.slice (some ⟨w.heap.size + 1 + 1 + 1, 0, none⟩) s.ts.length s.ts.length = SX
 generalize hY : Value.slice (some ⟨w1.heap.size, 0, none⟩) s.rs.length s.rs.length = SY
 have q0 : (w2.setCell ⟨w.heap.size + 1 + 1, 2, none⟩ SY).cell? ⟨w.heap.size + 1, 0, none⟩ = some (.int .i64 0) := by rw [World.cell?_setCell_other _ _ _ _ (ne _ _)]; exact s0
 have q1 : (w2.setCell ⟨w.heap.size + 1 + 1, 2, none⟩ SY).cell? ⟨w.heap.size + 1, 1, none⟩ = some (.slice none 0 0) := by rw [World.cell?_setCell_other _ _ _ _ (ne _ _)]; exact s1
 have q2 : (w2.setCell ⟨w.heap.size + 1 + 1, 2, none⟩ SY).cell? ⟨w.heap.size + 1, 2, none⟩ = some (.slice none 0 0) := by rw [World.cell?_setCell_other _ _ _ _ (ne _ _)]; exact s2
 have F := set3_at _ (w.heap.size + 1) 0 (.int .i64 s.wd) SX SY _ _ _ q0 q1 q2
 simp only [Nat.zero_add] at F
 refine bodyPost_ret (v := .agg #[.int .i64 s.wd, SX, SY]) (by simp [results, Tryz.results9, go_sem, F.1, F.2.1, F.2.2]) rfl ⟨⟨w.heap.size + 3, w1.heap.size, vs, by rw [← hX, ← hY], ?_, ?_, HN.out.2⟩, ?_⟩
 · subst hX hY
   refine own_low (own_set (own_set (own_set (own_set HT2.out _ _ ?_) _ _ ?_) _ _ ?_) _ _ ?_) ?_ <;> (try dsimp only) <;> omega
 · subst hX hY
   refine recO_low (recO_set (recO_set (recO_set (recO_set HN.out.1 ?_) ?_) ?_) ?_) ?_ <;> (try dsimp only) <;> omega
 · exact (((hB2.setCell (by simp; omega) _).setCell (by simp) _).setCell (by simp) _).setCell (by simp) _
end Go.Proofs.YtboojefodbjbcaaGreatDoor
