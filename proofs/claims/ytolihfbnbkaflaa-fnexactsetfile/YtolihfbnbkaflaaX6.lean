import Derived.Test.YtolihfbnbkaflaaX5
import Derived.Deep.CutRange
import Derived.Deep.DeepCutAuto
namespace Go.Proofs.Ytolihfbnbkaflaa
set_option linter.unusedSimpArgs false
open Go.RowKit
theorem own_ne {u : World} {B Wb : Nat} {v z : Value} {gs : List F2} (h : OwnF u B v gs) (hw : BlkAt u Wb z 29) : v.ownBlock ≠ some Wb := by
  intro e
  rcases h.2 with ⟨hv, h0⟩ | ⟨g, cap, cur, hv, hg, hh, hr⟩
  · rw [hv] at e; cases e
  · rw [hv] at e
    have e' : some g = some Wb := e
    injection e' with e'
    subst e'
    unfold BlkAt at hw
    rw [hh] at hw
    injection hw with hw
    injection hw with _ ht _
    cases ht
theorem newF_far {B : Nat} {u : World} {a : Option Addr} {gs : List F2} {q j : Nat} {v : Value} (h : NewF B u a gs) (hlt : ∀ g, a = some ⟨g, 0, none⟩ → gs ≠ [] → B ≤ g → g ≠ q) : NewF B (u.setCell ⟨q, j, none⟩ v) a gs := by
  rcases h.2 with h0 | ⟨g, ha, hg, ho⟩
  · exact ⟨.inl h0, .inl h0⟩
  · by_cases hgs : gs = []
    · exact ⟨.inl hgs, .inl hgs⟩
    · have hne : g ≠ q := hlt g ha hgs hg
      refine ⟨?_, .inr ⟨g, ha, hg, open_far ho (Ne.symm hne)⟩⟩
      have hf := h.1
      rw [ha] at hf ⊢
      exact files_setCell hf (by show q ≠ g; exact Ne.symm hne)
theorem NewF.later {B : Nat} {u u' : World} {a : Option Addr} {gs : List F2} (h : NewF B u a gs) (hb : Below u.heap.size u u') : NewF B u' a gs :=
  ⟨files_below h.1 hb, h.2.imp id (fun ⟨g, ha, hg, ho⟩ => ⟨g, ha, hg, ho.below hb⟩)⟩
theorem BlkAt.set_far {u : World} {b q j : Nat} {v z : Value} {t : TypeId} (h : BlkAt u b v t) (hne : b ≠ q) : BlkAt (u.setCell ⟨q, j, none⟩ z) b v t := by
  unfold BlkAt; rw [Below.heap_setCell _ _ _ _ (by exact hne)]; exact h
theorem BlkAt.set_same {u : World} {b : Nat} {v z : Value} {t : TypeId} (h : BlkAt u b v t) : BlkAt (u.setCell ⟨b, 0, none⟩ z) b z t := heap_setCell_same u b 0 _ t z h
/-- The file's box. -/
def FBox (u : World) (b : Nat) (x : F2) : Prop := u.heap[b]? = some (.cells #[.string x.nm, .string x.tx] 34 (0, 0))
theorem FBox.later {u u' : World} {b : Nat} {x : F2} (h : FBox u b x) (hb : Below u.heap.size u u') : FBox u' b x := by
  unfold FBox; rw [hb.block _ (blk_lt h)]; exact h
theorem FBox.but {u u' : World} {b g : Nat} {x : F2} (h : FBox u b x) (hb : But g u u') (hne : b ≠ g) : FBox u' b x := by
  unfold FBox; rw [hb.block _ (blk_lt h) hne]; exact h
theorem FBox.cells {u : World} {b : Nat} {x : F2} (h : FBox u b x) : u.cell? ⟨b, 0, none⟩ = some (.string x.nm) ∧ u.cell? ⟨b, 1, none⟩ = some (.string x.tx) := ⟨by rw [Lib.cell_of_heap h]; rfl, by rw [Lib.cell_of_heap h]; rfl⟩
theorem fbox_far {u : World} {b q j : Nat} {x : F2} {z : Value} (h : FBox u b x) (hne : b ≠ q) : FBox (u.setCell ⟨q, j, none⟩ z) b x := by
  unfold FBox; rw [Below.heap_setCell _ _ _ _ (by exact hne)]; exact h
theorem at_cells {u : World} {B : Nat} {fs : List F2} (h : FilesAt u (some ⟨B, 0, none⟩) fs) : ∀ i, i < fs.length → u.cell? ⟨B, 0 + i * 2, none⟩ = some (.string (fs.getD i f2z).nm) ∧ u.cell? ⟨B, 0 + i * 2 + 1, none⟩ = some (.string (fs.getD i f2z).tx) := fun i hi => by
  rcases h with h | ⟨b, off, h1, h2, h3⟩
  · rw [h] at hi; exact absurd hi (Nat.not_lt_zero _)
  · injection h1 with h1; injection h1 with e1 e2; subst e1; subst e2; exact h3 i hi
theorem newF_mono {B B' : Nat} {u : World} {a : Option Addr} {gs : List F2} (h : NewF B u a gs) (hB : B' ≤ B) : NewF B' u a gs :=
  ⟨h.1, h.2.imp id (fun ⟨g, ha, hg, ho⟩ => ⟨g, ha, Nat.le_trans hB hg, ho⟩)⟩
theorem newF_ge {B : Nat} {u : World} {a : Option Addr} {gs : List F2} (h : NewF B u a gs) (g : Nat) (ha : a = some ⟨g, 0, none⟩) (h0 : gs ≠ []) : B ≤ g := by
  rcases h.2 with h1 | ⟨g', ha', hg, _⟩
  · exact absurd h1 h0
  · rw [ha] at ha'; injection ha' with e; injection e with e _; omega
/-- Behind the program's call. -/
def AtNew (u : World) (x : F2) (fs : List F2) (s t : Value) (wc : World) : Prop := ∃ Gb ag cg c gs, s = .pointer (some ⟨Gb, 0, none⟩) ∧ t = .int .i64 c ∧ Below u.heap.size u wc ∧ BlkAt wc Gb (.slice ag gs.length cg) 29 ∧ NewF u.heap.size wc ag gs ∧ (∀ g, ag = some ⟨g, 0, none⟩ → gs ≠ [] → g ≠ Gb) ∧ u.heap.size ≤ Gb ∧ SetR fs x c gs
theorem atNew_block {u wc : World} {Gb : Nat} {a : Option Addr} {gs : List F2} (h : NewF u.heap.size wc a gs) (hne : ∀ g, a = some ⟨g, 0, none⟩ → gs ≠ [] → g ≠ Gb) (hG : u.heap.size ≤ Gb) : ∃ g, u.heap.size ≤ g ∧ g ≠ Gb ∧ (gs.length = 0 ∨ a = some ⟨g, 0, none⟩) ∧ (gs.length = 0 ∨ Open2 wc g gs.length) := by
  rcases h.2 with h0 | ⟨g, ha, hg, ho⟩
  · have : gs.length = 0 := by rw [h0]; rfl
    exact ⟨Gb + 1, by omega, by omega, .inl this, .inl this⟩
  · by_cases h0 : gs = []
    · have : gs.length = 0 := by rw [h0]; rfl
      exact ⟨Gb + 1, by omega, by omega, .inl this, .inl this⟩
    · exact ⟨g, hg, hne g ha h0, .inr ha, .inr ho⟩
/-- Behind the specification's call. -/
def AtW (w : World) (tA : Value) (x : F2) (fs : List F2) (s6 s7 : Value) (wc : World) : Prop := ∃ Wb aw cw c gs, s6 = .pointer (some ⟨Wb, 0, none⟩) ∧ s7 = .int .i64 c ∧ Below w.heap.size w wc ∧ BlkAt wc w.heap.size tA 24 ∧ FBox wc (w.heap.size + 1) x ∧ BlkAt wc Wb (.slice aw gs.length cw) 29 ∧ OwnF wc (w.heap.size + 2) (.slice aw gs.length cw) gs ∧ SetR fs x c gs

set_option maxHeartbeats 8000000 in
set_option maxRecDepth 100000 in
theorem c4 (a : Option Addr) (cap : Nat) (fs : List F2) (x : F2) (w : World) (hs : ∀ i, (fs.getD i f2z).le 9223372036854775807) (hl : fs.length ≤ 9223372036854775807) (hx : x.le 9223372036854775807) (hat : FilesAt w a fs) :
    Calls Try.prog 4 #[.agg #[.slice a fs.length cap], .agg #[.string x.nm, .string x.tx]] w fun e w' => e = .returned (.bool true) ∧ Below w.heap.size w w' := by
  have HAT : Hid (FilesAt w a fs) := hat
  have hB0 : Below w.heap.size w ((w.alloc (.cells #[.slice a fs.length cap] 24)).alloc (.cells #[.string x.nm, .string x.tx] 34)) := ((Below.refl _ _).alloc (Nat.le_refl _) _).alloc (by simp) _
  have HA0 : Hid (BlkAt ((w.alloc (.cells #[.slice a fs.length cap] 24)).alloc (.cells #[.string x.nm, .string x.tx] 34)) w.heap.size (.slice a fs.length cap) 24) := by unfold BlkAt Hid; rw [alloc_old (by simp)]; exact alloc_new rfl _
  have HX0 : Hid (FBox ((w.alloc (.cells #[.slice a fs.length cap] 24)).alloc (.cells #[.string x.nm, .string x.tx] 34)) (w.heap.size + 1) x) := alloc_new (by simp) _
  clear hat
  go_enter Try.func4, Try.ntmps4
  go_wp2_with fail
  refine (c6 a cap fs _ hs hl (files_below HAT.out hB0)).mono ?_
  rintro e u1 ⟨⟨r, rfl, hr⟩, hb1⟩
  have hB1 : Below w.heap.size w u1 := hB0.trans (hb1.mono hB0.size)
  have HA1 : Hid (BlkAt u1 w.heap.size (.slice a fs.length cap) 24) := HA0.out.later hb1
  have HX1' : Hid (FBox u1 (w.heap.size + 1) x) := HX0.out.later hb1
  have d1 := HA1.out.cell
  obtain ⟨d2, d3⟩ := HX1'.out.cells
  clear hb1 HA0 HX0
  by_cases hr0 : r < 0
  · clear hr
    go_wp2
    go_ret
    exact ⟨rfl, hB1⟩
  obtain ⟨hl1, hs1, hrm⟩ := hr (by omega)
  have HS1 : Hid (∀ i, (fs.getD i f2z).le 1048576) := hs1
  clear hs hs1 hr
  go_wp2_with fail
  refine (c11 x r u1 hx (by omega) hrm).mono ?_
  rintro e u ⟨⟨q, rfl, hq⟩, hb2⟩
  have hBu : Below w.heap.size w u := hB1.trans (hb2.mono hB1.size)
  have HAu : Hid (BlkAt u w.heap.size (.slice a fs.length cap) 24) := HA1.out.later hb2
  have HXu : Hid (FBox u (w.heap.size + 1) x) := HX1'.out.later hb2
  clear d1 d2 d3 HA1 HX1' hb2
  have dA := HAu.out.cell
  obtain ⟨dn, dx⟩ := HXu.out.cells
  by_cases hq0 : q < 0
  · clear hq
    go_wp2
    go_ret
    exact ⟨rfl, hBu⟩
  have hx1 := (hq (by omega)).1
  have HX1 : Hid (x.le 1048576) := hx1
  have HATu : Hid (FilesAt u a fs) := files_below HAT.out hBu
  have hzu : w.heap.size + 2 ≤ u.heap.size := blk_lt HXu.out
  have HSB : Hid (∀ {ad : Addr} {v : Value}, u.cell? ad = some v → ∀ {y : World}, Below u.heap.size u y → y.cell? ad = some v) := fun {ad v} h {y} hb => by
    rw [hb.cell (World.block_lt_of_cell? _ _ h)]; exact h
  clear hq hx hx1
  go_upto_region 8 with fail
  go_cut [6, 7] (fun s6 s7 wc => AtW w (.slice a fs.length cap) x fs s6 s7 wc)
  case first =>
    refine wp_region_held_drew (S := (fun u => u.cell? ⟨w.heap.size, 0, none⟩ = some (.slice a fs.length cap) ∧ u.cell? ⟨w.heap.size + 1, 0, none⟩ = some (.string x.nm) ∧ u.cell? ⟨w.heap.size + 1, 1, none⟩ = some (.string x.tx))) (by kernel_rfl) ?_ (fun hHeld => ?_)
    · ((try dsimp only); exact ⟨dA, dn, dx⟩)
    have HBy0 : Hid (Below u.heap.size u u.drew) := (Below.refl _ _).drew
    generalize u.drew = y0 at *
    refine wpAnyH_take (i := 0) (oi := { dst := some 27, op := Op.load 24 (Operand.tmp 2), type := 24, pos := "exact.go:3133", after := #[], guard := none }) (v := ?_) rfl (by kernel_rfl) (by kernel_rfl) (by kernel_rfl) (fun _ _ _ h => h) (Or.inl ⟨by rfl, ?_⟩) (by assumption) ?_
    rotate_left
    · intro wq hSw
      (try dsimp only at hSw)
      go_simp
      try with_reducible rfl
    try simp only [Act.put, List.setIfInBounds_toArray, List.set_cons_zero, List.set_cons_succ]
    refine wpAnyH_take (i := 2) (oi := { dst := some 29, op := Op.load 34 (Operand.tmp 3), type := 34, pos := "exact.go:3133", after := #[], guard := none }) (v := ?_) rfl (by kernel_rfl) (by kernel_rfl) (by kernel_rfl) (fun _ _ _ h => h) (Or.inl ⟨by rfl, ?_⟩) (by assumption) ?_
    rotate_left
    · intro wq hSw
      (try dsimp only at hSw)
      go_simp
      try with_reducible rfl
    try simp only [Act.put, List.setIfInBounds_toArray, List.set_cons_zero, List.set_cons_succ]
    refine wpAnyH_ready (rs := [1, 8]) (by kernel_rfl) (by simp) ?_
    refine AllReadyH.cons (o := { dst := some 28, op := Op.call { callee := Callee.value (Operand.func 8), args := #[Operand.tmp 27], argTypes := #[24] }, type := 29, pos := "exact.go:3133", after := #[{ on := 0, ground := Ground.data }], guard := none }) rfl (fun K hK => ?_) (AllReadyH.cons (o := { dst := some 6, op := Op.alloc 29, type := 0, pos := "exact.go:3133", after := #[], guard := none }) rfl (fun K hK => ?_) AllReadyH.nil)
    · go_simp
      refine (c8 a cap fs y0 hl1 (files_below HATu.out HBy0.out)).mono ?_
      rintro e y1 ⟨⟨a2, rfl, h2⟩, hby1⟩
      have HFy1 : Hid (FilesAt y1 a2 fs) := h2
      clear h2
      have HBy1 : Hid (Below u.heap.size u y1) := HBy0.out.trans (hby1.mono HBy0.out.size)
      go_wp2_with fail
      clear hHeld
      refine hK.out _ _ ?_ (fun hHeld => ?_)
      · ((try dsimp only); exact ⟨HSB.out dA HBy1.out, HSB.out dn HBy1.out, HSB.out dx HBy1.out⟩)
      clear hK K
      try simp only [Act.put, List.setIfInBounds_toArray, List.set_cons_zero, List.set_cons_succ]
      refine wpAnyH_ready (rs := [3, 8]) (by kernel_rfl) (by simp) ?_
      refine AllReadyH.cons (o := { dst := some 30, op := Op.call { callee := Callee.value (Operand.func 13), args := #[Operand.tmp 29], argTypes := #[34] }, type := 38, pos := "exact.go:3133", after := #[{ on := 2, ground := Ground.data }, { on := 1, ground := Ground.chain }], guard := none }) rfl (fun K hK => ?_) (AllReadyH.cons (o := { dst := some 6, op := Op.alloc 29, type := 0, pos := "exact.go:3133", after := #[], guard := none }) rfl (fun K hK => ?_) AllReadyH.nil)
      · go_simp
        refine (c13b x y1).mono ?_
        rintro e y2 ⟨rfl, hby2⟩
        have HBy2 : Hid (Below u.heap.size u y2) := HBy1.out.trans (hby2.mono HBy1.out.size)
        have HFy2 : Hid (FilesAt y2 a2 fs) := files_below HFy1.out hby2
        go_wp2_with fail
        clear hHeld
        refine hK.out _ _ ?_ (fun hHeld => ?_)
        · ((try dsimp only); exact ⟨HSB.out dA HBy2.out, HSB.out dn HBy2.out, HSB.out dx HBy2.out⟩)
        clear hK K
        try simp only [Act.put, List.setIfInBounds_toArray, List.set_cons_zero, List.set_cons_succ]
        refine wpAnyH_ready (rs := [4, 8]) (by kernel_rfl) (by simp) ?_
        refine AllReadyH.cons (o := { dst := some 31, op := Op.call { callee := Callee.value (Operand.func 12), args := #[Operand.tmp 28, Operand.tmp 30], argTypes := #[29, 38] }, type := 36, pos := "exact.go:3133", after := #[{ on := 1, ground := Ground.data }, { on := 3, ground := Ground.data }, { on := 3, ground := Ground.chain }], guard := none }) rfl (fun K hK => ?_) (AllReadyH.cons (o := { dst := some 6, op := Op.alloc 29, type := 0, pos := "exact.go:3133", after := #[], guard := none }) rfl (fun K hK => ?_) AllReadyH.nil)
        · go_simp
          refine (c12 a2 fs.length fs x y2 hl1 HS1.out HX1.out HFy2.out).mono ?_
          rintro e y3 ⟨⟨vw, c, gs, rfl, how, hsr⟩, hby3⟩
          obtain ⟨aw, cw, hvw, hfw⟩ := how.form
          subst hvw
          have HWy3 : Hid (OwnF y3 u.heap.size (.slice aw gs.length cw) gs) := owns_mono how HBy2.out.size
          have HSR : Hid (SetR fs x c gs) := hsr
          clear how hsr hfw
          have HBy3 : Hid (Below u.heap.size u y3) := HBy2.out.trans (hby3.mono HBy2.out.size)
          have HFy3 : Hid (FilesAt y3 a2 fs) := files_below HFy2.out hby3
          go_wp2_with fail
          clear hHeld
          refine hK.out _ _ ?_ (fun hHeld => ?_)
          · ((try dsimp only); exact ⟨HSB.out dA HBy3.out, HSB.out dn HBy3.out, HSB.out dx HBy3.out⟩)
          clear hK K
          try simp only [Act.put, List.setIfInBounds_toArray, List.set_cons_zero, List.set_cons_succ]
          refine wpAnyH_take (i := 5) (oi := { dst := some 26, op := Op.move (Operand.tmp 31), type := 36, pos := "exact.go:3133", after := #[{ on := 4, ground := Ground.data }], guard := none }) (v := ?_) rfl (by kernel_rfl) (by kernel_rfl) (by kernel_rfl) (fun _ _ _ h => h) (Or.inl ⟨by rfl, ?_⟩) (by assumption) ?_
          rotate_left
          · intro wq hSw
            (try dsimp only at hSw)
            go_simp
            try with_reducible rfl
          try simp only [Act.put, List.setIfInBounds_toArray, List.set_cons_zero, List.set_cons_succ]
          refine wpAnyH_take (i := 6) (oi := { dst := some 32, op := Op.extract (Operand.tmp 26) 0, type := 29, pos := "exact.go:3133", after := #[{ on := 5, ground := Ground.data }], guard := none }) (v := ?_) rfl (by kernel_rfl) (by kernel_rfl) (by kernel_rfl) (fun _ _ _ h => h) (Or.inl ⟨by rfl, ?_⟩) (by assumption) ?_
          rotate_left
          · intro wq hSw
            (try dsimp only at hSw)
            go_simp
            try with_reducible rfl
          try simp only [Act.put, List.setIfInBounds_toArray, List.set_cons_zero, List.set_cons_succ]
          refine wpAnyH_take (i := 7) (oi := { dst := some 33, op := Op.extract (Operand.tmp 26) 1, type := 3, pos := "exact.go:3133", after := #[{ on := 5, ground := Ground.data }, { on := 9, ground := Ground.gcOnly Departure.lateStores }], guard := none }) (v := ?_) rfl (by kernel_rfl) (by kernel_rfl) (by kernel_rfl) (fun _ _ _ h => h) (Or.inl ⟨by rfl, ?_⟩) (by assumption) ?_
          rotate_left
          · intro wq hSw
            (try dsimp only at hSw)
            go_simp
            try with_reducible rfl
          try simp only [Act.put, List.setIfInBounds_toArray, List.set_cons_zero, List.set_cons_succ]
          refine wpAnyH_ready (rs := [8]) (by kernel_rfl) (by simp) ?_
          refine AllReadyH.cons (o := { dst := some 6, op := Op.alloc 29, type := 0, pos := "exact.go:3133", after := #[], guard := none }) rfl (fun K hK => ?_) AllReadyH.nil
          go_simp
          have HBy4 : Hid (Below u.heap.size u (y3.alloc (.cells #[.slice none 0 0] 29))) := HBy3.out.alloc HBy3.out.size _
          have hAy4 : Below y3.heap.size y3 (y3.alloc (.cells #[.slice none 0 0] 29)) := (Below.refl _ _).alloc (Nat.le_refl _) _
          have HVy4 : Hid (BlkAt (y3.alloc (.cells #[.slice none 0 0] 29)) y3.heap.size (.slice none 0 0) 29) := BlkAt.new _ _ _
          have huy4 : u.heap.size ≤ y3.heap.size := HBy3.out.size
          have HFy4 : Hid (FilesAt (y3.alloc (.cells #[.slice none 0 0] 29)) a2 fs) := files_below HFy3.out hAy4
          have HWy4 : Hid (OwnF (y3.alloc (.cells #[.slice none 0 0] 29)) u.heap.size (.slice aw gs.length cw) gs) := HWy3.out.below hAy4
          clear hAy4
          clear hHeld
          refine hK.out _ _ ?_ (fun hHeld => ?_)
          · ((try dsimp only); exact ⟨HSB.out dA HBy4.out, HSB.out dn HBy4.out, HSB.out dx HBy4.out⟩)
          clear hK K
          try simp only [Act.put, List.setIfInBounds_toArray, List.set_cons_zero, List.set_cons_succ]
          generalize (y3.alloc (.cells #[.slice none 0 0] 29)) = y4 at *
          generalize y3.heap.size = Vb at *
          have cV := HVy4.out.cell
          have fV : y4.frozen? ⟨Vb, 0, none⟩ = false := Lib.frozen_of_heap HVy4.out 0
          have hVu : u.heap.size ≤ Vb := by omega
          refine wpAnyH_ready (rs := [9]) (by kernel_rfl) (by simp) ?_
          refine AllReadyH.cons (o := { dst := none, op := Op.store 29 (Operand.tmp 6) (Operand.tmp 32), type := 0, pos := "exact.go:3133", after := #[{ on := 8, ground := Ground.data }, { on := 6, ground := Ground.data }, { on := 4, ground := Ground.chain }, { on := 0, ground := Ground.phase }, { on := 1, ground := Ground.phase }, { on := 2, ground := Ground.phase }, { on := 3, ground := Ground.phase }, { on := 4, ground := Ground.phase }, { on := 5, ground := Ground.phase }, { on := 6, ground := Ground.phase }, { on := 7, ground := Ground.textOnly Departure.lateStores }, { on := 8, ground := Ground.phase }], guard := none }) rfl (fun K hK => ?_) AllReadyH.nil
          go_simp
          clear hHeld
          refine hK.out _ _ ?_ (fun hHeld => ?_)
          · ((try dsimp only); exact ⟨(World.cell?_setCell_far _ _ _ _ (by show Vb ≠ w.heap.size; omega)).trans (HSB.out dA HBy4.out), (World.cell?_setCell_far _ _ _ _ (by show Vb ≠ w.heap.size + 1; omega)).trans (HSB.out dn HBy4.out), (World.cell?_setCell_far _ _ _ _ (by show Vb ≠ w.heap.size + 1; omega)).trans (HSB.out dx HBy4.out)⟩)
          clear hK K
          try simp only [Act.put, List.setIfInBounds_toArray, List.set_cons_zero, List.set_cons_succ]
          refine wpAnyH_take (i := 10) (oi := { dst := some 7, op := Op.assign (Operand.tmp 33), type := 3, pos := "exact.go:3133", after := #[{ on := 7, ground := Ground.data }, { on := 9, ground := Ground.chain }, { on := 0, ground := Ground.phase }, { on := 1, ground := Ground.phase }, { on := 2, ground := Ground.phase }, { on := 3, ground := Ground.phase }, { on := 4, ground := Ground.phase }, { on := 5, ground := Ground.phase }, { on := 6, ground := Ground.phase }, { on := 7, ground := Ground.phase }, { on := 8, ground := Ground.phase }, { on := 9, ground := Ground.phase }], guard := none }) (v := ?_) rfl (by kernel_rfl) (by kernel_rfl) (by kernel_rfl) (fun _ _ _ h => h) (Or.inl ⟨by rfl, ?_⟩) (by assumption) ?_
          rotate_left
          · intro wq hSw
            (try dsimp only at hSw)
            go_simp
            try with_reducible rfl
          try simp only [Act.put, List.setIfInBounds_toArray, List.set_cons_zero, List.set_cons_succ]
          refine wpAnyH_done (by kernel_rfl) ?_ _
          clear hHeld
          go_wp2_with fail
          go_meet
          refine ⟨Vb, aw, cw, c, gs, rfl, rfl, (hBu.trans (HBy4.out.mono hBu.size)).setCell (by simp; omega) _, ((HAu.out.later HBy4.out).set_far (by omega)), fbox_far (HXu.out.later HBy4.out) (by omega), HVy4.out.set_same, ?_, HSR.out⟩
          exact owns_but (b := Vb) (owns_mono HWy4.out hzu) ((But.refl _ _).setCell _ _) (own_ne HWy4.out HVy4.out)
        · go_simp
          have HBy5 : Hid (Below u.heap.size u (y2.alloc (.cells #[.slice none 0 0] 29))) := HBy2.out.alloc HBy2.out.size _
          have hAy5 : Below y2.heap.size y2 (y2.alloc (.cells #[.slice none 0 0] 29)) := (Below.refl _ _).alloc (Nat.le_refl _) _
          have HVy5 : Hid (BlkAt (y2.alloc (.cells #[.slice none 0 0] 29)) y2.heap.size (.slice none 0 0) 29) := BlkAt.new _ _ _
          have huy5 : u.heap.size ≤ y2.heap.size := HBy2.out.size
          have HFy5 : Hid (FilesAt (y2.alloc (.cells #[.slice none 0 0] 29)) a2 fs) := files_below HFy2.out hAy5
          clear hAy5
          clear hHeld
          refine hK.out _ _ ?_ (fun hHeld => ?_)
          · ((try dsimp only); exact ⟨HSB.out dA HBy5.out, HSB.out dn HBy5.out, HSB.out dx HBy5.out⟩)
          clear hK K
          try simp only [Act.put, List.setIfInBounds_toArray, List.set_cons_zero, List.set_cons_succ]
          generalize (y2.alloc (.cells #[.slice none 0 0] 29)) = y5 at *
          generalize y2.heap.size = Vb at *
          refine wpAnyH_ready (rs := [4]) (by kernel_rfl) (by simp) ?_
          refine AllReadyH.cons (o := { dst := some 31, op := Op.call { callee := Callee.value (Operand.func 12), args := #[Operand.tmp 28, Operand.tmp 30], argTypes := #[29, 38] }, type := 36, pos := "exact.go:3133", after := #[{ on := 1, ground := Ground.data }, { on := 3, ground := Ground.data }, { on := 3, ground := Ground.chain }], guard := none }) rfl (fun K hK => ?_) AllReadyH.nil
          go_simp
          refine (c12 a2 fs.length fs x y5 hl1 HS1.out HX1.out HFy5.out).mono ?_
          rintro e y6 ⟨⟨vw, c, gs, rfl, how, hsr⟩, hby6⟩
          obtain ⟨aw, cw, hvw, hfw⟩ := how.form
          subst hvw
          have HWy6 : Hid (OwnF y6 u.heap.size (.slice aw gs.length cw) gs) := owns_mono how HBy5.out.size
          have HSR : Hid (SetR fs x c gs) := hsr
          clear how hsr hfw
          have HBy6 : Hid (Below u.heap.size u y6) := HBy5.out.trans (hby6.mono HBy5.out.size)
          have HFy6 : Hid (FilesAt y6 a2 fs) := files_below HFy5.out hby6
          have HVy6 : Hid (BlkAt y6 Vb (.slice none 0 0) 29) := HVy5.out.later hby6
          have hvy6 : Vb < y5.heap.size := HVy5.out.lt
          go_wp2_with fail
          clear hHeld
          refine hK.out _ _ ?_ (fun hHeld => ?_)
          · ((try dsimp only); exact ⟨HSB.out dA HBy6.out, HSB.out dn HBy6.out, HSB.out dx HBy6.out⟩)
          clear hK K
          try simp only [Act.put, List.setIfInBounds_toArray, List.set_cons_zero, List.set_cons_succ]
          refine wpAnyH_take (i := 5) (oi := { dst := some 26, op := Op.move (Operand.tmp 31), type := 36, pos := "exact.go:3133", after := #[{ on := 4, ground := Ground.data }], guard := none }) (v := ?_) rfl (by kernel_rfl) (by kernel_rfl) (by kernel_rfl) (fun _ _ _ h => h) (Or.inl ⟨by rfl, ?_⟩) (by assumption) ?_
          rotate_left
          · intro wq hSw
            (try dsimp only at hSw)
            go_simp
            try with_reducible rfl
          try simp only [Act.put, List.setIfInBounds_toArray, List.set_cons_zero, List.set_cons_succ]
          refine wpAnyH_take (i := 6) (oi := { dst := some 32, op := Op.extract (Operand.tmp 26) 0, type := 29, pos := "exact.go:3133", after := #[{ on := 5, ground := Ground.data }], guard := none }) (v := ?_) rfl (by kernel_rfl) (by kernel_rfl) (by kernel_rfl) (fun _ _ _ h => h) (Or.inl ⟨by rfl, ?_⟩) (by assumption) ?_
          rotate_left
          · intro wq hSw
            (try dsimp only at hSw)
            go_simp
            try with_reducible rfl
          try simp only [Act.put, List.setIfInBounds_toArray, List.set_cons_zero, List.set_cons_succ]
          refine wpAnyH_take (i := 7) (oi := { dst := some 33, op := Op.extract (Operand.tmp 26) 1, type := 3, pos := "exact.go:3133", after := #[{ on := 5, ground := Ground.data }, { on := 9, ground := Ground.gcOnly Departure.lateStores }], guard := none }) (v := ?_) rfl (by kernel_rfl) (by kernel_rfl) (by kernel_rfl) (fun _ _ _ h => h) (Or.inl ⟨by rfl, ?_⟩) (by assumption) ?_
          rotate_left
          · intro wq hSw
            (try dsimp only at hSw)
            go_simp
            try with_reducible rfl
          try simp only [Act.put, List.setIfInBounds_toArray, List.set_cons_zero, List.set_cons_succ]
          have cV := HVy6.out.cell
          have fV : y6.frozen? ⟨Vb, 0, none⟩ = false := Lib.frozen_of_heap HVy6.out 0
          have hVu : u.heap.size ≤ Vb := by omega
          refine wpAnyH_ready (rs := [9]) (by kernel_rfl) (by simp) ?_
          refine AllReadyH.cons (o := { dst := none, op := Op.store 29 (Operand.tmp 6) (Operand.tmp 32), type := 0, pos := "exact.go:3133", after := #[{ on := 8, ground := Ground.data }, { on := 6, ground := Ground.data }, { on := 4, ground := Ground.chain }, { on := 0, ground := Ground.phase }, { on := 1, ground := Ground.phase }, { on := 2, ground := Ground.phase }, { on := 3, ground := Ground.phase }, { on := 4, ground := Ground.phase }, { on := 5, ground := Ground.phase }, { on := 6, ground := Ground.phase }, { on := 7, ground := Ground.textOnly Departure.lateStores }, { on := 8, ground := Ground.phase }], guard := none }) rfl (fun K hK => ?_) AllReadyH.nil
          go_simp
          clear hHeld
          refine hK.out _ _ ?_ (fun hHeld => ?_)
          · ((try dsimp only); exact ⟨(World.cell?_setCell_far _ _ _ _ (by show Vb ≠ w.heap.size; omega)).trans (HSB.out dA HBy6.out), (World.cell?_setCell_far _ _ _ _ (by show Vb ≠ w.heap.size + 1; omega)).trans (HSB.out dn HBy6.out), (World.cell?_setCell_far _ _ _ _ (by show Vb ≠ w.heap.size + 1; omega)).trans (HSB.out dx HBy6.out)⟩)
          clear hK K
          try simp only [Act.put, List.setIfInBounds_toArray, List.set_cons_zero, List.set_cons_succ]
          refine wpAnyH_take (i := 10) (oi := { dst := some 7, op := Op.assign (Operand.tmp 33), type := 3, pos := "exact.go:3133", after := #[{ on := 7, ground := Ground.data }, { on := 9, ground := Ground.chain }, { on := 0, ground := Ground.phase }, { on := 1, ground := Ground.phase }, { on := 2, ground := Ground.phase }, { on := 3, ground := Ground.phase }, { on := 4, ground := Ground.phase }, { on := 5, ground := Ground.phase }, { on := 6, ground := Ground.phase }, { on := 7, ground := Ground.phase }, { on := 8, ground := Ground.phase }, { on := 9, ground := Ground.phase }], guard := none }) (v := ?_) rfl (by kernel_rfl) (by kernel_rfl) (by kernel_rfl) (fun _ _ _ h => h) (Or.inl ⟨by rfl, ?_⟩) (by assumption) ?_
          rotate_left
          · intro wq hSw
            (try dsimp only at hSw)
            go_simp
            try with_reducible rfl
          try simp only [Act.put, List.setIfInBounds_toArray, List.set_cons_zero, List.set_cons_succ]
          refine wpAnyH_done (by kernel_rfl) ?_ _
          clear hHeld
          go_wp2_with fail
          go_meet
          refine ⟨Vb, aw, cw, c, gs, rfl, rfl, (hBu.trans (HBy6.out.mono hBu.size)).setCell (by simp; omega) _, ((HAu.out.later HBy6.out).set_far (by omega)), fbox_far (HXu.out.later HBy6.out) (by omega), HVy6.out.set_same, ?_, HSR.out⟩
          exact owns_but (b := Vb) (owns_mono HWy6.out hzu) ((But.refl _ _).setCell _ _) (own_ne HWy6.out HVy6.out)
      · go_simp
        have HBy7 : Hid (Below u.heap.size u (y1.alloc (.cells #[.slice none 0 0] 29))) := HBy1.out.alloc HBy1.out.size _
        have hAy7 : Below y1.heap.size y1 (y1.alloc (.cells #[.slice none 0 0] 29)) := (Below.refl _ _).alloc (Nat.le_refl _) _
        have HVy7 : Hid (BlkAt (y1.alloc (.cells #[.slice none 0 0] 29)) y1.heap.size (.slice none 0 0) 29) := BlkAt.new _ _ _
        have huy7 : u.heap.size ≤ y1.heap.size := HBy1.out.size
        have HFy7 : Hid (FilesAt (y1.alloc (.cells #[.slice none 0 0] 29)) a2 fs) := files_below HFy1.out hAy7
        clear hAy7
        clear hHeld
        refine hK.out _ _ ?_ (fun hHeld => ?_)
        · ((try dsimp only); exact ⟨HSB.out dA HBy7.out, HSB.out dn HBy7.out, HSB.out dx HBy7.out⟩)
        clear hK K
        try simp only [Act.put, List.setIfInBounds_toArray, List.set_cons_zero, List.set_cons_succ]
        generalize (y1.alloc (.cells #[.slice none 0 0] 29)) = y7 at *
        generalize y1.heap.size = Vb at *
        refine wpAnyH_ready (rs := [3]) (by kernel_rfl) (by simp) ?_
        refine AllReadyH.cons (o := { dst := some 30, op := Op.call { callee := Callee.value (Operand.func 13), args := #[Operand.tmp 29], argTypes := #[34] }, type := 38, pos := "exact.go:3133", after := #[{ on := 2, ground := Ground.data }, { on := 1, ground := Ground.chain }], guard := none }) rfl (fun K hK => ?_) AllReadyH.nil
        go_simp
        refine (c13b x y7).mono ?_
        rintro e y8 ⟨rfl, hby8⟩
        have HBy8 : Hid (Below u.heap.size u y8) := HBy7.out.trans (hby8.mono HBy7.out.size)
        have HFy8 : Hid (FilesAt y8 a2 fs) := files_below HFy7.out hby8
        have HVy8 : Hid (BlkAt y8 Vb (.slice none 0 0) 29) := HVy7.out.later hby8
        have hvy8 : Vb < y7.heap.size := HVy7.out.lt
        go_wp2_with fail
        clear hHeld
        refine hK.out _ _ ?_ (fun hHeld => ?_)
        · ((try dsimp only); exact ⟨HSB.out dA HBy8.out, HSB.out dn HBy8.out, HSB.out dx HBy8.out⟩)
        clear hK K
        try simp only [Act.put, List.setIfInBounds_toArray, List.set_cons_zero, List.set_cons_succ]
        refine wpAnyH_ready (rs := [4]) (by kernel_rfl) (by simp) ?_
        refine AllReadyH.cons (o := { dst := some 31, op := Op.call { callee := Callee.value (Operand.func 12), args := #[Operand.tmp 28, Operand.tmp 30], argTypes := #[29, 38] }, type := 36, pos := "exact.go:3133", after := #[{ on := 1, ground := Ground.data }, { on := 3, ground := Ground.data }, { on := 3, ground := Ground.chain }], guard := none }) rfl (fun K hK => ?_) AllReadyH.nil
        go_simp
        refine (c12 a2 fs.length fs x y8 hl1 HS1.out HX1.out HFy8.out).mono ?_
        rintro e y9 ⟨⟨vw, c, gs, rfl, how, hsr⟩, hby9⟩
        obtain ⟨aw, cw, hvw, hfw⟩ := how.form
        subst hvw
        have HWy9 : Hid (OwnF y9 u.heap.size (.slice aw gs.length cw) gs) := owns_mono how HBy8.out.size
        have HSR : Hid (SetR fs x c gs) := hsr
        clear how hsr hfw
        have HBy9 : Hid (Below u.heap.size u y9) := HBy8.out.trans (hby9.mono HBy8.out.size)
        have HFy9 : Hid (FilesAt y9 a2 fs) := files_below HFy8.out hby9
        have HVy9 : Hid (BlkAt y9 Vb (.slice none 0 0) 29) := HVy8.out.later hby9
        have hvy9 : Vb < y8.heap.size := HVy8.out.lt
        go_wp2_with fail
        clear hHeld
        refine hK.out _ _ ?_ (fun hHeld => ?_)
        · ((try dsimp only); exact ⟨HSB.out dA HBy9.out, HSB.out dn HBy9.out, HSB.out dx HBy9.out⟩)
        clear hK K
        try simp only [Act.put, List.setIfInBounds_toArray, List.set_cons_zero, List.set_cons_succ]
        refine wpAnyH_take (i := 5) (oi := { dst := some 26, op := Op.move (Operand.tmp 31), type := 36, pos := "exact.go:3133", after := #[{ on := 4, ground := Ground.data }], guard := none }) (v := ?_) rfl (by kernel_rfl) (by kernel_rfl) (by kernel_rfl) (fun _ _ _ h => h) (Or.inl ⟨by rfl, ?_⟩) (by assumption) ?_
        rotate_left
        · intro wq hSw
          (try dsimp only at hSw)
          go_simp
          try with_reducible rfl
        try simp only [Act.put, List.setIfInBounds_toArray, List.set_cons_zero, List.set_cons_succ]
        refine wpAnyH_take (i := 6) (oi := { dst := some 32, op := Op.extract (Operand.tmp 26) 0, type := 29, pos := "exact.go:3133", after := #[{ on := 5, ground := Ground.data }], guard := none }) (v := ?_) rfl (by kernel_rfl) (by kernel_rfl) (by kernel_rfl) (fun _ _ _ h => h) (Or.inl ⟨by rfl, ?_⟩) (by assumption) ?_
        rotate_left
        · intro wq hSw
          (try dsimp only at hSw)
          go_simp
          try with_reducible rfl
        try simp only [Act.put, List.setIfInBounds_toArray, List.set_cons_zero, List.set_cons_succ]
        refine wpAnyH_take (i := 7) (oi := { dst := some 33, op := Op.extract (Operand.tmp 26) 1, type := 3, pos := "exact.go:3133", after := #[{ on := 5, ground := Ground.data }, { on := 9, ground := Ground.gcOnly Departure.lateStores }], guard := none }) (v := ?_) rfl (by kernel_rfl) (by kernel_rfl) (by kernel_rfl) (fun _ _ _ h => h) (Or.inl ⟨by rfl, ?_⟩) (by assumption) ?_
        rotate_left
        · intro wq hSw
          (try dsimp only at hSw)
          go_simp
          try with_reducible rfl
        try simp only [Act.put, List.setIfInBounds_toArray, List.set_cons_zero, List.set_cons_succ]
        have cV := HVy9.out.cell
        have fV : y9.frozen? ⟨Vb, 0, none⟩ = false := Lib.frozen_of_heap HVy9.out 0
        have hVu : u.heap.size ≤ Vb := by omega
        refine wpAnyH_ready (rs := [9]) (by kernel_rfl) (by simp) ?_
        refine AllReadyH.cons (o := { dst := none, op := Op.store 29 (Operand.tmp 6) (Operand.tmp 32), type := 0, pos := "exact.go:3133", after := #[{ on := 8, ground := Ground.data }, { on := 6, ground := Ground.data }, { on := 4, ground := Ground.chain }, { on := 0, ground := Ground.phase }, { on := 1, ground := Ground.phase }, { on := 2, ground := Ground.phase }, { on := 3, ground := Ground.phase }, { on := 4, ground := Ground.phase }, { on := 5, ground := Ground.phase }, { on := 6, ground := Ground.phase }, { on := 7, ground := Ground.textOnly Departure.lateStores }, { on := 8, ground := Ground.phase }], guard := none }) rfl (fun K hK => ?_) AllReadyH.nil
        go_simp
        clear hHeld
        refine hK.out _ _ ?_ (fun hHeld => ?_)
        · ((try dsimp only); exact ⟨(World.cell?_setCell_far _ _ _ _ (by show Vb ≠ w.heap.size; omega)).trans (HSB.out dA HBy9.out), (World.cell?_setCell_far _ _ _ _ (by show Vb ≠ w.heap.size + 1; omega)).trans (HSB.out dn HBy9.out), (World.cell?_setCell_far _ _ _ _ (by show Vb ≠ w.heap.size + 1; omega)).trans (HSB.out dx HBy9.out)⟩)
        clear hK K
        try simp only [Act.put, List.setIfInBounds_toArray, List.set_cons_zero, List.set_cons_succ]
        refine wpAnyH_take (i := 10) (oi := { dst := some 7, op := Op.assign (Operand.tmp 33), type := 3, pos := "exact.go:3133", after := #[{ on := 7, ground := Ground.data }, { on := 9, ground := Ground.chain }, { on := 0, ground := Ground.phase }, { on := 1, ground := Ground.phase }, { on := 2, ground := Ground.phase }, { on := 3, ground := Ground.phase }, { on := 4, ground := Ground.phase }, { on := 5, ground := Ground.phase }, { on := 6, ground := Ground.phase }, { on := 7, ground := Ground.phase }, { on := 8, ground := Ground.phase }, { on := 9, ground := Ground.phase }], guard := none }) (v := ?_) rfl (by kernel_rfl) (by kernel_rfl) (by kernel_rfl) (fun _ _ _ h => h) (Or.inl ⟨by rfl, ?_⟩) (by assumption) ?_
        rotate_left
        · intro wq hSw
          (try dsimp only at hSw)
          go_simp
          try with_reducible rfl
        try simp only [Act.put, List.setIfInBounds_toArray, List.set_cons_zero, List.set_cons_succ]
        refine wpAnyH_done (by kernel_rfl) ?_ _
        clear hHeld
        go_wp2_with fail
        go_meet
        refine ⟨Vb, aw, cw, c, gs, rfl, rfl, (hBu.trans (HBy9.out.mono hBu.size)).setCell (by simp; omega) _, ((HAu.out.later HBy9.out).set_far (by omega)), fbox_far (HXu.out.later HBy9.out) (by omega), HVy9.out.set_same, ?_, HSR.out⟩
        exact owns_but (b := Vb) (owns_mono HWy9.out hzu) ((But.refl _ _).setCell _ _) (own_ne HWy9.out HVy9.out)
    · go_simp
      have HBy10 : Hid (Below u.heap.size u (y0.alloc (.cells #[.slice none 0 0] 29))) := HBy0.out.alloc HBy0.out.size _
      have hAy10 : Below y0.heap.size y0 (y0.alloc (.cells #[.slice none 0 0] 29)) := (Below.refl _ _).alloc (Nat.le_refl _) _
      have HVy10 : Hid (BlkAt (y0.alloc (.cells #[.slice none 0 0] 29)) y0.heap.size (.slice none 0 0) 29) := BlkAt.new _ _ _
      have huy10 : u.heap.size ≤ y0.heap.size := HBy0.out.size
      clear hAy10
      clear hHeld
      refine hK.out _ _ ?_ (fun hHeld => ?_)
      · ((try dsimp only); exact ⟨HSB.out dA HBy10.out, HSB.out dn HBy10.out, HSB.out dx HBy10.out⟩)
      clear hK K
      try simp only [Act.put, List.setIfInBounds_toArray, List.set_cons_zero, List.set_cons_succ]
      generalize (y0.alloc (.cells #[.slice none 0 0] 29)) = y10 at *
      generalize y0.heap.size = Vb at *
      refine wpAnyH_ready (rs := [1]) (by kernel_rfl) (by simp) ?_
      refine AllReadyH.cons (o := { dst := some 28, op := Op.call { callee := Callee.value (Operand.func 8), args := #[Operand.tmp 27], argTypes := #[24] }, type := 29, pos := "exact.go:3133", after := #[{ on := 0, ground := Ground.data }], guard := none }) rfl (fun K hK => ?_) AllReadyH.nil
      go_simp
      refine (c8 a cap fs y10 hl1 (files_below HATu.out HBy10.out)).mono ?_
      rintro e y11 ⟨⟨a2, rfl, h2⟩, hby11⟩
      have HFy11 : Hid (FilesAt y11 a2 fs) := h2
      clear h2
      have HBy11 : Hid (Below u.heap.size u y11) := HBy10.out.trans (hby11.mono HBy10.out.size)
      have HVy11 : Hid (BlkAt y11 Vb (.slice none 0 0) 29) := HVy10.out.later hby11
      have hvy11 : Vb < y10.heap.size := HVy10.out.lt
      go_wp2_with fail
      clear hHeld
      refine hK.out _ _ ?_ (fun hHeld => ?_)
      · ((try dsimp only); exact ⟨HSB.out dA HBy11.out, HSB.out dn HBy11.out, HSB.out dx HBy11.out⟩)
      clear hK K
      try simp only [Act.put, List.setIfInBounds_toArray, List.set_cons_zero, List.set_cons_succ]
      refine wpAnyH_ready (rs := [3]) (by kernel_rfl) (by simp) ?_
      refine AllReadyH.cons (o := { dst := some 30, op := Op.call { callee := Callee.value (Operand.func 13), args := #[Operand.tmp 29], argTypes := #[34] }, type := 38, pos := "exact.go:3133", after := #[{ on := 2, ground := Ground.data }, { on := 1, ground := Ground.chain }], guard := none }) rfl (fun K hK => ?_) AllReadyH.nil
      go_simp
      refine (c13b x y11).mono ?_
      rintro e y12 ⟨rfl, hby12⟩
      have HBy12 : Hid (Below u.heap.size u y12) := HBy11.out.trans (hby12.mono HBy11.out.size)
      have HFy12 : Hid (FilesAt y12 a2 fs) := files_below HFy11.out hby12
      have HVy12 : Hid (BlkAt y12 Vb (.slice none 0 0) 29) := HVy11.out.later hby12
      have hvy12 : Vb < y11.heap.size := HVy11.out.lt
      go_wp2_with fail
      clear hHeld
      refine hK.out _ _ ?_ (fun hHeld => ?_)
      · ((try dsimp only); exact ⟨HSB.out dA HBy12.out, HSB.out dn HBy12.out, HSB.out dx HBy12.out⟩)
      clear hK K
      try simp only [Act.put, List.setIfInBounds_toArray, List.set_cons_zero, List.set_cons_succ]
      refine wpAnyH_ready (rs := [4]) (by kernel_rfl) (by simp) ?_
      refine AllReadyH.cons (o := { dst := some 31, op := Op.call { callee := Callee.value (Operand.func 12), args := #[Operand.tmp 28, Operand.tmp 30], argTypes := #[29, 38] }, type := 36, pos := "exact.go:3133", after := #[{ on := 1, ground := Ground.data }, { on := 3, ground := Ground.data }, { on := 3, ground := Ground.chain }], guard := none }) rfl (fun K hK => ?_) AllReadyH.nil
      go_simp
      refine (c12 a2 fs.length fs x y12 hl1 HS1.out HX1.out HFy12.out).mono ?_
      rintro e y13 ⟨⟨vw, c, gs, rfl, how, hsr⟩, hby13⟩
      obtain ⟨aw, cw, hvw, hfw⟩ := how.form
      subst hvw
      have HWy13 : Hid (OwnF y13 u.heap.size (.slice aw gs.length cw) gs) := owns_mono how HBy12.out.size
      have HSR : Hid (SetR fs x c gs) := hsr
      clear how hsr hfw
      have HBy13 : Hid (Below u.heap.size u y13) := HBy12.out.trans (hby13.mono HBy12.out.size)
      have HFy13 : Hid (FilesAt y13 a2 fs) := files_below HFy12.out hby13
      have HVy13 : Hid (BlkAt y13 Vb (.slice none 0 0) 29) := HVy12.out.later hby13
      have hvy13 : Vb < y12.heap.size := HVy12.out.lt
      go_wp2_with fail
      clear hHeld
      refine hK.out _ _ ?_ (fun hHeld => ?_)
      · ((try dsimp only); exact ⟨HSB.out dA HBy13.out, HSB.out dn HBy13.out, HSB.out dx HBy13.out⟩)
      clear hK K
      try simp only [Act.put, List.setIfInBounds_toArray, List.set_cons_zero, List.set_cons_succ]
      refine wpAnyH_take (i := 5) (oi := { dst := some 26, op := Op.move (Operand.tmp 31), type := 36, pos := "exact.go:3133", after := #[{ on := 4, ground := Ground.data }], guard := none }) (v := ?_) rfl (by kernel_rfl) (by kernel_rfl) (by kernel_rfl) (fun _ _ _ h => h) (Or.inl ⟨by rfl, ?_⟩) (by assumption) ?_
      rotate_left
      · intro wq hSw
        (try dsimp only at hSw)
        go_simp
        try with_reducible rfl
      try simp only [Act.put, List.setIfInBounds_toArray, List.set_cons_zero, List.set_cons_succ]
      refine wpAnyH_take (i := 6) (oi := { dst := some 32, op := Op.extract (Operand.tmp 26) 0, type := 29, pos := "exact.go:3133", after := #[{ on := 5, ground := Ground.data }], guard := none }) (v := ?_) rfl (by kernel_rfl) (by kernel_rfl) (by kernel_rfl) (fun _ _ _ h => h) (Or.inl ⟨by rfl, ?_⟩) (by assumption) ?_
      rotate_left
      · intro wq hSw
        (try dsimp only at hSw)
        go_simp
        try with_reducible rfl
      try simp only [Act.put, List.setIfInBounds_toArray, List.set_cons_zero, List.set_cons_succ]
      refine wpAnyH_take (i := 7) (oi := { dst := some 33, op := Op.extract (Operand.tmp 26) 1, type := 3, pos := "exact.go:3133", after := #[{ on := 5, ground := Ground.data }, { on := 9, ground := Ground.gcOnly Departure.lateStores }], guard := none }) (v := ?_) rfl (by kernel_rfl) (by kernel_rfl) (by kernel_rfl) (fun _ _ _ h => h) (Or.inl ⟨by rfl, ?_⟩) (by assumption) ?_
      rotate_left
      · intro wq hSw
        (try dsimp only at hSw)
        go_simp
        try with_reducible rfl
      try simp only [Act.put, List.setIfInBounds_toArray, List.set_cons_zero, List.set_cons_succ]
      have cV := HVy13.out.cell
      have fV : y13.frozen? ⟨Vb, 0, none⟩ = false := Lib.frozen_of_heap HVy13.out 0
      have hVu : u.heap.size ≤ Vb := by omega
      refine wpAnyH_ready (rs := [9]) (by kernel_rfl) (by simp) ?_
      refine AllReadyH.cons (o := { dst := none, op := Op.store 29 (Operand.tmp 6) (Operand.tmp 32), type := 0, pos := "exact.go:3133", after := #[{ on := 8, ground := Ground.data }, { on := 6, ground := Ground.data }, { on := 4, ground := Ground.chain }, { on := 0, ground := Ground.phase }, { on := 1, ground := Ground.phase }, { on := 2, ground := Ground.phase }, { on := 3, ground := Ground.phase }, { on := 4, ground := Ground.phase }, { on := 5, ground := Ground.phase }, { on := 6, ground := Ground.phase }, { on := 7, ground := Ground.textOnly Departure.lateStores }, { on := 8, ground := Ground.phase }], guard := none }) rfl (fun K hK => ?_) AllReadyH.nil
      go_simp
      clear hHeld
      refine hK.out _ _ ?_ (fun hHeld => ?_)
      · ((try dsimp only); exact ⟨(World.cell?_setCell_far _ _ _ _ (by show Vb ≠ w.heap.size; omega)).trans (HSB.out dA HBy13.out), (World.cell?_setCell_far _ _ _ _ (by show Vb ≠ w.heap.size + 1; omega)).trans (HSB.out dn HBy13.out), (World.cell?_setCell_far _ _ _ _ (by show Vb ≠ w.heap.size + 1; omega)).trans (HSB.out dx HBy13.out)⟩)
      clear hK K
      try simp only [Act.put, List.setIfInBounds_toArray, List.set_cons_zero, List.set_cons_succ]
      refine wpAnyH_take (i := 10) (oi := { dst := some 7, op := Op.assign (Operand.tmp 33), type := 3, pos := "exact.go:3133", after := #[{ on := 7, ground := Ground.data }, { on := 9, ground := Ground.chain }, { on := 0, ground := Ground.phase }, { on := 1, ground := Ground.phase }, { on := 2, ground := Ground.phase }, { on := 3, ground := Ground.phase }, { on := 4, ground := Ground.phase }, { on := 5, ground := Ground.phase }, { on := 6, ground := Ground.phase }, { on := 7, ground := Ground.phase }, { on := 8, ground := Ground.phase }, { on := 9, ground := Ground.phase }], guard := none }) (v := ?_) rfl (by kernel_rfl) (by kernel_rfl) (by kernel_rfl) (fun _ _ _ h => h) (Or.inl ⟨by rfl, ?_⟩) (by assumption) ?_
      rotate_left
      · intro wq hSw
        (try dsimp only at hSw)
        go_simp
        try with_reducible rfl
      try simp only [Act.put, List.setIfInBounds_toArray, List.set_cons_zero, List.set_cons_succ]
      refine wpAnyH_done (by kernel_rfl) ?_ _
      clear hHeld
      go_wp2_with fail
      go_meet
      refine ⟨Vb, aw, cw, c, gs, rfl, rfl, (hBu.trans (HBy13.out.mono hBu.size)).setCell (by simp; omega) _, ((HAu.out.later HBy13.out).set_far (by omega)), fbox_far (HXu.out.later HBy13.out) (by omega), HVy13.out.set_same, ?_, HSR.out⟩
      exact owns_but (b := Vb) (owns_mono HWy13.out hzu) ((But.refl _ _).setCell _ _) (own_ne HWy13.out HVy13.out)
  case rest =>
  obtain ⟨Wb, aw, cw, c, gs, rfl, rfl, hBw, hAw, hXw, hWw, how, hsr⟩ := hcut
  have HSRW : Hid (SetR fs x c gs) := hsr
  have hgl : gs.length ≤ 40 := setR_len hsr
  obtain ⟨a00, c00, hvw0, hfw0⟩ := how.form
  have hea : aw = a00 := by injection hvw0
  have hfw : FilesAt wc aw gs := by rw [hea]; exact hfw0
  clear hfw0 hea
  have HWL : Hid (∀ b off, aw = some ⟨b, off, none⟩ → gs ≠ [] → b < wc.heap.size) := files_lt hfw
  have HFW : Hid (FilesAt wc aw gs) := hfw
  have HAW : Hid (BlkAt wc w.heap.size (.slice a fs.length cap) 24) := hAw
  have HXW : Hid (FBox wc (w.heap.size + 1) x) := hXw
  have HW : Hid (BlkAt wc Wb (.slice aw gs.length cw) 29) := hWw
  have hBW : Below w.heap.size w wc := hBw
  have hzw : Wb < wc.heap.size := hWw.lt
  have hwu : w.heap.size + 2 ≤ wc.heap.size := blk_lt hXw
  have hWb : w.heap.size + 2 ≤ Wb ∨ True := .inr trivial
  have dW := HAW.out.cell
  clear hfw how hsr hAw hXw hWw hBw hvw0 HAu HXu dA dn dx HATu HSB hBu hzu
  go_wp2_with fail
  refine (c8s a cap fs wc hl1 (files_below HAT.out hBW)).mono ?_
  rintro e u4 ⟨⟨B, hB, rfl, hfx, hox⟩, hb4⟩
  have hA4 : Below u4.heap.size u4 (u4.alloc (.cells #[.slice (some ⟨B, 0, none⟩) fs.length fs.length] 29)) := (Below.refl _ _).alloc (Nat.le_refl _) _
  have hb4' : Below wc.heap.size wc (u4.alloc (.cells #[.slice (some ⟨B, 0, none⟩) fs.length fs.length] 29)) := hb4.trans (hA4.mono hb4.size)
  have HFX : Hid (FilesAt (u4.alloc (.cells #[.slice (some ⟨B, 0, none⟩) fs.length fs.length] 29)) (some ⟨B, 0, none⟩) fs) := files_below hfx hA4
  have HOX : Hid (Open2 (u4.alloc (.cells #[.slice (some ⟨B, 0, none⟩) fs.length fs.length] 29)) B fs.length) := hox.below hA4
  have HFW4 : Hid (FilesAt (u4.alloc (.cells #[.slice (some ⟨B, 0, none⟩) fs.length fs.length] 29)) aw gs) := files_below HFW.out hb4'
  have HA4 : Hid (BlkAt (u4.alloc (.cells #[.slice (some ⟨B, 0, none⟩) fs.length fs.length] 29)) w.heap.size (.slice a fs.length cap) 24) := HAW.out.later hb4'
  have HXF4 : Hid (FBox (u4.alloc (.cells #[.slice (some ⟨B, 0, none⟩) fs.length fs.length] 29)) (w.heap.size + 1) x) := HXW.out.later hb4'
  have HW4 : Hid (BlkAt (u4.alloc (.cells #[.slice (some ⟨B, 0, none⟩) fs.length fs.length] 29)) Wb (.slice aw gs.length cw) 29) := HW.out.later hb4'
  have HX4 : Hid (BlkAt (u4.alloc (.cells #[.slice (some ⟨B, 0, none⟩) fs.length fs.length] 29)) u4.heap.size (.slice (some ⟨B, 0, none⟩) fs.length fs.length) 29) := BlkAt.new _ _ _
  have hB4 : Below w.heap.size w (u4.alloc (.cells #[.slice (some ⟨B, 0, none⟩) fs.length fs.length] 29)) := hBW.trans (hb4'.mono hBW.size)
  have hBx : B < u4.heap.size := hox.1
  have hz4 : u4.heap.size < (u4.alloc (.cells #[.slice (some ⟨B, 0, none⟩) fs.length fs.length] 29)).heap.size := by simp
  have dX := HX4.out.cell
  obtain ⟨dn, dx⟩ := HXF4.out.cells
  clear hfx hox hb4 hb4' hA4 HFW HAW HW hBW dW HXW
  go_upto_region 10 with fail
  generalize (u4.alloc (.cells #[.slice (some ⟨B, 0, none⟩) fs.length fs.length] 29)) = u at *
  generalize u4.heap.size = Xb at *
  have HSB : Hid (∀ {ad : Addr} {v : Value}, u.cell? ad = some v → ∀ {y : World}, Below u.heap.size u y → y.cell? ad = some v) := fun {ad v} h {y} hb => by
    rw [hb.cell (World.block_lt_of_cell? _ _ h)]; exact h
  have hBu2 : B < u.heap.size := by omega
  have hzu : w.heap.size + 2 ≤ u.heap.size := by omega
  go_cut [9, 10] (fun s9 s10 wd => AtNew u x fs s9 s10 wd)
  case first =>
    refine wp_region_held_drew (S := (fun u => u.cell? ⟨Xb, 0, none⟩ = some (.slice (some ⟨B, 0, none⟩) fs.length fs.length) ∧ u.cell? ⟨w.heap.size + 1, 0, none⟩ = some (.string x.nm) ∧ u.cell? ⟨w.heap.size + 1, 1, none⟩ = some (.string x.tx))) (by kernel_rfl) ?_ (fun hHeld => ?_)
    · ((try dsimp only); exact ⟨dX, dn, dx⟩)
    have HBy0 : Hid (Below u.heap.size u u.drew) := (Below.refl _ _).drew
    have HFy0 : Hid (FilesAt u.drew (some ⟨B, 0, none⟩) fs) := files_below HFX.out ((Below.refl _ _).drew)
    have HZy0 : Hid (B < u.drew.heap.size) := hBu2
    generalize u.drew = y0 at *
    refine wpAnyH_take (i := 0) (oi := { dst := some 37, op := Op.load 29 (Operand.tmp 8), type := 29, pos := "exact.go:3135", after := #[], guard := none }) (v := ?_) rfl (by kernel_rfl) (by kernel_rfl) (by kernel_rfl) (fun _ _ _ h => h) (Or.inl ⟨by rfl, ?_⟩) (by assumption) ?_
    rotate_left
    · intro wq hSw
      (try dsimp only at hSw)
      go_simp
      try with_reducible rfl
    try simp only [Act.put, List.setIfInBounds_toArray, List.set_cons_zero, List.set_cons_succ]
    refine wpAnyH_take (i := 1) (oi := { dst := some 38, op := Op.load 34 (Operand.tmp 3), type := 34, pos := "exact.go:3135", after := #[], guard := none }) (v := ?_) rfl (by kernel_rfl) (by kernel_rfl) (by kernel_rfl) (fun _ _ _ h => h) (Or.inl ⟨by rfl, ?_⟩) (by assumption) ?_
    rotate_left
    · intro wq hSw
      (try dsimp only at hSw)
      go_simp
      try with_reducible rfl
    try simp only [Act.put, List.setIfInBounds_toArray, List.set_cons_zero, List.set_cons_succ]
    refine wpAnyH_ready (rs := [2, 7]) (by kernel_rfl) (by simp) ?_
    refine AllReadyH.cons (o := { dst := some 39, op := Op.call { callee := Callee.value (Operand.func 13), args := #[Operand.tmp 38], argTypes := #[34] }, type := 38, pos := "exact.go:3135", after := #[{ on := 1, ground := Ground.data }], guard := none }) rfl (fun K hK => ?_) (AllReadyH.cons (o := { dst := some 9, op := Op.alloc 29, type := 0, pos := "exact.go:3135", after := #[], guard := none }) rfl (fun K hK => ?_) AllReadyH.nil)
    · go_simp
      refine (c13b x y0).mono ?_
      rintro e y1 ⟨rfl, hby1⟩
      have HBy1 : Hid (Below u.heap.size u y1) := HBy0.out.trans (hby1.mono HBy0.out.size)
      have HFy1 : Hid (FilesAt y1 (some ⟨B, 0, none⟩) fs) := files_below HFy0.out hby1
      have HZy1 : Hid (B < (y1).heap.size) := Nat.lt_of_lt_of_le HZy0.out hby1.size
      go_wp2_with fail
      clear hHeld
      refine hK.out _ _ ?_ (fun hHeld => ?_)
      · ((try dsimp only); exact ⟨HSB.out dX HBy1.out, HSB.out dn HBy1.out, HSB.out dx HBy1.out⟩)
      clear hK K
      try simp only [Act.put, List.setIfInBounds_toArray, List.set_cons_zero, List.set_cons_succ]
      refine wpAnyH_ready (rs := [3, 7]) (by kernel_rfl) (by simp) ?_
      refine AllReadyH.cons (o := { dst := some 40, op := Op.call { callee := Callee.value (Operand.func 14), args := #[Operand.tmp 37, Operand.tmp 39], argTypes := #[29, 38] }, type := 36, pos := "exact.go:3135", after := #[{ on := 0, ground := Ground.data }, { on := 2, ground := Ground.data }, { on := 2, ground := Ground.chain }], guard := none }) rfl (fun K hK => ?_) (AllReadyH.cons (o := { dst := some 9, op := Op.alloc 29, type := 0, pos := "exact.go:3135", after := #[], guard := none }) rfl (fun K hK => ?_) AllReadyH.nil)
      · go_simp
        refine (c14 B 0 fs.length fs x y1 hl1 HS1.out HX1.out HZy1.out (at_cells HFy1.out)).mono ?_
        rintro e y2 ⟨⟨ag, cg, c', gs', rfl, hng, hsr⟩, hby2⟩
        have HNy2 : Hid (NewF u.heap.size y2 ag gs') := newF_mono hng HBy1.out.size
        have HG1 : Hid (∀ g, ag = some ⟨g, 0, none⟩ → gs' ≠ [] → y1.heap.size ≤ g) := newF_ge hng
        have HG2 : Hid (∀ g, ag = some ⟨g, 0, none⟩ → gs' ≠ [] → g < y2.heap.size) := fun g hg h0 => files_lt hng.1 g 0 hg h0
        have HSR2 : Hid (SetR fs x c' gs') := hsr
        clear hng hsr
        have HBy2 : Hid (Below u.heap.size u y2) := HBy1.out.trans (hby2.mono HBy1.out.size)
        have HFy2 : Hid (FilesAt y2 (some ⟨B, 0, none⟩) fs) := files_below HFy1.out hby2
        have HZy2 : Hid (B < (y2).heap.size) := Nat.lt_of_lt_of_le HZy1.out hby2.size
        go_wp2_with fail
        clear hHeld
        refine hK.out _ _ ?_ (fun hHeld => ?_)
        · ((try dsimp only); exact ⟨HSB.out dX HBy2.out, HSB.out dn HBy2.out, HSB.out dx HBy2.out⟩)
        clear hK K
        try simp only [Act.put, List.setIfInBounds_toArray, List.set_cons_zero, List.set_cons_succ]
        refine wpAnyH_take (i := 4) (oi := { dst := some 36, op := Op.move (Operand.tmp 40), type := 36, pos := "exact.go:3135", after := #[{ on := 3, ground := Ground.data }], guard := none }) (v := ?_) rfl (by kernel_rfl) (by kernel_rfl) (by kernel_rfl) (fun _ _ _ h => h) (Or.inl ⟨by rfl, ?_⟩) (by assumption) ?_
        rotate_left
        · intro wq hSw
          (try dsimp only at hSw)
          go_simp
          try with_reducible rfl
        try simp only [Act.put, List.setIfInBounds_toArray, List.set_cons_zero, List.set_cons_succ]
        refine wpAnyH_take (i := 5) (oi := { dst := some 41, op := Op.extract (Operand.tmp 36) 0, type := 29, pos := "exact.go:3135", after := #[{ on := 4, ground := Ground.data }], guard := none }) (v := ?_) rfl (by kernel_rfl) (by kernel_rfl) (by kernel_rfl) (fun _ _ _ h => h) (Or.inl ⟨by rfl, ?_⟩) (by assumption) ?_
        rotate_left
        · intro wq hSw
          (try dsimp only at hSw)
          go_simp
          try with_reducible rfl
        try simp only [Act.put, List.setIfInBounds_toArray, List.set_cons_zero, List.set_cons_succ]
        refine wpAnyH_take (i := 6) (oi := { dst := some 42, op := Op.extract (Operand.tmp 36) 1, type := 3, pos := "exact.go:3135", after := #[{ on := 4, ground := Ground.data }, { on := 8, ground := Ground.gcOnly Departure.lateStores }], guard := none }) (v := ?_) rfl (by kernel_rfl) (by kernel_rfl) (by kernel_rfl) (fun _ _ _ h => h) (Or.inl ⟨by rfl, ?_⟩) (by assumption) ?_
        rotate_left
        · intro wq hSw
          (try dsimp only at hSw)
          go_simp
          try with_reducible rfl
        try simp only [Act.put, List.setIfInBounds_toArray, List.set_cons_zero, List.set_cons_succ]
        refine wpAnyH_ready (rs := [7]) (by kernel_rfl) (by simp) ?_
        refine AllReadyH.cons (o := { dst := some 9, op := Op.alloc 29, type := 0, pos := "exact.go:3135", after := #[], guard := none }) rfl (fun K hK => ?_) AllReadyH.nil
        go_simp
        have HBy3 : Hid (Below u.heap.size u (y2.alloc (.cells #[.slice none 0 0] 29))) := HBy2.out.alloc HBy2.out.size _
        have hAy3 : Below y2.heap.size y2 (y2.alloc (.cells #[.slice none 0 0] 29)) := (Below.refl _ _).alloc (Nat.le_refl _) _
        have HVy3 : Hid (BlkAt (y2.alloc (.cells #[.slice none 0 0] 29)) y2.heap.size (.slice none 0 0) 29) := BlkAt.new _ _ _
        have huy3 : u.heap.size ≤ y2.heap.size := HBy2.out.size
        have HFy3 : Hid (FilesAt (y2.alloc (.cells #[.slice none 0 0] 29)) (some ⟨B, 0, none⟩) fs) := files_below HFy2.out hAy3
        have HZy3 : Hid (B < ((y2.alloc (.cells #[.slice none 0 0] 29))).heap.size) := Nat.lt_of_lt_of_le HZy2.out hAy3.size
        have HNy3 : Hid (NewF u.heap.size (y2.alloc (.cells #[.slice none 0 0] 29)) ag gs') := HNy2.out.later hAy3
        clear hAy3
        clear hHeld
        refine hK.out _ _ ?_ (fun hHeld => ?_)
        · ((try dsimp only); exact ⟨HSB.out dX HBy3.out, HSB.out dn HBy3.out, HSB.out dx HBy3.out⟩)
        clear hK K
        try simp only [Act.put, List.setIfInBounds_toArray, List.set_cons_zero, List.set_cons_succ]
        generalize (y2.alloc (.cells #[.slice none 0 0] 29)) = y3 at *
        generalize y2.heap.size = Vb at *
        have cV := HVy3.out.cell
        have fV : y3.frozen? ⟨Vb, 0, none⟩ = false := Lib.frozen_of_heap HVy3.out 0
        have hVu : u.heap.size ≤ Vb := by omega
        have HNE : Hid (∀ g, ag = some ⟨g, 0, none⟩ → gs' ≠ [] → g ≠ Vb) := fun g hg h0 => by have h1 := HG1.out g hg h0; have h2 := HG2.out g hg h0; omega
        refine wpAnyH_ready (rs := [8]) (by kernel_rfl) (by simp) ?_
        refine AllReadyH.cons (o := { dst := none, op := Op.store 29 (Operand.tmp 9) (Operand.tmp 41), type := 0, pos := "exact.go:3135", after := #[{ on := 7, ground := Ground.data }, { on := 5, ground := Ground.data }, { on := 3, ground := Ground.chain }, { on := 0, ground := Ground.phase }, { on := 1, ground := Ground.phase }, { on := 2, ground := Ground.phase }, { on := 3, ground := Ground.phase }, { on := 4, ground := Ground.phase }, { on := 5, ground := Ground.phase }, { on := 6, ground := Ground.textOnly Departure.lateStores }, { on := 7, ground := Ground.phase }], guard := none }) rfl (fun K hK => ?_) AllReadyH.nil
        go_simp
        clear hHeld
        refine hK.out _ _ ?_ (fun hHeld => ?_)
        · ((try dsimp only); exact ⟨(World.cell?_setCell_far _ _ _ _ (by show Vb ≠ Xb; omega)).trans (HSB.out dX HBy3.out), (World.cell?_setCell_far _ _ _ _ (by show Vb ≠ w.heap.size + 1; omega)).trans (HSB.out dn HBy3.out), (World.cell?_setCell_far _ _ _ _ (by show Vb ≠ w.heap.size + 1; omega)).trans (HSB.out dx HBy3.out)⟩)
        clear hK K
        try simp only [Act.put, List.setIfInBounds_toArray, List.set_cons_zero, List.set_cons_succ]
        refine wpAnyH_take (i := 9) (oi := { dst := some 10, op := Op.assign (Operand.tmp 42), type := 3, pos := "exact.go:3135", after := #[{ on := 6, ground := Ground.data }, { on := 8, ground := Ground.chain }, { on := 0, ground := Ground.phase }, { on := 1, ground := Ground.phase }, { on := 2, ground := Ground.phase }, { on := 3, ground := Ground.phase }, { on := 4, ground := Ground.phase }, { on := 5, ground := Ground.phase }, { on := 6, ground := Ground.phase }, { on := 7, ground := Ground.phase }, { on := 8, ground := Ground.phase }], guard := none }) (v := ?_) rfl (by kernel_rfl) (by kernel_rfl) (by kernel_rfl) (fun _ _ _ h => h) (Or.inl ⟨by rfl, ?_⟩) (by assumption) ?_
        rotate_left
        · intro wq hSw
          (try dsimp only at hSw)
          go_simp
          try with_reducible rfl
        try simp only [Act.put, List.setIfInBounds_toArray, List.set_cons_zero, List.set_cons_succ]
        refine wpAnyH_done (by kernel_rfl) ?_ _
        clear hHeld
        go_wp2_with fail
        go_meet
        exact ⟨Vb, ag, cg, c', gs', rfl, rfl, HBy3.out.setCell (by simp; omega) _, HVy3.out.set_same, newF_far HNy3.out (fun g hg h0 _ => HNE.out g hg h0), HNE.out, hVu, HSR2.out⟩
      · go_simp
        have HBy4 : Hid (Below u.heap.size u (y1.alloc (.cells #[.slice none 0 0] 29))) := HBy1.out.alloc HBy1.out.size _
        have hAy4 : Below y1.heap.size y1 (y1.alloc (.cells #[.slice none 0 0] 29)) := (Below.refl _ _).alloc (Nat.le_refl _) _
        have HVy4 : Hid (BlkAt (y1.alloc (.cells #[.slice none 0 0] 29)) y1.heap.size (.slice none 0 0) 29) := BlkAt.new _ _ _
        have huy4 : u.heap.size ≤ y1.heap.size := HBy1.out.size
        have HFy4 : Hid (FilesAt (y1.alloc (.cells #[.slice none 0 0] 29)) (some ⟨B, 0, none⟩) fs) := files_below HFy1.out hAy4
        have HZy4 : Hid (B < ((y1.alloc (.cells #[.slice none 0 0] 29))).heap.size) := Nat.lt_of_lt_of_le HZy1.out hAy4.size
        clear hAy4
        clear hHeld
        refine hK.out _ _ ?_ (fun hHeld => ?_)
        · ((try dsimp only); exact ⟨HSB.out dX HBy4.out, HSB.out dn HBy4.out, HSB.out dx HBy4.out⟩)
        clear hK K
        try simp only [Act.put, List.setIfInBounds_toArray, List.set_cons_zero, List.set_cons_succ]
        generalize (y1.alloc (.cells #[.slice none 0 0] 29)) = y4 at *
        generalize y1.heap.size = Vb at *
        refine wpAnyH_ready (rs := [3]) (by kernel_rfl) (by simp) ?_
        refine AllReadyH.cons (o := { dst := some 40, op := Op.call { callee := Callee.value (Operand.func 14), args := #[Operand.tmp 37, Operand.tmp 39], argTypes := #[29, 38] }, type := 36, pos := "exact.go:3135", after := #[{ on := 0, ground := Ground.data }, { on := 2, ground := Ground.data }, { on := 2, ground := Ground.chain }], guard := none }) rfl (fun K hK => ?_) AllReadyH.nil
        go_simp
        refine (c14 B 0 fs.length fs x y4 hl1 HS1.out HX1.out HZy4.out (at_cells HFy4.out)).mono ?_
        rintro e y5 ⟨⟨ag, cg, c', gs', rfl, hng, hsr⟩, hby5⟩
        have HNy5 : Hid (NewF u.heap.size y5 ag gs') := newF_mono hng HBy4.out.size
        have HG1 : Hid (∀ g, ag = some ⟨g, 0, none⟩ → gs' ≠ [] → y4.heap.size ≤ g) := newF_ge hng
        have HG2 : Hid (∀ g, ag = some ⟨g, 0, none⟩ → gs' ≠ [] → g < y5.heap.size) := fun g hg h0 => files_lt hng.1 g 0 hg h0
        have HSR2 : Hid (SetR fs x c' gs') := hsr
        clear hng hsr
        have HBy5 : Hid (Below u.heap.size u y5) := HBy4.out.trans (hby5.mono HBy4.out.size)
        have HFy5 : Hid (FilesAt y5 (some ⟨B, 0, none⟩) fs) := files_below HFy4.out hby5
        have HZy5 : Hid (B < (y5).heap.size) := Nat.lt_of_lt_of_le HZy4.out hby5.size
        have HVy5 : Hid (BlkAt y5 Vb (.slice none 0 0) 29) := HVy4.out.later hby5
        have hvy5 : Vb < y4.heap.size := HVy4.out.lt
        go_wp2_with fail
        clear hHeld
        refine hK.out _ _ ?_ (fun hHeld => ?_)
        · ((try dsimp only); exact ⟨HSB.out dX HBy5.out, HSB.out dn HBy5.out, HSB.out dx HBy5.out⟩)
        clear hK K
        try simp only [Act.put, List.setIfInBounds_toArray, List.set_cons_zero, List.set_cons_succ]
        refine wpAnyH_take (i := 4) (oi := { dst := some 36, op := Op.move (Operand.tmp 40), type := 36, pos := "exact.go:3135", after := #[{ on := 3, ground := Ground.data }], guard := none }) (v := ?_) rfl (by kernel_rfl) (by kernel_rfl) (by kernel_rfl) (fun _ _ _ h => h) (Or.inl ⟨by rfl, ?_⟩) (by assumption) ?_
        rotate_left
        · intro wq hSw
          (try dsimp only at hSw)
          go_simp
          try with_reducible rfl
        try simp only [Act.put, List.setIfInBounds_toArray, List.set_cons_zero, List.set_cons_succ]
        refine wpAnyH_take (i := 5) (oi := { dst := some 41, op := Op.extract (Operand.tmp 36) 0, type := 29, pos := "exact.go:3135", after := #[{ on := 4, ground := Ground.data }], guard := none }) (v := ?_) rfl (by kernel_rfl) (by kernel_rfl) (by kernel_rfl) (fun _ _ _ h => h) (Or.inl ⟨by rfl, ?_⟩) (by assumption) ?_
        rotate_left
        · intro wq hSw
          (try dsimp only at hSw)
          go_simp
          try with_reducible rfl
        try simp only [Act.put, List.setIfInBounds_toArray, List.set_cons_zero, List.set_cons_succ]
        refine wpAnyH_take (i := 6) (oi := { dst := some 42, op := Op.extract (Operand.tmp 36) 1, type := 3, pos := "exact.go:3135", after := #[{ on := 4, ground := Ground.data }, { on := 8, ground := Ground.gcOnly Departure.lateStores }], guard := none }) (v := ?_) rfl (by kernel_rfl) (by kernel_rfl) (by kernel_rfl) (fun _ _ _ h => h) (Or.inl ⟨by rfl, ?_⟩) (by assumption) ?_
        rotate_left
        · intro wq hSw
          (try dsimp only at hSw)
          go_simp
          try with_reducible rfl
        try simp only [Act.put, List.setIfInBounds_toArray, List.set_cons_zero, List.set_cons_succ]
        have cV := HVy5.out.cell
        have fV : y5.frozen? ⟨Vb, 0, none⟩ = false := Lib.frozen_of_heap HVy5.out 0
        have hVu : u.heap.size ≤ Vb := by omega
        have HNE : Hid (∀ g, ag = some ⟨g, 0, none⟩ → gs' ≠ [] → g ≠ Vb) := fun g hg h0 => by have h1 := HG1.out g hg h0; have h2 := HG2.out g hg h0; omega
        refine wpAnyH_ready (rs := [8]) (by kernel_rfl) (by simp) ?_
        refine AllReadyH.cons (o := { dst := none, op := Op.store 29 (Operand.tmp 9) (Operand.tmp 41), type := 0, pos := "exact.go:3135", after := #[{ on := 7, ground := Ground.data }, { on := 5, ground := Ground.data }, { on := 3, ground := Ground.chain }, { on := 0, ground := Ground.phase }, { on := 1, ground := Ground.phase }, { on := 2, ground := Ground.phase }, { on := 3, ground := Ground.phase }, { on := 4, ground := Ground.phase }, { on := 5, ground := Ground.phase }, { on := 6, ground := Ground.textOnly Departure.lateStores }, { on := 7, ground := Ground.phase }], guard := none }) rfl (fun K hK => ?_) AllReadyH.nil
        go_simp
        clear hHeld
        refine hK.out _ _ ?_ (fun hHeld => ?_)
        · ((try dsimp only); exact ⟨(World.cell?_setCell_far _ _ _ _ (by show Vb ≠ Xb; omega)).trans (HSB.out dX HBy5.out), (World.cell?_setCell_far _ _ _ _ (by show Vb ≠ w.heap.size + 1; omega)).trans (HSB.out dn HBy5.out), (World.cell?_setCell_far _ _ _ _ (by show Vb ≠ w.heap.size + 1; omega)).trans (HSB.out dx HBy5.out)⟩)
        clear hK K
        try simp only [Act.put, List.setIfInBounds_toArray, List.set_cons_zero, List.set_cons_succ]
        refine wpAnyH_take (i := 9) (oi := { dst := some 10, op := Op.assign (Operand.tmp 42), type := 3, pos := "exact.go:3135", after := #[{ on := 6, ground := Ground.data }, { on := 8, ground := Ground.chain }, { on := 0, ground := Ground.phase }, { on := 1, ground := Ground.phase }, { on := 2, ground := Ground.phase }, { on := 3, ground := Ground.phase }, { on := 4, ground := Ground.phase }, { on := 5, ground := Ground.phase }, { on := 6, ground := Ground.phase }, { on := 7, ground := Ground.phase }, { on := 8, ground := Ground.phase }], guard := none }) (v := ?_) rfl (by kernel_rfl) (by kernel_rfl) (by kernel_rfl) (fun _ _ _ h => h) (Or.inl ⟨by rfl, ?_⟩) (by assumption) ?_
        rotate_left
        · intro wq hSw
          (try dsimp only at hSw)
          go_simp
          try with_reducible rfl
        try simp only [Act.put, List.setIfInBounds_toArray, List.set_cons_zero, List.set_cons_succ]
        refine wpAnyH_done (by kernel_rfl) ?_ _
        clear hHeld
        go_wp2_with fail
        go_meet
        exact ⟨Vb, ag, cg, c', gs', rfl, rfl, HBy5.out.setCell (by simp; omega) _, HVy5.out.set_same, newF_far HNy5.out (fun g hg h0 _ => HNE.out g hg h0), HNE.out, hVu, HSR2.out⟩
    · go_simp
      have HBy6 : Hid (Below u.heap.size u (y0.alloc (.cells #[.slice none 0 0] 29))) := HBy0.out.alloc HBy0.out.size _
      have hAy6 : Below y0.heap.size y0 (y0.alloc (.cells #[.slice none 0 0] 29)) := (Below.refl _ _).alloc (Nat.le_refl _) _
      have HVy6 : Hid (BlkAt (y0.alloc (.cells #[.slice none 0 0] 29)) y0.heap.size (.slice none 0 0) 29) := BlkAt.new _ _ _
      have huy6 : u.heap.size ≤ y0.heap.size := HBy0.out.size
      have HFy6 : Hid (FilesAt (y0.alloc (.cells #[.slice none 0 0] 29)) (some ⟨B, 0, none⟩) fs) := files_below HFy0.out hAy6
      have HZy6 : Hid (B < ((y0.alloc (.cells #[.slice none 0 0] 29))).heap.size) := Nat.lt_of_lt_of_le HZy0.out hAy6.size
      clear hAy6
      clear hHeld
      refine hK.out _ _ ?_ (fun hHeld => ?_)
      · ((try dsimp only); exact ⟨HSB.out dX HBy6.out, HSB.out dn HBy6.out, HSB.out dx HBy6.out⟩)
      clear hK K
      try simp only [Act.put, List.setIfInBounds_toArray, List.set_cons_zero, List.set_cons_succ]
      generalize (y0.alloc (.cells #[.slice none 0 0] 29)) = y6 at *
      generalize y0.heap.size = Vb at *
      refine wpAnyH_ready (rs := [2]) (by kernel_rfl) (by simp) ?_
      refine AllReadyH.cons (o := { dst := some 39, op := Op.call { callee := Callee.value (Operand.func 13), args := #[Operand.tmp 38], argTypes := #[34] }, type := 38, pos := "exact.go:3135", after := #[{ on := 1, ground := Ground.data }], guard := none }) rfl (fun K hK => ?_) AllReadyH.nil
      go_simp
      refine (c13b x y6).mono ?_
      rintro e y7 ⟨rfl, hby7⟩
      have HBy7 : Hid (Below u.heap.size u y7) := HBy6.out.trans (hby7.mono HBy6.out.size)
      have HFy7 : Hid (FilesAt y7 (some ⟨B, 0, none⟩) fs) := files_below HFy6.out hby7
      have HZy7 : Hid (B < (y7).heap.size) := Nat.lt_of_lt_of_le HZy6.out hby7.size
      have HVy7 : Hid (BlkAt y7 Vb (.slice none 0 0) 29) := HVy6.out.later hby7
      have hvy7 : Vb < y6.heap.size := HVy6.out.lt
      go_wp2_with fail
      clear hHeld
      refine hK.out _ _ ?_ (fun hHeld => ?_)
      · ((try dsimp only); exact ⟨HSB.out dX HBy7.out, HSB.out dn HBy7.out, HSB.out dx HBy7.out⟩)
      clear hK K
      try simp only [Act.put, List.setIfInBounds_toArray, List.set_cons_zero, List.set_cons_succ]
      refine wpAnyH_ready (rs := [3]) (by kernel_rfl) (by simp) ?_
      refine AllReadyH.cons (o := { dst := some 40, op := Op.call { callee := Callee.value (Operand.func 14), args := #[Operand.tmp 37, Operand.tmp 39], argTypes := #[29, 38] }, type := 36, pos := "exact.go:3135", after := #[{ on := 0, ground := Ground.data }, { on := 2, ground := Ground.data }, { on := 2, ground := Ground.chain }], guard := none }) rfl (fun K hK => ?_) AllReadyH.nil
      go_simp
      refine (c14 B 0 fs.length fs x y7 hl1 HS1.out HX1.out HZy7.out (at_cells HFy7.out)).mono ?_
      rintro e y8 ⟨⟨ag, cg, c', gs', rfl, hng, hsr⟩, hby8⟩
      have HNy8 : Hid (NewF u.heap.size y8 ag gs') := newF_mono hng HBy7.out.size
      have HG1 : Hid (∀ g, ag = some ⟨g, 0, none⟩ → gs' ≠ [] → y7.heap.size ≤ g) := newF_ge hng
      have HG2 : Hid (∀ g, ag = some ⟨g, 0, none⟩ → gs' ≠ [] → g < y8.heap.size) := fun g hg h0 => files_lt hng.1 g 0 hg h0
      have HSR2 : Hid (SetR fs x c' gs') := hsr
      clear hng hsr
      have HBy8 : Hid (Below u.heap.size u y8) := HBy7.out.trans (hby8.mono HBy7.out.size)
      have HFy8 : Hid (FilesAt y8 (some ⟨B, 0, none⟩) fs) := files_below HFy7.out hby8
      have HZy8 : Hid (B < (y8).heap.size) := Nat.lt_of_lt_of_le HZy7.out hby8.size
      have HVy8 : Hid (BlkAt y8 Vb (.slice none 0 0) 29) := HVy7.out.later hby8
      have hvy8 : Vb < y7.heap.size := HVy7.out.lt
      go_wp2_with fail
      clear hHeld
      refine hK.out _ _ ?_ (fun hHeld => ?_)
      · ((try dsimp only); exact ⟨HSB.out dX HBy8.out, HSB.out dn HBy8.out, HSB.out dx HBy8.out⟩)
      clear hK K
      try simp only [Act.put, List.setIfInBounds_toArray, List.set_cons_zero, List.set_cons_succ]
      refine wpAnyH_take (i := 4) (oi := { dst := some 36, op := Op.move (Operand.tmp 40), type := 36, pos := "exact.go:3135", after := #[{ on := 3, ground := Ground.data }], guard := none }) (v := ?_) rfl (by kernel_rfl) (by kernel_rfl) (by kernel_rfl) (fun _ _ _ h => h) (Or.inl ⟨by rfl, ?_⟩) (by assumption) ?_
      rotate_left
      · intro wq hSw
        (try dsimp only at hSw)
        go_simp
        try with_reducible rfl
      try simp only [Act.put, List.setIfInBounds_toArray, List.set_cons_zero, List.set_cons_succ]
      refine wpAnyH_take (i := 5) (oi := { dst := some 41, op := Op.extract (Operand.tmp 36) 0, type := 29, pos := "exact.go:3135", after := #[{ on := 4, ground := Ground.data }], guard := none }) (v := ?_) rfl (by kernel_rfl) (by kernel_rfl) (by kernel_rfl) (fun _ _ _ h => h) (Or.inl ⟨by rfl, ?_⟩) (by assumption) ?_
      rotate_left
      · intro wq hSw
        (try dsimp only at hSw)
        go_simp
        try with_reducible rfl
      try simp only [Act.put, List.setIfInBounds_toArray, List.set_cons_zero, List.set_cons_succ]
      refine wpAnyH_take (i := 6) (oi := { dst := some 42, op := Op.extract (Operand.tmp 36) 1, type := 3, pos := "exact.go:3135", after := #[{ on := 4, ground := Ground.data }, { on := 8, ground := Ground.gcOnly Departure.lateStores }], guard := none }) (v := ?_) rfl (by kernel_rfl) (by kernel_rfl) (by kernel_rfl) (fun _ _ _ h => h) (Or.inl ⟨by rfl, ?_⟩) (by assumption) ?_
      rotate_left
      · intro wq hSw
        (try dsimp only at hSw)
        go_simp
        try with_reducible rfl
      try simp only [Act.put, List.setIfInBounds_toArray, List.set_cons_zero, List.set_cons_succ]
      have cV := HVy8.out.cell
      have fV : y8.frozen? ⟨Vb, 0, none⟩ = false := Lib.frozen_of_heap HVy8.out 0
      have hVu : u.heap.size ≤ Vb := by omega
      have HNE : Hid (∀ g, ag = some ⟨g, 0, none⟩ → gs' ≠ [] → g ≠ Vb) := fun g hg h0 => by have h1 := HG1.out g hg h0; have h2 := HG2.out g hg h0; omega
      refine wpAnyH_ready (rs := [8]) (by kernel_rfl) (by simp) ?_
      refine AllReadyH.cons (o := { dst := none, op := Op.store 29 (Operand.tmp 9) (Operand.tmp 41), type := 0, pos := "exact.go:3135", after := #[{ on := 7, ground := Ground.data }, { on := 5, ground := Ground.data }, { on := 3, ground := Ground.chain }, { on := 0, ground := Ground.phase }, { on := 1, ground := Ground.phase }, { on := 2, ground := Ground.phase }, { on := 3, ground := Ground.phase }, { on := 4, ground := Ground.phase }, { on := 5, ground := Ground.phase }, { on := 6, ground := Ground.textOnly Departure.lateStores }, { on := 7, ground := Ground.phase }], guard := none }) rfl (fun K hK => ?_) AllReadyH.nil
      go_simp
      clear hHeld
      refine hK.out _ _ ?_ (fun hHeld => ?_)
      · ((try dsimp only); exact ⟨(World.cell?_setCell_far _ _ _ _ (by show Vb ≠ Xb; omega)).trans (HSB.out dX HBy8.out), (World.cell?_setCell_far _ _ _ _ (by show Vb ≠ w.heap.size + 1; omega)).trans (HSB.out dn HBy8.out), (World.cell?_setCell_far _ _ _ _ (by show Vb ≠ w.heap.size + 1; omega)).trans (HSB.out dx HBy8.out)⟩)
      clear hK K
      try simp only [Act.put, List.setIfInBounds_toArray, List.set_cons_zero, List.set_cons_succ]
      refine wpAnyH_take (i := 9) (oi := { dst := some 10, op := Op.assign (Operand.tmp 42), type := 3, pos := "exact.go:3135", after := #[{ on := 6, ground := Ground.data }, { on := 8, ground := Ground.chain }, { on := 0, ground := Ground.phase }, { on := 1, ground := Ground.phase }, { on := 2, ground := Ground.phase }, { on := 3, ground := Ground.phase }, { on := 4, ground := Ground.phase }, { on := 5, ground := Ground.phase }, { on := 6, ground := Ground.phase }, { on := 7, ground := Ground.phase }, { on := 8, ground := Ground.phase }], guard := none }) (v := ?_) rfl (by kernel_rfl) (by kernel_rfl) (by kernel_rfl) (fun _ _ _ h => h) (Or.inl ⟨by rfl, ?_⟩) (by assumption) ?_
      rotate_left
      · intro wq hSw
        (try dsimp only at hSw)
        go_simp
        try with_reducible rfl
      try simp only [Act.put, List.setIfInBounds_toArray, List.set_cons_zero, List.set_cons_succ]
      refine wpAnyH_done (by kernel_rfl) ?_ _
      clear hHeld
      go_wp2_with fail
      go_meet
      exact ⟨Vb, ag, cg, c', gs', rfl, rfl, HBy8.out.setCell (by simp; omega) _, HVy8.out.set_same, newF_far HNy8.out (fun g hg h0 _ => HNE.out g hg h0), HNE.out, hVu, HSR2.out⟩
  case rest =>
  obtain ⟨Gb, ag, cg, c', gs', rfl, rfl, hb5, hGb, hng, hne, hGu, hsr⟩ := hcut
  obtain ⟨h1, h2⟩ := setR_one HSRW.out hsr
  subst h1
  subst h2
  obtain ⟨g, hgB, hgz, hga, hgo⟩ := atNew_block hng hne hGu
  obtain ⟨U5, hU5⟩ : ∃ U5, U5 = wc := ⟨_, rfl⟩
  subst hU5
  have HFG : Hid (FilesAt U5 ag gs') := hng.1
  have HGO : Hid (gs'.length = 0 ∨ Open2 U5 g gs'.length) := hgo
  have HFX5 : Hid (FilesAt U5 (some ⟨B, 0, none⟩) fs) := files_below HFX.out hb5
  have HOX5 : Hid (Open2 U5 B fs.length) := HOX.out.below hb5
  have HFW5 : Hid (FilesAt U5 aw gs') := files_below HFW4.out hb5
  have HXF5 : Hid (FBox U5 (w.heap.size + 1) x) := HXF4.out.later hb5
  have HL5 : Hid (LawAt w U5 (.slice a fs.length cap) (.slice aw gs'.length cw) (.slice (some ⟨B, 0, none⟩) fs.length fs.length) (.slice ag gs'.length cg) Wb Xb Gb) := ⟨hB4.trans (hb5.mono hB4.size), HA4.out.later hb5, HW4.out.later hb5, HX4.out.later hb5, hGb⟩
  have HGA : Hid (gs'.length = 0 ∨ ag = some ⟨g, 0, none⟩) := hga
  obtain ⟨k1, k2, k3, k4⟩ := HL5.out.cells
  clear hng hsr hb5 HFX HOX HFW4 HA4 HW4 HX4 HXF4 hB4 dX dn dx hgo hga hne hGb HSB
  go_wp2_with fail
  refine (c10 ag aw cg cw gs' U5 (by omega) HFG.out HFW5.out).mono ?_
  rintro e u6 ⟨rfl, hb6⟩
  have HL6 : Hid (LawAt w u6 (.slice a fs.length cap) (.slice aw gs'.length cw) (.slice (some ⟨B, 0, none⟩) fs.length fs.length) (.slice ag gs'.length cg) Wb Xb Gb) := HL5.out.later hb6
  have HXF6 : Hid (FBox u6 (w.heap.size + 1) x) := HXF5.out.later hb6
  have HFG6 : Hid (FilesAt u6 ag gs') := files_below HFG.out hb6
  have HFW6 : Hid (FilesAt u6 aw gs') := files_below HFW5.out hb6
  have HFX6 : Hid (FilesAt u6 (some ⟨B, 0, none⟩) fs) := files_below HFX5.out hb6
  have HOX6 : Hid (Open2 u6 B fs.length) := HOX5.out.below hb6
  have HGO6 : Hid (gs'.length = 0 ∨ Open2 u6 g gs'.length) := HGO.out.imp id (fun h => h.below hb6)
  have HFA6 : Hid (FilesAt u6 a fs) := files_below HAT.out HL6.out.bel
  clear hb6 HL5 HFG HFW5 HFX5 HOX5 HGO HXF5 k1 k2 k3 k4
  obtain ⟨k1, k2, k3, k4⟩ := HL6.out.cells
  have hXz : Xb < u6.heap.size := HL6.out.hX.lt
  go_upto_region 13 with fail
  go_cut [56] (fun s56 wd => s56 = .bool false ∧ Hid (Below u6.heap.size u6 wd))
  case first =>
    go_region_with (first | (go_at_call 8; refine (c8 a cap fs _ hl1 ?_).mono ?_; exact files_below HFA6.out ((Below.refl _ _).drew); rintro e wa ⟨⟨aa, rfl, ha⟩, hba⟩; have xa : wa.cell? ⟨Xb, 0, none⟩ = some (.slice (some ⟨B, 0, none⟩) fs.length fs.length) := (hba.cell (p := ⟨Xb, 0, none⟩) hXz).trans k3) | (go_at_call 10; refine (c10 (some ⟨B, 0, none⟩) aa fs.length fs.length fs _ hl1 ?_ ?_).mono ?_; exact files_below (files_below HFX6.out ((Below.refl _ _).drew)) hba; exact ha; rintro e u8 ⟨rfl, hbb⟩))
    all_goals
      go_wp2_with fail
      go_meet
      exact ⟨rfl, (((Below.refl _ u6).drew).trans hba).trans (hbb.mono hba.size)⟩
  case rest =>
  obtain ⟨rfl, hb8'⟩ := hcut
  obtain ⟨u8, hu8⟩ : ∃ u8, u8 = wc := ⟨_, rfl⟩
  subst hu8
  have hb8 : Below u6.heap.size u6 u8 := hb8'.out
  clear hb8'
  have HL8 : Hid (LawAt w u8 (.slice a fs.length cap) (.slice aw gs'.length cw) (.slice (some ⟨B, 0, none⟩) fs.length fs.length) (.slice ag gs'.length cg) Wb Xb Gb) := HL6.out.later hb8
  have HFG8 : Hid (FilesAt u8 ag gs') := files_below HFG6.out hb8
  have HFW8 : Hid (FilesAt u8 aw gs') := files_below HFW6.out hb8
  have HOX8 : Hid (Open2 u8 B fs.length) := HOX6.out.below hb8
  have HGO8 : Hid (gs'.length = 0 ∨ Open2 u8 g gs'.length) := HGO6.out.imp id (fun h => h.below hb8)
  have HXF8 : Hid (FBox u8 (w.heap.size + 1) x) := HXF6.out.later hb8
  clear hb8 HXF6 HL6 HFG6 HFW6 HFX6 HOX6 HGO6 HFA6 k1 k2 k3 k4
  obtain ⟨k1, k2, k3, k4⟩ := HL8.out.cells
  go_wp2_with fail
  refine (c15 (some ⟨B, 0, none⟩) B fs.length fs.length u8 (.inr rfl) hl1 (.inr HOX8.out)).mono ?_
  rintro e u9 ⟨rfl, hb9, _⟩
  have HL9 : Hid (LawAt w u9 (.slice a fs.length cap) (.slice aw gs'.length cw) (.slice (some ⟨B, 0, none⟩) fs.length fs.length) (.slice ag gs'.length cg) Wb Xb Gb) := HL8.out.but hb9 (by omega) (by omega) (by omega) (by omega)
  have HFG9 : Hid (FilesAt u9 ag gs') := files_but HFG8.out hb9 (fun b off hab h0 => by
    rcases HGA.out with h | h
    · exact absurd (List.length_eq_zero_iff.1 h) h0
    · rw [hab] at h; injection h with h; injection h with h _; omega)
  have HFW9 : Hid (FilesAt u9 aw gs') := files_but HFW8.out hb9 (fun b off hab h0 => by have := HWL.out b off hab h0; omega)
  have HGO9 : Hid (gs'.length = 0 ∨ Open2 u9 g gs'.length) := HGO8.out.imp id (fun h => h.but hb9 (by omega))
  have HXF9 : Hid (FBox u9 (w.heap.size + 1) x) := HXF8.out.but hb9 (by omega)
  clear hb9 HXF8 HL8 HFG8 HFW8 HOX8 HGO8 k1 k2 k3 k4
  obtain ⟨k1, k2, k3, k4⟩ := HL9.out.cells
  go_wp2_with fail
  refine (c10 ag aw cg cw gs' u9 (by omega) HFG9.out HFW9.out).mono ?_
  rintro e u10 ⟨rfl, hb10⟩
  have HL10 : Hid (LawAt w u10 (.slice a fs.length cap) (.slice aw gs'.length cw) (.slice (some ⟨B, 0, none⟩) fs.length fs.length) (.slice ag gs'.length cg) Wb Xb Gb) := HL9.out.later hb10
  have HFW10 : Hid (FilesAt u10 aw gs') := files_below HFW9.out hb10
  have HGO10 : Hid (gs'.length = 0 ∨ Open2 u10 g gs'.length) := HGO9.out.imp id (fun h => h.below hb10)
  have HXF10 : Hid (FBox u10 (w.heap.size + 1) x) := HXF9.out.later hb10
  clear hb10 HXF9 HL9 HFG9 HFW9 HGO9 k1 k2 k3 k4
  obtain ⟨k1, k2, k3, k4⟩ := HL10.out.cells
  go_wp2_with fail
  refine (c15 ag g gs'.length cg u10 HGA.out (by omega) HGO10.out).mono ?_
  rintro e u11 ⟨rfl, hb11, hmk⟩
  have HL11 : Hid (LawAt w u11 (.slice a fs.length cap) (.slice aw gs'.length cw) (.slice (some ⟨B, 0, none⟩) fs.length fs.length) (.slice ag gs'.length cg) Wb Xb Gb) := HL10.out.but hb11 (by omega) (by omega) (by omega) (by omega)
  have HFW11 : Hid (FilesAt u11 aw gs') := files_but HFW10.out hb11 (fun b off hab h0 => by have := HWL.out b off hab h0; omega)
  have HMK : Hid (MarksAt u11 g gs'.length) := hmk
  have HGL : Hid (gs'.length = 0 ∨ g < u11.heap.size) := HGO10.out.imp id (fun h => Nat.lt_of_lt_of_le h.1 hb11.size)
  have HXF11 : Hid (FBox u11 (w.heap.size + 1) x) := HXF10.out.but hb11 (by omega)
  clear hb11 HXF10 hmk HL10 HFW10 HGO10 k1 k2 k3 k4
  obtain ⟨k1, k2, k3, k4⟩ := HL11.out.cells
  go_wp2_with fail
  refine (c16 ag g gs'.length cg u11 HGA.out (by omega) HGL.out HMK.out).mono ?_
  rintro e u12 ⟨rfl, hb12⟩
  have HL12 : Hid (LawAt w u12 (.slice a fs.length cap) (.slice aw gs'.length cw) (.slice (some ⟨B, 0, none⟩) fs.length fs.length) (.slice ag gs'.length cg) Wb Xb Gb) := HL11.out.later hb12
  have HFW12 : Hid (FilesAt u12 aw gs') := files_below HFW11.out hb12
  have HMK12 : Hid (MarksAt u12 g gs'.length) := by
    rcases HGL.out with h | h
    · intro j hj; omega
    · exact marks_below HMK.out h hb12
  have HGL12 : Hid (gs'.length = 0 ∨ g < u12.heap.size) := HGL.out.imp id (fun h => Nat.lt_of_lt_of_le h hb12.size)
  have HXF12 : Hid (FBox u12 (w.heap.size + 1) x) := HXF11.out.later hb12
  clear hb12 HXF11 HL11 HFW11 HMK HGL k1 k2 k3 k4
  obtain ⟨k1, k2, k3, k4⟩ := HL12.out.cells
  obtain ⟨dn, dx⟩ := HXF12.out.cells
  go_upto_region 27 with fail
  obtain ⟨u, hu12⟩ : ∃ u, u = u12 := ⟨_, rfl⟩
  subst hu12
  have HSB : Hid (∀ {ad : Addr} {v : Value}, u.cell? ad = some v → ∀ {y : World}, Below u.heap.size u y → y.cell? ad = some v) := fun {ad v} h {y} hb => by
    rw [hb.cell (World.block_lt_of_cell? _ _ h)]; exact h
  have HATu : Hid (FilesAt u a fs) := files_below HAT.out HL12.out.bel
  have hzu2 : w.heap.size + 2 ≤ u.heap.size := blk_lt HXF12.out
  have dA := k1
  go_cut [14, 15] (fun s14 s15 wd => AtNew u x fs s14 s15 wd)
  case first =>
    clear k1 k2 k3 k4
    refine wp_region_held_drew (S := (fun u => u.cell? ⟨w.heap.size, 0, none⟩ = some (.slice a fs.length cap) ∧ u.cell? ⟨w.heap.size + 1, 0, none⟩ = some (.string x.nm) ∧ u.cell? ⟨w.heap.size + 1, 1, none⟩ = some (.string x.tx))) (by kernel_rfl) ?_ (fun hHeld => ?_)
    · ((try dsimp only); exact ⟨dA, dn, dx⟩)
    have HBy0 : Hid (Below u.heap.size u u.drew) := (Below.refl _ _).drew
    generalize u.drew = y0 at *
    refine wpAnyH_take (i := 0) (oi := { dst := some 85, op := Op.load 24 (Operand.tmp 2), type := 24, pos := "exact.go:3157", after := #[], guard := none }) (v := ?_) rfl (by kernel_rfl) (by kernel_rfl) (by kernel_rfl) (fun _ _ _ h => h) (Or.inl ⟨by rfl, ?_⟩) (by assumption) ?_
    rotate_left
    · intro wq hSw
      (try dsimp only at hSw)
      go_simp
      try with_reducible rfl
    try simp only [Act.put, List.setIfInBounds_toArray, List.set_cons_zero, List.set_cons_succ]
    refine wpAnyH_take (i := 2) (oi := { dst := some 87, op := Op.load 34 (Operand.tmp 3), type := 34, pos := "exact.go:3157", after := #[], guard := none }) (v := ?_) rfl (by kernel_rfl) (by kernel_rfl) (by kernel_rfl) (fun _ _ _ h => h) (Or.inl ⟨by rfl, ?_⟩) (by assumption) ?_
    rotate_left
    · intro wq hSw
      (try dsimp only at hSw)
      go_simp
      try with_reducible rfl
    try simp only [Act.put, List.setIfInBounds_toArray, List.set_cons_zero, List.set_cons_succ]
    refine wpAnyH_ready (rs := [1, 8]) (by kernel_rfl) (by simp) ?_
    refine AllReadyH.cons (o := { dst := some 86, op := Op.call { callee := Callee.value (Operand.func 8), args := #[Operand.tmp 85], argTypes := #[24] }, type := 29, pos := "exact.go:3157", after := #[{ on := 0, ground := Ground.data }], guard := none }) rfl (fun K hK => ?_) (AllReadyH.cons (o := { dst := some 14, op := Op.alloc 29, type := 0, pos := "exact.go:3157", after := #[], guard := none }) rfl (fun K hK => ?_) AllReadyH.nil)
    · go_simp
      refine (c8s a cap fs y0 hl1 (files_below HATu.out HBy0.out)).mono ?_
      rintro e y1 ⟨⟨B, hBq, rfl, h2, hox2⟩, hby1⟩
      have HFy1 : Hid (FilesAt y1 (some ⟨B, 0, none⟩) fs) := h2
      have HZy1 : Hid (B < y1.heap.size) := hox2.1
      clear h2 hox2 hBq
      have HBy1 : Hid (Below u.heap.size u y1) := HBy0.out.trans (hby1.mono HBy0.out.size)
      go_wp2_with fail
      clear hHeld
      refine hK.out _ _ ?_ (fun hHeld => ?_)
      · ((try dsimp only); exact ⟨HSB.out dA HBy1.out, HSB.out dn HBy1.out, HSB.out dx HBy1.out⟩)
      clear hK K
      try simp only [Act.put, List.setIfInBounds_toArray, List.set_cons_zero, List.set_cons_succ]
      refine wpAnyH_ready (rs := [3, 8]) (by kernel_rfl) (by simp) ?_
      refine AllReadyH.cons (o := { dst := some 88, op := Op.call { callee := Callee.value (Operand.func 13), args := #[Operand.tmp 87], argTypes := #[34] }, type := 38, pos := "exact.go:3157", after := #[{ on := 2, ground := Ground.data }, { on := 1, ground := Ground.chain }], guard := none }) rfl (fun K hK => ?_) (AllReadyH.cons (o := { dst := some 14, op := Op.alloc 29, type := 0, pos := "exact.go:3157", after := #[], guard := none }) rfl (fun K hK => ?_) AllReadyH.nil)
      · go_simp
        refine (c13b x y1).mono ?_
        rintro e y2 ⟨rfl, hby2⟩
        have HBy2 : Hid (Below u.heap.size u y2) := HBy1.out.trans (hby2.mono HBy1.out.size)
        have HFy2 : Hid (FilesAt y2 (some ⟨B, 0, none⟩) fs) := files_below HFy1.out hby2
        have HZy2 : Hid (B < (y2).heap.size) := Nat.lt_of_lt_of_le HZy1.out hby2.size
        go_wp2_with fail
        clear hHeld
        refine hK.out _ _ ?_ (fun hHeld => ?_)
        · ((try dsimp only); exact ⟨HSB.out dA HBy2.out, HSB.out dn HBy2.out, HSB.out dx HBy2.out⟩)
        clear hK K
        try simp only [Act.put, List.setIfInBounds_toArray, List.set_cons_zero, List.set_cons_succ]
        refine wpAnyH_ready (rs := [4, 8]) (by kernel_rfl) (by simp) ?_
        refine AllReadyH.cons (o := { dst := some 89, op := Op.call { callee := Callee.value (Operand.func 14), args := #[Operand.tmp 86, Operand.tmp 88], argTypes := #[29, 38] }, type := 36, pos := "exact.go:3157", after := #[{ on := 1, ground := Ground.data }, { on := 3, ground := Ground.data }, { on := 3, ground := Ground.chain }], guard := none }) rfl (fun K hK => ?_) (AllReadyH.cons (o := { dst := some 14, op := Op.alloc 29, type := 0, pos := "exact.go:3157", after := #[], guard := none }) rfl (fun K hK => ?_) AllReadyH.nil)
        · go_simp
          refine (c14 B 0 fs.length fs x y2 hl1 HS1.out HX1.out HZy2.out (at_cells HFy2.out)).mono ?_
          rintro e y3 ⟨⟨ag, cg, c', gs', rfl, hng, hsr⟩, hby3⟩
          have HNy3 : Hid (NewF u.heap.size y3 ag gs') := newF_mono hng HBy2.out.size
          have HG1 : Hid (∀ g, ag = some ⟨g, 0, none⟩ → gs' ≠ [] → y2.heap.size ≤ g) := newF_ge hng
          have HG2 : Hid (∀ g, ag = some ⟨g, 0, none⟩ → gs' ≠ [] → g < y3.heap.size) := fun g hg h0 => files_lt hng.1 g 0 hg h0
          have HSR2 : Hid (SetR fs x c' gs') := hsr
          clear hng hsr
          have HBy3 : Hid (Below u.heap.size u y3) := HBy2.out.trans (hby3.mono HBy2.out.size)
          have HFy3 : Hid (FilesAt y3 (some ⟨B, 0, none⟩) fs) := files_below HFy2.out hby3
          have HZy3 : Hid (B < (y3).heap.size) := Nat.lt_of_lt_of_le HZy2.out hby3.size
          go_wp2_with fail
          clear hHeld
          refine hK.out _ _ ?_ (fun hHeld => ?_)
          · ((try dsimp only); exact ⟨HSB.out dA HBy3.out, HSB.out dn HBy3.out, HSB.out dx HBy3.out⟩)
          clear hK K
          try simp only [Act.put, List.setIfInBounds_toArray, List.set_cons_zero, List.set_cons_succ]
          refine wpAnyH_take (i := 5) (oi := { dst := some 84, op := Op.move (Operand.tmp 89), type := 36, pos := "exact.go:3157", after := #[{ on := 4, ground := Ground.data }], guard := none }) (v := ?_) rfl (by kernel_rfl) (by kernel_rfl) (by kernel_rfl) (fun _ _ _ h => h) (Or.inl ⟨by rfl, ?_⟩) (by assumption) ?_
          rotate_left
          · intro wq hSw
            (try dsimp only at hSw)
            go_simp
            try with_reducible rfl
          try simp only [Act.put, List.setIfInBounds_toArray, List.set_cons_zero, List.set_cons_succ]
          refine wpAnyH_take (i := 6) (oi := { dst := some 90, op := Op.extract (Operand.tmp 84) 0, type := 29, pos := "exact.go:3157", after := #[{ on := 5, ground := Ground.data }], guard := none }) (v := ?_) rfl (by kernel_rfl) (by kernel_rfl) (by kernel_rfl) (fun _ _ _ h => h) (Or.inl ⟨by rfl, ?_⟩) (by assumption) ?_
          rotate_left
          · intro wq hSw
            (try dsimp only at hSw)
            go_simp
            try with_reducible rfl
          try simp only [Act.put, List.setIfInBounds_toArray, List.set_cons_zero, List.set_cons_succ]
          refine wpAnyH_take (i := 7) (oi := { dst := some 91, op := Op.extract (Operand.tmp 84) 1, type := 3, pos := "exact.go:3157", after := #[{ on := 5, ground := Ground.data }, { on := 9, ground := Ground.gcOnly Departure.lateStores }], guard := none }) (v := ?_) rfl (by kernel_rfl) (by kernel_rfl) (by kernel_rfl) (fun _ _ _ h => h) (Or.inl ⟨by rfl, ?_⟩) (by assumption) ?_
          rotate_left
          · intro wq hSw
            (try dsimp only at hSw)
            go_simp
            try with_reducible rfl
          try simp only [Act.put, List.setIfInBounds_toArray, List.set_cons_zero, List.set_cons_succ]
          refine wpAnyH_ready (rs := [8]) (by kernel_rfl) (by simp) ?_
          refine AllReadyH.cons (o := { dst := some 14, op := Op.alloc 29, type := 0, pos := "exact.go:3157", after := #[], guard := none }) rfl (fun K hK => ?_) AllReadyH.nil
          go_simp
          have HBy4 : Hid (Below u.heap.size u (y3.alloc (.cells #[.slice none 0 0] 29))) := HBy3.out.alloc HBy3.out.size _
          have hAy4 : Below y3.heap.size y3 (y3.alloc (.cells #[.slice none 0 0] 29)) := (Below.refl _ _).alloc (Nat.le_refl _) _
          have HVy4 : Hid (BlkAt (y3.alloc (.cells #[.slice none 0 0] 29)) y3.heap.size (.slice none 0 0) 29) := BlkAt.new _ _ _
          have huy4 : u.heap.size ≤ y3.heap.size := HBy3.out.size
          have HFy4 : Hid (FilesAt (y3.alloc (.cells #[.slice none 0 0] 29)) (some ⟨B, 0, none⟩) fs) := files_below HFy3.out hAy4
          have HZy4 : Hid (B < ((y3.alloc (.cells #[.slice none 0 0] 29))).heap.size) := Nat.lt_of_lt_of_le HZy3.out hAy4.size
          have HNy4 : Hid (NewF u.heap.size (y3.alloc (.cells #[.slice none 0 0] 29)) ag gs') := HNy3.out.later hAy4
          clear hAy4
          clear hHeld
          refine hK.out _ _ ?_ (fun hHeld => ?_)
          · ((try dsimp only); exact ⟨HSB.out dA HBy4.out, HSB.out dn HBy4.out, HSB.out dx HBy4.out⟩)
          clear hK K
          try simp only [Act.put, List.setIfInBounds_toArray, List.set_cons_zero, List.set_cons_succ]
          generalize (y3.alloc (.cells #[.slice none 0 0] 29)) = y4 at *
          generalize y3.heap.size = Vb at *
          have cV := HVy4.out.cell
          have fV : y4.frozen? ⟨Vb, 0, none⟩ = false := Lib.frozen_of_heap HVy4.out 0
          have hVu : u.heap.size ≤ Vb := by omega
          have HNE : Hid (∀ g, ag = some ⟨g, 0, none⟩ → gs' ≠ [] → g ≠ Vb) := fun g hg h0 => by have h1 := HG1.out g hg h0; have h2 := HG2.out g hg h0; omega
          refine wpAnyH_ready (rs := [9]) (by kernel_rfl) (by simp) ?_
          refine AllReadyH.cons (o := { dst := none, op := Op.store 29 (Operand.tmp 14) (Operand.tmp 90), type := 0, pos := "exact.go:3157", after := #[{ on := 8, ground := Ground.data }, { on := 6, ground := Ground.data }, { on := 4, ground := Ground.chain }, { on := 0, ground := Ground.phase }, { on := 1, ground := Ground.phase }, { on := 2, ground := Ground.phase }, { on := 3, ground := Ground.phase }, { on := 4, ground := Ground.phase }, { on := 5, ground := Ground.phase }, { on := 6, ground := Ground.phase }, { on := 7, ground := Ground.textOnly Departure.lateStores }, { on := 8, ground := Ground.phase }], guard := none }) rfl (fun K hK => ?_) AllReadyH.nil
          go_simp
          clear hHeld
          refine hK.out _ _ ?_ (fun hHeld => ?_)
          · ((try dsimp only); exact ⟨(World.cell?_setCell_far _ _ _ _ (by show Vb ≠ w.heap.size; omega)).trans (HSB.out dA HBy4.out), (World.cell?_setCell_far _ _ _ _ (by show Vb ≠ w.heap.size + 1; omega)).trans (HSB.out dn HBy4.out), (World.cell?_setCell_far _ _ _ _ (by show Vb ≠ w.heap.size + 1; omega)).trans (HSB.out dx HBy4.out)⟩)
          clear hK K
          try simp only [Act.put, List.setIfInBounds_toArray, List.set_cons_zero, List.set_cons_succ]
          refine wpAnyH_take (i := 10) (oi := { dst := some 15, op := Op.assign (Operand.tmp 91), type := 3, pos := "exact.go:3157", after := #[{ on := 7, ground := Ground.data }, { on := 9, ground := Ground.chain }, { on := 0, ground := Ground.phase }, { on := 1, ground := Ground.phase }, { on := 2, ground := Ground.phase }, { on := 3, ground := Ground.phase }, { on := 4, ground := Ground.phase }, { on := 5, ground := Ground.phase }, { on := 6, ground := Ground.phase }, { on := 7, ground := Ground.phase }, { on := 8, ground := Ground.phase }, { on := 9, ground := Ground.phase }], guard := none }) (v := ?_) rfl (by kernel_rfl) (by kernel_rfl) (by kernel_rfl) (fun _ _ _ h => h) (Or.inl ⟨by rfl, ?_⟩) (by assumption) ?_
          rotate_left
          · intro wq hSw
            (try dsimp only at hSw)
            go_simp
            try with_reducible rfl
          try simp only [Act.put, List.setIfInBounds_toArray, List.set_cons_zero, List.set_cons_succ]
          refine wpAnyH_done (by kernel_rfl) ?_ _
          clear hHeld
          go_wp2_with fail
          go_meet
          exact ⟨Vb, ag, cg, c', gs', rfl, rfl, HBy4.out.setCell (by simp; omega) _, HVy4.out.set_same, newF_far HNy4.out (fun g hg h0 _ => HNE.out g hg h0), HNE.out, hVu, HSR2.out⟩
        · go_simp
          have HBy5 : Hid (Below u.heap.size u (y2.alloc (.cells #[.slice none 0 0] 29))) := HBy2.out.alloc HBy2.out.size _
          have hAy5 : Below y2.heap.size y2 (y2.alloc (.cells #[.slice none 0 0] 29)) := (Below.refl _ _).alloc (Nat.le_refl _) _
          have HVy5 : Hid (BlkAt (y2.alloc (.cells #[.slice none 0 0] 29)) y2.heap.size (.slice none 0 0) 29) := BlkAt.new _ _ _
          have huy5 : u.heap.size ≤ y2.heap.size := HBy2.out.size
          have HFy5 : Hid (FilesAt (y2.alloc (.cells #[.slice none 0 0] 29)) (some ⟨B, 0, none⟩) fs) := files_below HFy2.out hAy5
          have HZy5 : Hid (B < ((y2.alloc (.cells #[.slice none 0 0] 29))).heap.size) := Nat.lt_of_lt_of_le HZy2.out hAy5.size
          clear hAy5
          clear hHeld
          refine hK.out _ _ ?_ (fun hHeld => ?_)
          · ((try dsimp only); exact ⟨HSB.out dA HBy5.out, HSB.out dn HBy5.out, HSB.out dx HBy5.out⟩)
          clear hK K
          try simp only [Act.put, List.setIfInBounds_toArray, List.set_cons_zero, List.set_cons_succ]
          generalize (y2.alloc (.cells #[.slice none 0 0] 29)) = y5 at *
          generalize y2.heap.size = Vb at *
          refine wpAnyH_ready (rs := [4]) (by kernel_rfl) (by simp) ?_
          refine AllReadyH.cons (o := { dst := some 89, op := Op.call { callee := Callee.value (Operand.func 14), args := #[Operand.tmp 86, Operand.tmp 88], argTypes := #[29, 38] }, type := 36, pos := "exact.go:3157", after := #[{ on := 1, ground := Ground.data }, { on := 3, ground := Ground.data }, { on := 3, ground := Ground.chain }], guard := none }) rfl (fun K hK => ?_) AllReadyH.nil
          go_simp
          refine (c14 B 0 fs.length fs x y5 hl1 HS1.out HX1.out HZy5.out (at_cells HFy5.out)).mono ?_
          rintro e y6 ⟨⟨ag, cg, c', gs', rfl, hng, hsr⟩, hby6⟩
          have HNy6 : Hid (NewF u.heap.size y6 ag gs') := newF_mono hng HBy5.out.size
          have HG1 : Hid (∀ g, ag = some ⟨g, 0, none⟩ → gs' ≠ [] → y5.heap.size ≤ g) := newF_ge hng
          have HG2 : Hid (∀ g, ag = some ⟨g, 0, none⟩ → gs' ≠ [] → g < y6.heap.size) := fun g hg h0 => files_lt hng.1 g 0 hg h0
          have HSR2 : Hid (SetR fs x c' gs') := hsr
          clear hng hsr
          have HBy6 : Hid (Below u.heap.size u y6) := HBy5.out.trans (hby6.mono HBy5.out.size)
          have HFy6 : Hid (FilesAt y6 (some ⟨B, 0, none⟩) fs) := files_below HFy5.out hby6
          have HZy6 : Hid (B < (y6).heap.size) := Nat.lt_of_lt_of_le HZy5.out hby6.size
          have HVy6 : Hid (BlkAt y6 Vb (.slice none 0 0) 29) := HVy5.out.later hby6
          have hvy6 : Vb < y5.heap.size := HVy5.out.lt
          go_wp2_with fail
          clear hHeld
          refine hK.out _ _ ?_ (fun hHeld => ?_)
          · ((try dsimp only); exact ⟨HSB.out dA HBy6.out, HSB.out dn HBy6.out, HSB.out dx HBy6.out⟩)
          clear hK K
          try simp only [Act.put, List.setIfInBounds_toArray, List.set_cons_zero, List.set_cons_succ]
          refine wpAnyH_take (i := 5) (oi := { dst := some 84, op := Op.move (Operand.tmp 89), type := 36, pos := "exact.go:3157", after := #[{ on := 4, ground := Ground.data }], guard := none }) (v := ?_) rfl (by kernel_rfl) (by kernel_rfl) (by kernel_rfl) (fun _ _ _ h => h) (Or.inl ⟨by rfl, ?_⟩) (by assumption) ?_
          rotate_left
          · intro wq hSw
            (try dsimp only at hSw)
            go_simp
            try with_reducible rfl
          try simp only [Act.put, List.setIfInBounds_toArray, List.set_cons_zero, List.set_cons_succ]
          refine wpAnyH_take (i := 6) (oi := { dst := some 90, op := Op.extract (Operand.tmp 84) 0, type := 29, pos := "exact.go:3157", after := #[{ on := 5, ground := Ground.data }], guard := none }) (v := ?_) rfl (by kernel_rfl) (by kernel_rfl) (by kernel_rfl) (fun _ _ _ h => h) (Or.inl ⟨by rfl, ?_⟩) (by assumption) ?_
          rotate_left
          · intro wq hSw
            (try dsimp only at hSw)
            go_simp
            try with_reducible rfl
          try simp only [Act.put, List.setIfInBounds_toArray, List.set_cons_zero, List.set_cons_succ]
          refine wpAnyH_take (i := 7) (oi := { dst := some 91, op := Op.extract (Operand.tmp 84) 1, type := 3, pos := "exact.go:3157", after := #[{ on := 5, ground := Ground.data }, { on := 9, ground := Ground.gcOnly Departure.lateStores }], guard := none }) (v := ?_) rfl (by kernel_rfl) (by kernel_rfl) (by kernel_rfl) (fun _ _ _ h => h) (Or.inl ⟨by rfl, ?_⟩) (by assumption) ?_
          rotate_left
          · intro wq hSw
            (try dsimp only at hSw)
            go_simp
            try with_reducible rfl
          try simp only [Act.put, List.setIfInBounds_toArray, List.set_cons_zero, List.set_cons_succ]
          have cV := HVy6.out.cell
          have fV : y6.frozen? ⟨Vb, 0, none⟩ = false := Lib.frozen_of_heap HVy6.out 0
          have hVu : u.heap.size ≤ Vb := by omega
          have HNE : Hid (∀ g, ag = some ⟨g, 0, none⟩ → gs' ≠ [] → g ≠ Vb) := fun g hg h0 => by have h1 := HG1.out g hg h0; have h2 := HG2.out g hg h0; omega
          refine wpAnyH_ready (rs := [9]) (by kernel_rfl) (by simp) ?_
          refine AllReadyH.cons (o := { dst := none, op := Op.store 29 (Operand.tmp 14) (Operand.tmp 90), type := 0, pos := "exact.go:3157", after := #[{ on := 8, ground := Ground.data }, { on := 6, ground := Ground.data }, { on := 4, ground := Ground.chain }, { on := 0, ground := Ground.phase }, { on := 1, ground := Ground.phase }, { on := 2, ground := Ground.phase }, { on := 3, ground := Ground.phase }, { on := 4, ground := Ground.phase }, { on := 5, ground := Ground.phase }, { on := 6, ground := Ground.phase }, { on := 7, ground := Ground.textOnly Departure.lateStores }, { on := 8, ground := Ground.phase }], guard := none }) rfl (fun K hK => ?_) AllReadyH.nil
          go_simp
          clear hHeld
          refine hK.out _ _ ?_ (fun hHeld => ?_)
          · ((try dsimp only); exact ⟨(World.cell?_setCell_far _ _ _ _ (by show Vb ≠ w.heap.size; omega)).trans (HSB.out dA HBy6.out), (World.cell?_setCell_far _ _ _ _ (by show Vb ≠ w.heap.size + 1; omega)).trans (HSB.out dn HBy6.out), (World.cell?_setCell_far _ _ _ _ (by show Vb ≠ w.heap.size + 1; omega)).trans (HSB.out dx HBy6.out)⟩)
          clear hK K
          try simp only [Act.put, List.setIfInBounds_toArray, List.set_cons_zero, List.set_cons_succ]
          refine wpAnyH_take (i := 10) (oi := { dst := some 15, op := Op.assign (Operand.tmp 91), type := 3, pos := "exact.go:3157", after := #[{ on := 7, ground := Ground.data }, { on := 9, ground := Ground.chain }, { on := 0, ground := Ground.phase }, { on := 1, ground := Ground.phase }, { on := 2, ground := Ground.phase }, { on := 3, ground := Ground.phase }, { on := 4, ground := Ground.phase }, { on := 5, ground := Ground.phase }, { on := 6, ground := Ground.phase }, { on := 7, ground := Ground.phase }, { on := 8, ground := Ground.phase }, { on := 9, ground := Ground.phase }], guard := none }) (v := ?_) rfl (by kernel_rfl) (by kernel_rfl) (by kernel_rfl) (fun _ _ _ h => h) (Or.inl ⟨by rfl, ?_⟩) (by assumption) ?_
          rotate_left
          · intro wq hSw
            (try dsimp only at hSw)
            go_simp
            try with_reducible rfl
          try simp only [Act.put, List.setIfInBounds_toArray, List.set_cons_zero, List.set_cons_succ]
          refine wpAnyH_done (by kernel_rfl) ?_ _
          clear hHeld
          go_wp2_with fail
          go_meet
          exact ⟨Vb, ag, cg, c', gs', rfl, rfl, HBy6.out.setCell (by simp; omega) _, HVy6.out.set_same, newF_far HNy6.out (fun g hg h0 _ => HNE.out g hg h0), HNE.out, hVu, HSR2.out⟩
      · go_simp
        have HBy7 : Hid (Below u.heap.size u (y1.alloc (.cells #[.slice none 0 0] 29))) := HBy1.out.alloc HBy1.out.size _
        have hAy7 : Below y1.heap.size y1 (y1.alloc (.cells #[.slice none 0 0] 29)) := (Below.refl _ _).alloc (Nat.le_refl _) _
        have HVy7 : Hid (BlkAt (y1.alloc (.cells #[.slice none 0 0] 29)) y1.heap.size (.slice none 0 0) 29) := BlkAt.new _ _ _
        have huy7 : u.heap.size ≤ y1.heap.size := HBy1.out.size
        have HFy7 : Hid (FilesAt (y1.alloc (.cells #[.slice none 0 0] 29)) (some ⟨B, 0, none⟩) fs) := files_below HFy1.out hAy7
        have HZy7 : Hid (B < ((y1.alloc (.cells #[.slice none 0 0] 29))).heap.size) := Nat.lt_of_lt_of_le HZy1.out hAy7.size
        clear hAy7
        clear hHeld
        refine hK.out _ _ ?_ (fun hHeld => ?_)
        · ((try dsimp only); exact ⟨HSB.out dA HBy7.out, HSB.out dn HBy7.out, HSB.out dx HBy7.out⟩)
        clear hK K
        try simp only [Act.put, List.setIfInBounds_toArray, List.set_cons_zero, List.set_cons_succ]
        generalize (y1.alloc (.cells #[.slice none 0 0] 29)) = y7 at *
        generalize y1.heap.size = Vb at *
        refine wpAnyH_ready (rs := [3]) (by kernel_rfl) (by simp) ?_
        refine AllReadyH.cons (o := { dst := some 88, op := Op.call { callee := Callee.value (Operand.func 13), args := #[Operand.tmp 87], argTypes := #[34] }, type := 38, pos := "exact.go:3157", after := #[{ on := 2, ground := Ground.data }, { on := 1, ground := Ground.chain }], guard := none }) rfl (fun K hK => ?_) AllReadyH.nil
        go_simp
        refine (c13b x y7).mono ?_
        rintro e y8 ⟨rfl, hby8⟩
        have HBy8 : Hid (Below u.heap.size u y8) := HBy7.out.trans (hby8.mono HBy7.out.size)
        have HFy8 : Hid (FilesAt y8 (some ⟨B, 0, none⟩) fs) := files_below HFy7.out hby8
        have HZy8 : Hid (B < (y8).heap.size) := Nat.lt_of_lt_of_le HZy7.out hby8.size
        have HVy8 : Hid (BlkAt y8 Vb (.slice none 0 0) 29) := HVy7.out.later hby8
        have hvy8 : Vb < y7.heap.size := HVy7.out.lt
        go_wp2_with fail
        clear hHeld
        refine hK.out _ _ ?_ (fun hHeld => ?_)
        · ((try dsimp only); exact ⟨HSB.out dA HBy8.out, HSB.out dn HBy8.out, HSB.out dx HBy8.out⟩)
        clear hK K
        try simp only [Act.put, List.setIfInBounds_toArray, List.set_cons_zero, List.set_cons_succ]
        refine wpAnyH_ready (rs := [4]) (by kernel_rfl) (by simp) ?_
        refine AllReadyH.cons (o := { dst := some 89, op := Op.call { callee := Callee.value (Operand.func 14), args := #[Operand.tmp 86, Operand.tmp 88], argTypes := #[29, 38] }, type := 36, pos := "exact.go:3157", after := #[{ on := 1, ground := Ground.data }, { on := 3, ground := Ground.data }, { on := 3, ground := Ground.chain }], guard := none }) rfl (fun K hK => ?_) AllReadyH.nil
        go_simp
        refine (c14 B 0 fs.length fs x y8 hl1 HS1.out HX1.out HZy8.out (at_cells HFy8.out)).mono ?_
        rintro e y9 ⟨⟨ag, cg, c', gs', rfl, hng, hsr⟩, hby9⟩
        have HNy9 : Hid (NewF u.heap.size y9 ag gs') := newF_mono hng HBy8.out.size
        have HG1 : Hid (∀ g, ag = some ⟨g, 0, none⟩ → gs' ≠ [] → y8.heap.size ≤ g) := newF_ge hng
        have HG2 : Hid (∀ g, ag = some ⟨g, 0, none⟩ → gs' ≠ [] → g < y9.heap.size) := fun g hg h0 => files_lt hng.1 g 0 hg h0
        have HSR2 : Hid (SetR fs x c' gs') := hsr
        clear hng hsr
        have HBy9 : Hid (Below u.heap.size u y9) := HBy8.out.trans (hby9.mono HBy8.out.size)
        have HFy9 : Hid (FilesAt y9 (some ⟨B, 0, none⟩) fs) := files_below HFy8.out hby9
        have HZy9 : Hid (B < (y9).heap.size) := Nat.lt_of_lt_of_le HZy8.out hby9.size
        have HVy9 : Hid (BlkAt y9 Vb (.slice none 0 0) 29) := HVy8.out.later hby9
        have hvy9 : Vb < y8.heap.size := HVy8.out.lt
        go_wp2_with fail
        clear hHeld
        refine hK.out _ _ ?_ (fun hHeld => ?_)
        · ((try dsimp only); exact ⟨HSB.out dA HBy9.out, HSB.out dn HBy9.out, HSB.out dx HBy9.out⟩)
        clear hK K
        try simp only [Act.put, List.setIfInBounds_toArray, List.set_cons_zero, List.set_cons_succ]
        refine wpAnyH_take (i := 5) (oi := { dst := some 84, op := Op.move (Operand.tmp 89), type := 36, pos := "exact.go:3157", after := #[{ on := 4, ground := Ground.data }], guard := none }) (v := ?_) rfl (by kernel_rfl) (by kernel_rfl) (by kernel_rfl) (fun _ _ _ h => h) (Or.inl ⟨by rfl, ?_⟩) (by assumption) ?_
        rotate_left
        · intro wq hSw
          (try dsimp only at hSw)
          go_simp
          try with_reducible rfl
        try simp only [Act.put, List.setIfInBounds_toArray, List.set_cons_zero, List.set_cons_succ]
        refine wpAnyH_take (i := 6) (oi := { dst := some 90, op := Op.extract (Operand.tmp 84) 0, type := 29, pos := "exact.go:3157", after := #[{ on := 5, ground := Ground.data }], guard := none }) (v := ?_) rfl (by kernel_rfl) (by kernel_rfl) (by kernel_rfl) (fun _ _ _ h => h) (Or.inl ⟨by rfl, ?_⟩) (by assumption) ?_
        rotate_left
        · intro wq hSw
          (try dsimp only at hSw)
          go_simp
          try with_reducible rfl
        try simp only [Act.put, List.setIfInBounds_toArray, List.set_cons_zero, List.set_cons_succ]
        refine wpAnyH_take (i := 7) (oi := { dst := some 91, op := Op.extract (Operand.tmp 84) 1, type := 3, pos := "exact.go:3157", after := #[{ on := 5, ground := Ground.data }, { on := 9, ground := Ground.gcOnly Departure.lateStores }], guard := none }) (v := ?_) rfl (by kernel_rfl) (by kernel_rfl) (by kernel_rfl) (fun _ _ _ h => h) (Or.inl ⟨by rfl, ?_⟩) (by assumption) ?_
        rotate_left
        · intro wq hSw
          (try dsimp only at hSw)
          go_simp
          try with_reducible rfl
        try simp only [Act.put, List.setIfInBounds_toArray, List.set_cons_zero, List.set_cons_succ]
        have cV := HVy9.out.cell
        have fV : y9.frozen? ⟨Vb, 0, none⟩ = false := Lib.frozen_of_heap HVy9.out 0
        have hVu : u.heap.size ≤ Vb := by omega
        have HNE : Hid (∀ g, ag = some ⟨g, 0, none⟩ → gs' ≠ [] → g ≠ Vb) := fun g hg h0 => by have h1 := HG1.out g hg h0; have h2 := HG2.out g hg h0; omega
        refine wpAnyH_ready (rs := [9]) (by kernel_rfl) (by simp) ?_
        refine AllReadyH.cons (o := { dst := none, op := Op.store 29 (Operand.tmp 14) (Operand.tmp 90), type := 0, pos := "exact.go:3157", after := #[{ on := 8, ground := Ground.data }, { on := 6, ground := Ground.data }, { on := 4, ground := Ground.chain }, { on := 0, ground := Ground.phase }, { on := 1, ground := Ground.phase }, { on := 2, ground := Ground.phase }, { on := 3, ground := Ground.phase }, { on := 4, ground := Ground.phase }, { on := 5, ground := Ground.phase }, { on := 6, ground := Ground.phase }, { on := 7, ground := Ground.textOnly Departure.lateStores }, { on := 8, ground := Ground.phase }], guard := none }) rfl (fun K hK => ?_) AllReadyH.nil
        go_simp
        clear hHeld
        refine hK.out _ _ ?_ (fun hHeld => ?_)
        · ((try dsimp only); exact ⟨(World.cell?_setCell_far _ _ _ _ (by show Vb ≠ w.heap.size; omega)).trans (HSB.out dA HBy9.out), (World.cell?_setCell_far _ _ _ _ (by show Vb ≠ w.heap.size + 1; omega)).trans (HSB.out dn HBy9.out), (World.cell?_setCell_far _ _ _ _ (by show Vb ≠ w.heap.size + 1; omega)).trans (HSB.out dx HBy9.out)⟩)
        clear hK K
        try simp only [Act.put, List.setIfInBounds_toArray, List.set_cons_zero, List.set_cons_succ]
        refine wpAnyH_take (i := 10) (oi := { dst := some 15, op := Op.assign (Operand.tmp 91), type := 3, pos := "exact.go:3157", after := #[{ on := 7, ground := Ground.data }, { on := 9, ground := Ground.chain }, { on := 0, ground := Ground.phase }, { on := 1, ground := Ground.phase }, { on := 2, ground := Ground.phase }, { on := 3, ground := Ground.phase }, { on := 4, ground := Ground.phase }, { on := 5, ground := Ground.phase }, { on := 6, ground := Ground.phase }, { on := 7, ground := Ground.phase }, { on := 8, ground := Ground.phase }, { on := 9, ground := Ground.phase }], guard := none }) (v := ?_) rfl (by kernel_rfl) (by kernel_rfl) (by kernel_rfl) (fun _ _ _ h => h) (Or.inl ⟨by rfl, ?_⟩) (by assumption) ?_
        rotate_left
        · intro wq hSw
          (try dsimp only at hSw)
          go_simp
          try with_reducible rfl
        try simp only [Act.put, List.setIfInBounds_toArray, List.set_cons_zero, List.set_cons_succ]
        refine wpAnyH_done (by kernel_rfl) ?_ _
        clear hHeld
        go_wp2_with fail
        go_meet
        exact ⟨Vb, ag, cg, c', gs', rfl, rfl, HBy9.out.setCell (by simp; omega) _, HVy9.out.set_same, newF_far HNy9.out (fun g hg h0 _ => HNE.out g hg h0), HNE.out, hVu, HSR2.out⟩
    · go_simp
      have HBy10 : Hid (Below u.heap.size u (y0.alloc (.cells #[.slice none 0 0] 29))) := HBy0.out.alloc HBy0.out.size _
      have hAy10 : Below y0.heap.size y0 (y0.alloc (.cells #[.slice none 0 0] 29)) := (Below.refl _ _).alloc (Nat.le_refl _) _
      have HVy10 : Hid (BlkAt (y0.alloc (.cells #[.slice none 0 0] 29)) y0.heap.size (.slice none 0 0) 29) := BlkAt.new _ _ _
      have huy10 : u.heap.size ≤ y0.heap.size := HBy0.out.size
      clear hAy10
      clear hHeld
      refine hK.out _ _ ?_ (fun hHeld => ?_)
      · ((try dsimp only); exact ⟨HSB.out dA HBy10.out, HSB.out dn HBy10.out, HSB.out dx HBy10.out⟩)
      clear hK K
      try simp only [Act.put, List.setIfInBounds_toArray, List.set_cons_zero, List.set_cons_succ]
      generalize (y0.alloc (.cells #[.slice none 0 0] 29)) = y10 at *
      generalize y0.heap.size = Vb at *
      refine wpAnyH_ready (rs := [1]) (by kernel_rfl) (by simp) ?_
      refine AllReadyH.cons (o := { dst := some 86, op := Op.call { callee := Callee.value (Operand.func 8), args := #[Operand.tmp 85], argTypes := #[24] }, type := 29, pos := "exact.go:3157", after := #[{ on := 0, ground := Ground.data }], guard := none }) rfl (fun K hK => ?_) AllReadyH.nil
      go_simp
      refine (c8s a cap fs y10 hl1 (files_below HATu.out HBy10.out)).mono ?_
      rintro e y11 ⟨⟨B, hBq, rfl, h2, hox2⟩, hby11⟩
      have HFy11 : Hid (FilesAt y11 (some ⟨B, 0, none⟩) fs) := h2
      have HZy11 : Hid (B < y11.heap.size) := hox2.1
      clear h2 hox2 hBq
      have HBy11 : Hid (Below u.heap.size u y11) := HBy10.out.trans (hby11.mono HBy10.out.size)
      have HVy11 : Hid (BlkAt y11 Vb (.slice none 0 0) 29) := HVy10.out.later hby11
      have hvy11 : Vb < y10.heap.size := HVy10.out.lt
      go_wp2_with fail
      clear hHeld
      refine hK.out _ _ ?_ (fun hHeld => ?_)
      · ((try dsimp only); exact ⟨HSB.out dA HBy11.out, HSB.out dn HBy11.out, HSB.out dx HBy11.out⟩)
      clear hK K
      try simp only [Act.put, List.setIfInBounds_toArray, List.set_cons_zero, List.set_cons_succ]
      refine wpAnyH_ready (rs := [3]) (by kernel_rfl) (by simp) ?_
      refine AllReadyH.cons (o := { dst := some 88, op := Op.call { callee := Callee.value (Operand.func 13), args := #[Operand.tmp 87], argTypes := #[34] }, type := 38, pos := "exact.go:3157", after := #[{ on := 2, ground := Ground.data }, { on := 1, ground := Ground.chain }], guard := none }) rfl (fun K hK => ?_) AllReadyH.nil
      go_simp
      refine (c13b x y11).mono ?_
      rintro e y12 ⟨rfl, hby12⟩
      have HBy12 : Hid (Below u.heap.size u y12) := HBy11.out.trans (hby12.mono HBy11.out.size)
      have HFy12 : Hid (FilesAt y12 (some ⟨B, 0, none⟩) fs) := files_below HFy11.out hby12
      have HZy12 : Hid (B < (y12).heap.size) := Nat.lt_of_lt_of_le HZy11.out hby12.size
      have HVy12 : Hid (BlkAt y12 Vb (.slice none 0 0) 29) := HVy11.out.later hby12
      have hvy12 : Vb < y11.heap.size := HVy11.out.lt
      go_wp2_with fail
      clear hHeld
      refine hK.out _ _ ?_ (fun hHeld => ?_)
      · ((try dsimp only); exact ⟨HSB.out dA HBy12.out, HSB.out dn HBy12.out, HSB.out dx HBy12.out⟩)
      clear hK K
      try simp only [Act.put, List.setIfInBounds_toArray, List.set_cons_zero, List.set_cons_succ]
      refine wpAnyH_ready (rs := [4]) (by kernel_rfl) (by simp) ?_
      refine AllReadyH.cons (o := { dst := some 89, op := Op.call { callee := Callee.value (Operand.func 14), args := #[Operand.tmp 86, Operand.tmp 88], argTypes := #[29, 38] }, type := 36, pos := "exact.go:3157", after := #[{ on := 1, ground := Ground.data }, { on := 3, ground := Ground.data }, { on := 3, ground := Ground.chain }], guard := none }) rfl (fun K hK => ?_) AllReadyH.nil
      go_simp
      refine (c14 B 0 fs.length fs x y12 hl1 HS1.out HX1.out HZy12.out (at_cells HFy12.out)).mono ?_
      rintro e y13 ⟨⟨ag, cg, c', gs', rfl, hng, hsr⟩, hby13⟩
      have HNy13 : Hid (NewF u.heap.size y13 ag gs') := newF_mono hng HBy12.out.size
      have HG1 : Hid (∀ g, ag = some ⟨g, 0, none⟩ → gs' ≠ [] → y12.heap.size ≤ g) := newF_ge hng
      have HG2 : Hid (∀ g, ag = some ⟨g, 0, none⟩ → gs' ≠ [] → g < y13.heap.size) := fun g hg h0 => files_lt hng.1 g 0 hg h0
      have HSR2 : Hid (SetR fs x c' gs') := hsr
      clear hng hsr
      have HBy13 : Hid (Below u.heap.size u y13) := HBy12.out.trans (hby13.mono HBy12.out.size)
      have HFy13 : Hid (FilesAt y13 (some ⟨B, 0, none⟩) fs) := files_below HFy12.out hby13
      have HZy13 : Hid (B < (y13).heap.size) := Nat.lt_of_lt_of_le HZy12.out hby13.size
      have HVy13 : Hid (BlkAt y13 Vb (.slice none 0 0) 29) := HVy12.out.later hby13
      have hvy13 : Vb < y12.heap.size := HVy12.out.lt
      go_wp2_with fail
      clear hHeld
      refine hK.out _ _ ?_ (fun hHeld => ?_)
      · ((try dsimp only); exact ⟨HSB.out dA HBy13.out, HSB.out dn HBy13.out, HSB.out dx HBy13.out⟩)
      clear hK K
      try simp only [Act.put, List.setIfInBounds_toArray, List.set_cons_zero, List.set_cons_succ]
      refine wpAnyH_take (i := 5) (oi := { dst := some 84, op := Op.move (Operand.tmp 89), type := 36, pos := "exact.go:3157", after := #[{ on := 4, ground := Ground.data }], guard := none }) (v := ?_) rfl (by kernel_rfl) (by kernel_rfl) (by kernel_rfl) (fun _ _ _ h => h) (Or.inl ⟨by rfl, ?_⟩) (by assumption) ?_
      rotate_left
      · intro wq hSw
        (try dsimp only at hSw)
        go_simp
        try with_reducible rfl
      try simp only [Act.put, List.setIfInBounds_toArray, List.set_cons_zero, List.set_cons_succ]
      refine wpAnyH_take (i := 6) (oi := { dst := some 90, op := Op.extract (Operand.tmp 84) 0, type := 29, pos := "exact.go:3157", after := #[{ on := 5, ground := Ground.data }], guard := none }) (v := ?_) rfl (by kernel_rfl) (by kernel_rfl) (by kernel_rfl) (fun _ _ _ h => h) (Or.inl ⟨by rfl, ?_⟩) (by assumption) ?_
      rotate_left
      · intro wq hSw
        (try dsimp only at hSw)
        go_simp
        try with_reducible rfl
      try simp only [Act.put, List.setIfInBounds_toArray, List.set_cons_zero, List.set_cons_succ]
      refine wpAnyH_take (i := 7) (oi := { dst := some 91, op := Op.extract (Operand.tmp 84) 1, type := 3, pos := "exact.go:3157", after := #[{ on := 5, ground := Ground.data }, { on := 9, ground := Ground.gcOnly Departure.lateStores }], guard := none }) (v := ?_) rfl (by kernel_rfl) (by kernel_rfl) (by kernel_rfl) (fun _ _ _ h => h) (Or.inl ⟨by rfl, ?_⟩) (by assumption) ?_
      rotate_left
      · intro wq hSw
        (try dsimp only at hSw)
        go_simp
        try with_reducible rfl
      try simp only [Act.put, List.setIfInBounds_toArray, List.set_cons_zero, List.set_cons_succ]
      have cV := HVy13.out.cell
      have fV : y13.frozen? ⟨Vb, 0, none⟩ = false := Lib.frozen_of_heap HVy13.out 0
      have hVu : u.heap.size ≤ Vb := by omega
      have HNE : Hid (∀ g, ag = some ⟨g, 0, none⟩ → gs' ≠ [] → g ≠ Vb) := fun g hg h0 => by have h1 := HG1.out g hg h0; have h2 := HG2.out g hg h0; omega
      refine wpAnyH_ready (rs := [9]) (by kernel_rfl) (by simp) ?_
      refine AllReadyH.cons (o := { dst := none, op := Op.store 29 (Operand.tmp 14) (Operand.tmp 90), type := 0, pos := "exact.go:3157", after := #[{ on := 8, ground := Ground.data }, { on := 6, ground := Ground.data }, { on := 4, ground := Ground.chain }, { on := 0, ground := Ground.phase }, { on := 1, ground := Ground.phase }, { on := 2, ground := Ground.phase }, { on := 3, ground := Ground.phase }, { on := 4, ground := Ground.phase }, { on := 5, ground := Ground.phase }, { on := 6, ground := Ground.phase }, { on := 7, ground := Ground.textOnly Departure.lateStores }, { on := 8, ground := Ground.phase }], guard := none }) rfl (fun K hK => ?_) AllReadyH.nil
      go_simp
      clear hHeld
      refine hK.out _ _ ?_ (fun hHeld => ?_)
      · ((try dsimp only); exact ⟨(World.cell?_setCell_far _ _ _ _ (by show Vb ≠ w.heap.size; omega)).trans (HSB.out dA HBy13.out), (World.cell?_setCell_far _ _ _ _ (by show Vb ≠ w.heap.size + 1; omega)).trans (HSB.out dn HBy13.out), (World.cell?_setCell_far _ _ _ _ (by show Vb ≠ w.heap.size + 1; omega)).trans (HSB.out dx HBy13.out)⟩)
      clear hK K
      try simp only [Act.put, List.setIfInBounds_toArray, List.set_cons_zero, List.set_cons_succ]
      refine wpAnyH_take (i := 10) (oi := { dst := some 15, op := Op.assign (Operand.tmp 91), type := 3, pos := "exact.go:3157", after := #[{ on := 7, ground := Ground.data }, { on := 9, ground := Ground.chain }, { on := 0, ground := Ground.phase }, { on := 1, ground := Ground.phase }, { on := 2, ground := Ground.phase }, { on := 3, ground := Ground.phase }, { on := 4, ground := Ground.phase }, { on := 5, ground := Ground.phase }, { on := 6, ground := Ground.phase }, { on := 7, ground := Ground.phase }, { on := 8, ground := Ground.phase }, { on := 9, ground := Ground.phase }], guard := none }) (v := ?_) rfl (by kernel_rfl) (by kernel_rfl) (by kernel_rfl) (fun _ _ _ h => h) (Or.inl ⟨by rfl, ?_⟩) (by assumption) ?_
      rotate_left
      · intro wq hSw
        (try dsimp only at hSw)
        go_simp
        try with_reducible rfl
      try simp only [Act.put, List.setIfInBounds_toArray, List.set_cons_zero, List.set_cons_succ]
      refine wpAnyH_done (by kernel_rfl) ?_ _
      clear hHeld
      go_wp2_with fail
      go_meet
      exact ⟨Vb, ag, cg, c', gs', rfl, rfl, HBy13.out.setCell (by simp; omega) _, HVy13.out.set_same, newF_far HNy13.out (fun g hg h0 _ => HNE.out g hg h0), HNE.out, hVu, HSR2.out⟩
  case rest =>
  obtain ⟨Hb, ah, ch, c2, gs2, rfl, rfl, hb14, hHb, hnh, _, _, hsr2⟩ := hcut
  obtain ⟨h1, h2⟩ := setR_one HSRW.out hsr2
  subst h1
  subst h2
  obtain ⟨U14, hU14⟩ : ∃ U14, U14 = wc := ⟨_, rfl⟩
  subst hU14
  have HL14 : Hid (LawAt w U14 (.slice a fs.length cap) (.slice aw gs2.length cw) (.slice (some ⟨B, 0, none⟩) fs.length fs.length) (.slice ag gs2.length cg) Wb Xb Gb) := HL12.out.later hb14
  have HFH : Hid (FilesAt U14 ah gs2) := hnh.1
  have HFW14 : Hid (FilesAt U14 aw gs2) := files_below HFW12.out hb14
  have HH : Hid (BlkAt U14 Hb (.slice ah gs2.length ch) 29) := hHb
  have dH := HH.out.cell
  have HMK14 : Hid (MarksAt U14 g gs2.length) := by
    rcases HGL12.out with h | h
    · intro j hj; omega
    · exact marks_below HMK12.out h hb14
  have HGL14 : Hid (gs2.length = 0 ∨ g < U14.heap.size) := HGL12.out.imp id (fun h => Nat.lt_of_lt_of_le h hb14.size)
  clear hnh hsr2 hb14 hHb HL12 HFW12 HMK12 HGL12 k1 k2 k3 k4 dA dn dx HSB HATu HXF12
  obtain ⟨k1, k2, k3, k4⟩ := HL14.out.cells
  go_wp2_with fail
  refine (c10 ah aw ch cw gs2 U14 (by omega) HFH.out HFW14.out).mono ?_
  rintro e u15 ⟨rfl, hb15⟩
  have HL15 : Hid (LawAt w u15 (.slice a fs.length cap) (.slice aw gs2.length cw) (.slice (some ⟨B, 0, none⟩) fs.length fs.length) (.slice ag gs2.length cg) Wb Xb Gb) := HL14.out.later hb15
  have HMK15 : Hid (MarksAt u15 g gs2.length) := by
    rcases HGL14.out with h | h
    · intro j hj; omega
    · exact marks_below HMK14.out h hb15
  have HGL15 : Hid (gs2.length = 0 ∨ g < u15.heap.size) := HGL14.out.imp id (fun h => Nat.lt_of_lt_of_le h hb15.size)
  clear hb15 HL14 HFH HFW14 HH dH HMK14 HGL14 k1 k2 k3 k4
  obtain ⟨k1, k2, k3, k4⟩ := HL15.out.cells
  go_wp2_with fail
  refine (c16 ag g gs2.length cg u15 HGA.out (by omega) HGL15.out HMK15.out).mono ?_
  rintro e u16 ⟨rfl, hb16⟩
  have hBe : Below w.heap.size w u16 := HL15.out.bel.trans (hb16.mono HL15.out.bel.size)
  go_wp2
  go_ret
  exact ⟨rfl, hBe⟩
end Go.Proofs.Ytolihfbnbkaflaa
