import Derived.Test.YtkhlekmicpmpkaaGreatDoorZK06
namespace Go.Proofs.YtkhlekmicpmpkaaGreatDoor
open Go.RowKit
set_option maxRecDepth 100000
def GlOk (W : Int) (g : G3) : Prop := nameOk g.tl.data.toList = true ∧ (g.ar.size : Int) = W
def RecOk (W : Int) (x : R3) : Prop := (x.key.size ≤ 321 ∧ (x.out.size : Int) = W ∧ x.gs.length ≤ 15) ∧ ∀ i, i < x.gs.length → GlOk W (x.gs.getD i g3z)
def RecsOk (W : Int) (rs : List R3) : Prop := rs.length ≤ 150 ∧ ∀ i, i < rs.length → RecOk W (rs.getD i r3z)
def StepT (ts : List ByteArray) (W : Int) (k : Nat) : Prop := (∃ c t, IsR (ts.getD k ByteArray.empty).data.toList c t true) ∧ (k = 0 ∨ Op.bytesLess (sumS (ts.getD (k - 1) ByteArray.empty) W).toList (sumS (ts.getD k ByteArray.empty) W).toList = true)
def TextsOk (ts : List ByteArray) (W : Int) : Prop := ts.length ≤ 300 ∧ ∀ k, k < ts.length → StepT ts W k
def StOk (s : St) : Prop := (1 ≤ s.wd ∧ s.wd ≤ 8) ∧ TextsOk s.ts s.wd ∧ RecsOk s.wd s.rs
theorem isR_flag {l t : List UInt8} {c : Int} {ok : Bool} (h : IsR l c t ok) : ok = true ↔ ∃ c t, IsR l c t true := by
 constructor
 · rintro rfl; exact ⟨c, t, h⟩
 · rintro ⟨c', t', h'⟩; exact (isR_one h h').2.2
theorem sumS_size {s : ByteArray} {n : Int} (h : 1 ≤ n ∧ n ≤ 8) : (sumS s n).size = n.toNat := by
 unfold sumS; rw [if_pos h, strOfNums_size, outs_length]
theorem less_nil {s : ByteArray} (h : 1 ≤ s.size) : Op.bytesLess (⟨#[]⟩ : ByteArray).toList s.toList = true := by
 have h0 : (⟨#[]⟩ : ByteArray).toList = [] := by rw [ByteArray.toList_eq]
 rw [h0]
 cases hl : s.toList with
 | nil =>
  rw [ByteArray.toList_eq] at hl
  have : s.data.toList.length = s.size := by simp
  rw [hl] at this; simp at this; omega
 | cons c r => rfl
def Rb (P : Prop) (e : Ending) : Prop := ∃ b : Bool, e = .returned (.bool b) ∧ (b = true ↔ P)
theorem rb_no {P : Prop} (h : ¬ P) : Rb P (.returned (.bool false)) := ⟨false, rfl, (fun h => by cases h), fun p => absurd p h⟩
theorem rb_yes {P : Prop} (h : P) : Rb P (.returned (.bool true)) := ⟨true, rfl, fun _ => h, fun _ => rfl⟩
set_option maxHeartbeats 2000000 in
theorem c81 (x : R3) (ai : Option Addr) (ci : Nat) (W : Int) (w : World) (hs : x.le 1048576) (hat : GlsAt w ai x.gs) :
 Calls Tryz.prog 81 #[.agg #[.string x.key, .slice ai x.gs.length ci, .string x.out], .int .i64 W] w fun e w' => Rb (RecOk W x) e ∧ Below w.heap.size w w' := by
 obtain ⟨s1, s2, s3, s4⟩ := hs
 have HS : Hid (∀ i, (x.gs.getD i g3z).le 1048576) := s3
 clear s3
 have hB0 : Below w.heap.size w (w.alloc (.cells #[.string x.key, .slice ai x.gs.length ci, .string x.out] 67)) := (Below.refl _ _).alloc (Nat.le_refl _) _
 by_cases h : x.key.size ≤ 321 ∧ (x.out.size : Int) = W ∧ x.gs.length ≤ 15
 · obtain ⟨h1, h2, h3⟩ := h
   obtain ⟨b, off, hc⟩ := gls_some hat
   have HC : Hid (x.gs = [] ∨ (ai = some ⟨b, off, none⟩ ∧ b < w.heap.size ∧ ∀ i, i < x.gs.length → w.cell? ⟨b, off + i * 3, none⟩ = some (.bool (x.gs.getD i g3z).nm) ∧ w.cell? ⟨b, off + i * 3 + 1, none⟩ = some (.string (x.gs.getD i g3z).tl) ∧ w.cell? ⟨b, off + i * 3 + 2, none⟩ = some (.string (x.gs.getD i g3z).ar))) := hc
   have HH : Hid (x.key.size ≤ 321 ∧ (x.out.size : Int) = W ∧ x.gs.length ≤ 15) := ⟨h1, h2, h3⟩
   clear hc hat
   go_enter Tryz.func81, Tryz.ntmps81
   go_wp2_with fail
   go_loopw [27] (fun i wr => ∃ (k : Nat), k ≤ x.gs.length ∧ i = .int .i64 k ∧ Hid (∀ j, j < k → GlOk W (x.gs.getD j g3z)) ∧ Below w.heap.size w wr) (fun i _ => x.gs.length - (intOf i).toNat)
   case atStart => exact ⟨0, Nat.zero_le _, rfl, fun j h => absurd h (Nat.not_lt_zero _), hB0⟩
   case round =>
    obtain ⟨k, hk, rfl, hdone, hb⟩ := hrel
    by_cases hlt : k < x.gs.length
    · rcases HC.out with hss | ⟨ha, hbw, hcell⟩
      · rw [hss] at hlt; exact absurd hlt (Nat.not_lt_zero _)
      subst ha
      have g0 := (hb.cell (p := ⟨b, off + k * 3, none⟩) hbw).trans (hcell k hlt).1
      have g1 := (hb.cell (p := ⟨b, off + k * 3 + 1, none⟩) hbw).trans (hcell k hlt).2.1
      have g2 := (hb.cell (p := ⟨b, off + k * 3 + 2, none⟩) hbw).trans (hcell k hlt).2.2
      obtain ⟨gs1, gs2⟩ := HS.out k
      have hzw : w.heap.size ≤ wr.heap.size := hb.size
      generalize hx : x.gs.getD k g3z = y at *
      have HX : Hid (x.gs.getD k g3z = y) := hx
      clear hx hcell
      have hA : Below w.heap.size w (wr.alloc (.cells #[.bool y.nm, .string y.tl, .string y.ar] 92)) := hb.alloc hb.size _
      go_wp2_with fail
      refine (c85 y.tl _ (by omega)).mono ?_
      rintro e w1 ⟨rfl, hw1⟩
      obtain rfl := hw1
      cases hn : nameOk y.tl.data.toList
      · have HR : Hid (¬ RecOk W x) := fun h => by have := (h.2 k hlt).1; rw [HX.out, hn] at this; cases this
        go_wp2
        go_ret
        exact ⟨rb_no HR.out, hA⟩
      · by_cases hw : (y.ar.size : Int) = W
        · have hd' : Hid (∀ j, j < k + 1 → GlOk W (x.gs.getD j g3z)) := fun j hj => by
           rcases Nat.lt_or_ge j k with h | h
           · exact hdone.out j h
           · obtain rfl : j = k := by omega
             rw [HX.out]; exact ⟨hn, hw⟩
          clear hn
          go_wp2
          go_roundw
          case rel => exact ⟨k + 1, by omega, by go_num, hd', hA⟩
          case measure => simp [intOf]; omega
        · have HR : Hid (¬ RecOk W x) := fun h => hw (by have := (h.2 k hlt).2; rw [HX.out] at this; exact this)
          have hw' : ((y.ar.size : Int) != W) = true := by simpa using hw
          have hw2 : ((y.ar.size : Int) == W) = false := by simpa using hw
          clear hn
          go_wp2
          go_ret
          exact ⟨rb_no HR.out, hA⟩
    · have HR : Hid (RecOk W x) := ⟨HH.out, fun i hi => hdone.out i (by omega)⟩
      go_wp2
      go_ret
      exact ⟨rb_yes HR.out, hb⟩
 · have HR : Hid (¬ RecOk W x) := fun h' => h h'.1
   clear hat
   by_cases h1 : x.key.size ≤ 321
   · by_cases h2 : (x.out.size : Int) = W
     · have h3 : 15 < x.gs.length := by
        rcases Nat.lt_or_ge 15 x.gs.length with h3 | h3
        · exact h3
        · exact absurd ⟨h1, h2, h3⟩ h
       clear h
       go_enter Tryz.func81, Tryz.ntmps81
       go_wp2
       go_ret
       exact ⟨rb_no HR.out, hB0⟩
     · have h2' : ((x.out.size : Int) != W) = true := by simpa using h2
       have h2'' : ((x.out.size : Int) == W) = false := by simpa using h2
       clear h
       go_enter Tryz.func81, Tryz.ntmps81
       go_wp2
       go_ret
       exact ⟨rb_no HR.out, hB0⟩
   · clear h
     go_enter Tryz.func81, Tryz.ntmps81
     go_wp2
     go_ret
     exact ⟨rb_no HR.out, hB0⟩
set_option maxHeartbeats 2000000 in
theorem c56 (a : Option Addr) (cap : Nat) (is : List R3) (W : Int) (w : World) (hl : is.length ≤ 1048576) (hs : ∀ i, (is.getD i r3z).le 1048576) (hat : RecsAt w a is) :
 Calls Tryz.prog 56 #[.slice a is.length cap, .int .i64 W] w fun e w' => Rb (RecsOk W is) e ∧ Below w.heap.size w w' := by
 obtain ⟨b, off, hc⟩ := recs_some hat
 have HC : Hid (is = [] ∨ (a = some ⟨b, off, none⟩ ∧ b < w.heap.size ∧ ∀ i, i < is.length → RecAt w b (off + i * 3) (is.getD i r3z))) := hc
 have HS : Hid (∀ i, (is.getD i r3z).le 1048576) := hs
 clear hc hat hs
 by_cases hbig : 150 < is.length
 · have HR : Hid (¬ RecsOk W is) := fun h => by have := h.1; omega
   go_enter Tryz.func56, Tryz.ntmps56
   go_wp2
   go_ret
   exact ⟨rb_no HR.out, Below.refl _ _⟩
 · go_enter Tryz.func56, Tryz.ntmps56
   go_wp2_with fail
   go_loopw [12] (fun i wr => ∃ (k : Nat), k ≤ is.length ∧ i = .int .i64 k ∧ Hid (∀ j, j < k → RecOk W (is.getD j r3z)) ∧ Below w.heap.size w wr) (fun i _ => is.length - (intOf i).toNat)
   case atStart => exact ⟨0, Nat.zero_le _, rfl, fun j h => absurd h (Nat.not_lt_zero _), Below.refl _ _⟩
   case round =>
    obtain ⟨k, hk, rfl, hdone, hb⟩ := hrel
    by_cases hlt : k < is.length
    · rcases HC.out with hss | ⟨ha, hbw, hcell⟩
      · rw [hss] at hlt; exact absurd hlt (Nat.not_lt_zero _)
      subst ha
      have hzw : w.heap.size ≤ wr.heap.size := hb.size
      obtain ⟨ai, ci, e0, e1, e2, e3⟩ := (hcell k hlt).below hbw hb
      have hxs := HS.out k
      generalize hx : is.getD k r3z = x at *
      have HX : Hid (is.getD k r3z = x) := hx
      clear hx hcell
      have hAr : ∀ o, Below wr.heap.size wr (wr.alloc o) := fun o => (Below.refl _ _).alloc (Nat.le_refl _) _
      have h38 := fun o => c81 x ai ci W (wr.alloc o) hxs (gls_below e3 (hAr o))
      clear e3
      go_wp2_with fail
      refine (h38 _).mono ?_
      rintro e w1 ⟨⟨bb, rfl, hbb⟩, hb1⟩
      have hB1 : Below w.heap.size w w1 := hb.trans (((hAr _).trans (hb1.mono (by simp))).mono hb.size)
      clear h38
      cases bb
      · have HR : Hid (¬ RecsOk W is) := fun h => by have := hbb.2 (HX.out ▸ h.2 k hlt); cases this
        clear hbb
        go_wp2
        go_ret
        exact ⟨rb_no HR.out, hB1⟩
      · have hd' : Hid (∀ j, j < k + 1 → RecOk W (is.getD j r3z)) := fun j hj => by
         rcases Nat.lt_or_ge j k with h | h
         · exact hdone.out j h
         · obtain rfl : j = k := by omega
           rw [HX.out]; exact hbb.1 rfl
        clear hbb
        go_wp2
        go_roundw
        case rel => exact ⟨k + 1, by omega, by go_num, hd', hB1⟩
        case measure => simp [intOf]; omega
    · have HR : Hid (RecsOk W is) := ⟨by omega, fun i hi => hdone.out i (by omega)⟩
      go_wp2
      go_ret
      exact ⟨rb_yes HR.out, hb⟩
end Go.Proofs.YtkhlekmicpmpkaaGreatDoor
namespace Go.Proofs.YtkhlekmicpmpkaaGreatDoor
open Go.RowKit
set_option maxRecDepth 100000
theorem hidI {p : Prop} (h : p) : Hid p := h
theorem list_ne {s t : ByteArray} (h : ¬ s = t) : ¬ s.toList = t.toList := fun e => h (by
 apply ByteArray.ext
 rw [ByteArray.toList_eq, ByteArray.toList_eq] at e
 exact Array.toList_inj.1 e)
theorem getD_all {a b : List G3} (hn : a.length = b.length) (h : ∀ j, j < a.length → a.getD j g3z = b.getD j g3z) : a = b := by
 refine List.ext_getElem hn fun j h1 h2 => ?_
 have := h j h1
 simpa [List.getD, List.getElem?_eq_getElem h1, List.getElem?_eq_getElem h2] using this
set_option maxHeartbeats 2000000 in
theorem c28 (x y : R3) (ai bi : Option Addr) (ci di : Nat) (w : World) (hl : x.gs.length ≤ 1048576) (hl' : y.gs.length ≤ 1048576) (hat : GlsAt w ai x.gs) (hat' : GlsAt w bi y.gs) :
 Calls Tryz.prog 28 #[.agg #[.string x.key, .slice ai x.gs.length ci, .string x.out], .agg #[.string y.key, .slice bi y.gs.length di, .string y.out]] w fun e w' => Rb (x = y) e ∧ Below w.heap.size w w' := by
 obtain ⟨xk, xg, xo⟩ := x
 obtain ⟨yk, yg, yo⟩ := y
 simp only at hl hl' hat hat' ⊢
 obtain ⟨V, hV⟩ : ∃ V, V = ((w.alloc (.cells #[.string xk, .slice ai xg.length ci, .string xo] 67)).alloc (.cells #[.string yk, .slice bi yg.length di, .string yo] 67)) := ⟨_, rfl⟩
 have hB0 : Below w.heap.size w V := by rw [hV]; exact ((Below.refl _ _).alloc (Nat.le_refl _) _).alloc (by simp) _
 have hz : V.heap.size = w.heap.size + 2 := by rw [hV]; simp
 have a1 : V.cell? ⟨w.heap.size, 1, none⟩ = some (.slice ai xg.length ci) := by rw [hV]; simp [go_sem]
 have b1 : V.cell? ⟨w.heap.size + 1, 1, none⟩ = some (.slice bi yg.length di) := by rw [hV]; simp [go_sem]
 have hX := gls_below hat hB0
 have hY := gls_below hat' hB0
 have HV := hidI hV
 clear hV hat hat'
 by_cases hk : xk = yk
 · by_cases ho : xo = yo
   · by_cases hn : xg.length = yg.length
     · rw [← hn]
       rw [← hn] at b1
       subst hk
       subst ho
       rw [← hn] at HV
       have HNn := hidI hn
       clear hn
       obtain ⟨b, off, hc⟩ := gls_some hX
       obtain ⟨b', off', hc'⟩ := gls_some hY
       have HC := hidI hc
       have HC' := hidI hc'
       clear hc hc' hX hY
       go_enter Tryz.func28, Tryz.ntmps28
       go_wp2_with fail
       rw [← HV.out]
       clear HV
       go_loopw [5] (fun i wr => ∃ (k : Nat), k ≤ xg.length ∧ i = .int .i64 k ∧ Hid (∀ j, j < k → xg.getD j g3z = yg.getD j g3z) ∧ Below V.heap.size V wr) (fun i _ => xg.length - (intOf i).toNat)
       case atStart => exact ⟨0, Nat.zero_le _, rfl, fun j h => absurd h (Nat.not_lt_zero _), Below.refl _ _⟩
       case round =>
        obtain ⟨k, hk2, rfl, hd, hb⟩ := hrel
        have hB1 := hB0.trans (hb.mono hB0.size)
        have e1 := (hb.cell (p := ⟨w.heap.size, 1, none⟩) (show w.heap.size < V.heap.size by omega)).trans a1
        have e2 := (hb.cell (p := ⟨w.heap.size + 1, 1, none⟩) (show w.heap.size + 1 < V.heap.size by omega)).trans b1
        by_cases hlt : k < xg.length
        · rcases HC.out with hss | ⟨ha, hbw, hcell⟩
          · rw [hss] at hlt; exact absurd hlt (Nat.not_lt_zero _)
          rcases HC'.out with hss | ⟨ha', hbw', hcell'⟩
          · have hn := HNn.out; rw [hss] at hn; rw [hn] at hlt; exact absurd hlt (Nat.not_lt_zero _)
          subst ha
          subst ha'
          have g0 := (hb.cell (p := ⟨b, off + k * 3, none⟩) hbw).trans (hcell k hlt).1
          have g1 := (hb.cell (p := ⟨b, off + k * 3 + 1, none⟩) hbw).trans (hcell k hlt).2.1
          have g2 := (hb.cell (p := ⟨b, off + k * 3 + 2, none⟩) hbw).trans (hcell k hlt).2.2
          have g0' := (hb.cell (p := ⟨b', off' + k * 3, none⟩) hbw').trans (hcell' k (by have := HNn.out; omega)).1
          have g1' := (hb.cell (p := ⟨b', off' + k * 3 + 1, none⟩) hbw').trans (hcell' k (by have := HNn.out; omega)).2.1
          have g2' := (hb.cell (p := ⟨b', off' + k * 3 + 2, none⟩) hbw').trans (hcell' k (by have := HNn.out; omega)).2.2
          clear hcell hcell'
          by_cases hg : xg.getD k g3z = yg.getD k g3z
          · have HD : Hid (∀ j, j < k + 1 → xg.getD j g3z = yg.getD j g3z) := fun j hj => by
             rcases Nat.lt_or_ge j k with h | h
             · exact hd.out j h
             · obtain rfl : j = k := by omega
               exact hg
            rw [← hg] at g0' g1' g2'
            generalize xg.getD k g3z = X at *
            clear hg hd
            go_wp2_with fail
            go_region
            all_goals go_wp2
            all_goals go_roundw
            all_goals first
             | exact ⟨k + 1, by omega, by go_num, HD, hb.drew⟩
             | (simp [intOf]; omega)
          · have HN : Hid (¬ R3.mk xk xg xo = R3.mk xk yg xo) := fun h => hg (by injection h with _ h2; rw [h2])
            generalize xg.getD k g3z = X at *
            generalize yg.getD k g3z = Y at *
            obtain ⟨n1, t1, r1⟩ := X
            obtain ⟨n2, t2, r2⟩ := Y
            by_cases q1 : n1 = n2
            · subst q1
              by_cases q2 : t1 = t2
              · subst q2
                have q3 : ¬ r1 = r2 := fun h => hg (by rw [h])
                have q3' := list_ne q3
                clear hg
                go_wp2_with fail
                go_region
                all_goals go_wp2
                all_goals go_ret
                all_goals exact ⟨rb_no HN.out, hB1.drew⟩
              · have q2' := list_ne q2
                clear hg
                go_wp2_with fail
                go_region
                all_goals go_wp2
                all_goals go_ret
                all_goals exact ⟨rb_no HN.out, hB1.drew⟩
            · have q1' : (n1 == n2) = false := by simpa using q1
              clear hg
              go_wp2_with fail
              go_region
              all_goals go_wp2
              all_goals go_ret
              all_goals exact ⟨rb_no HN.out, hB1.drew⟩
        · obtain rfl : k = xg.length := by omega
          have HY : Hid (R3.mk xk xg xo = R3.mk xk yg xo) := by
           show R3.mk _ _ _ = R3.mk _ _ _
           rw [getD_all HNn.out hd.out]
          go_wp2
          go_ret
          exact ⟨rb_yes HY.out, hB1⟩
     · have HN : Hid (¬ R3.mk xk xg xo = R3.mk yk yg yo) := fun h => hn (by injection h with _ h2; rw [h2])
       subst hk
       subst ho
       have hn1 : ¬ (xg.length : Int) = yg.length := by omega
       go_enter Tryz.func28, Tryz.ntmps28
       go_wp2_with fail
       rw [← HV.out]
       go_ret
       exact ⟨rb_no HN.out, hB0⟩
   · have HN : Hid (¬ R3.mk xk xg xo = R3.mk yk yg yo) := fun h => ho (by injection h)
     subst hk
     have ho1 := list_ne ho
     go_enter Tryz.func28, Tryz.ntmps28
     go_wp2
     go_ret
     rw [← HV.out]
     exact ⟨rb_no HN.out, hB0⟩
 · have HN : Hid (¬ R3.mk xk xg xo = R3.mk yk yg yo) := fun h => hk (by injection h)
   have hk1 := list_ne hk
   go_enter Tryz.func28, Tryz.ntmps28
   go_wp2
   go_ret
   rw [← HV.out]
   exact ⟨rb_no HN.out, hB0⟩
end Go.Proofs.YtkhlekmicpmpkaaGreatDoor
namespace Go.Proofs.YtkhlekmicpmpkaaGreatDoor
open Go.RowKit
set_option maxRecDepth 100000
set_option maxHeartbeats 1000000 in
theorem c148 (c : Int) (w : World) (hc : c = 0 ∨ c = 1 ∨ c = 2 ∨ c = 3 ∨ c = 4 ∨ c = 5 ∨ c = 7) :
 Calls Tryz.prog 148 #[.int .i64 c] w fun e w' => e = .returned (.string (ofL [UInt8.ofNat (48 + c).toNat])) ∧ w' = w := by
 rcases hc with rfl | rfl | rfl | rfl | rfl | rfl | rfl
 all_goals
  go_enter Tryz.func148, Tryz.ntmps148
  go_wp2
  go_ret
  exact ⟨rfl, rfl⟩
set_option maxHeartbeats 1000000 in
theorem c125 (c : Int) (w : World) (hc : c = 0 ∨ c = 1 ∨ c = 2 ∨ c = 3 ∨ c = 4 ∨ c = 5 ∨ c = 7) :
 Calls Tryz.prog 125 #[.int .i64 c, .int .i64 10] w fun e w' => e = .returned (.string (ofL [UInt8.ofNat (48 + c).toNat])) ∧ w' = w := by
 have h1 : 0 ≤ c := by omega
 have h2 : c < 100 := by omega
 have H := c148 c w hc
 clear hc
 go_enter Tryz.func125, Tryz.ntmps125
 go_wp2_with (go_at_call 148; refine H.mono ?_; rintro e w' ⟨rfl, rfl⟩)
 go_ret
 exact ⟨rfl, rfl⟩
set_option maxHeartbeats 1000000 in
theorem c115 (c : Int) (w : World) (hc : c = 0 ∨ c = 1 ∨ c = 2 ∨ c = 3 ∨ c = 4 ∨ c = 5 ∨ c = 7) :
 Calls Tryz.prog 115 #[.int .i64 c] w fun e w' => e = .returned (.string (ofL [UInt8.ofNat (48 + c).toNat])) ∧ w' = w := by
 have H := c125 c w hc
 go_enter Tryz.func115, Tryz.ntmps115
 go_wp2_with (go_at_call 125; refine H.mono ?_; rintro e w' ⟨rfl, rfl⟩)
 go_ret
 exact ⟨rfl, rfl⟩
set_option maxHeartbeats 1000000 in
theorem c104 (c : Int) (w : World) (hc : c = 0 ∨ c = 1 ∨ c = 2 ∨ c = 3 ∨ c = 4 ∨ c = 5 ∨ c = 7) :
 Calls Tryz.prog 104 #[.int .i64 c] w fun e w' => e = .returned (.string (ofL [UInt8.ofNat (48 + c).toNat])) ∧ w' = w := by
 have H := c115 c w hc
 go_enter Tryz.func104, Tryz.ntmps104
 go_wp2_with (go_at_call 115; refine H.mono ?_; rintro e w' ⟨rfl, rfl⟩)
 go_ret
 exact ⟨rfl, rfl⟩
set_option maxHeartbeats 1000000 in
theorem c88 (c : Int) (s : ByteArray) (w : World) (hs : s.size ≤ 1048700) :
 Calls Tryz.prog 88 #[.agg #[.int .i64 c, .string s]] w fun e w' => e = .returned (.string (ofL (formR c s.data.toList))) ∧ Below w.heap.size w w' := by
 go_enter Tryz.func88, Tryz.ntmps88
 go_wp2_with fail
 refine (c62 _ _ _ hs).mono ?_
 rintro e w1 ⟨rfl, hb1⟩
 have hB1 := ((Below.refl w.heap.size w).alloc (Nat.le_refl _) (.cells #[.int .i64 c, .string s] 45)).trans (hb1.mono (by simp))
 have g10 : w1.cell? ⟨w.heap.size, 0, none⟩ = some (.int .i64 c) := by rw [hb1.cell (by simp)]; simp
 have g11 : w1.cell? ⟨w.heap.size, 1, none⟩ = some (.string s) := by rw [hb1.cell (by simp)]; simp
 cases hv : vr c s.data.toList
 · have hF := form_no hv
   go_wp2
   go_ret
   exact ⟨hF, hB1⟩
 · have hc := vr_code hv
   have hF : Hid (ofL (formR c s.data.toList) = ofL [UInt8.ofNat (48 + c).toNat] ++ ⟨#[58]⟩ ++ s) := form_yes hv
   have hz : (ofL [UInt8.ofNat (48 + c).toNat]).size = 1 := rfl
   clear hv
   go_wp2_with fail
   go_region_with (go_at_call 104; refine (c104 _ _ hc).mono ?_; rintro e w' ⟨rfl, rfl⟩)
   all_goals go_wp2
   all_goals go_ret
   all_goals exact ⟨by rw [hF.out]; rfl, by first | exact hB1 | exact hB1.drew⟩
end Go.Proofs.YtkhlekmicpmpkaaGreatDoor
