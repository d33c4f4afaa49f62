import Derived.Test.YtboojefodbjbcaaGreatDoorZR21
namespace Go.Proofs.YtboojefodbjbcaaGreatDoor
open Go.RowKit
set_option maxRecDepth 100000
structure R3 where
 key : ByteArray
 gs : List G3
 out : ByteArray
def r3z : R3 := ⟨⟨#[]⟩, [], ⟨#[]⟩⟩
def R3.le (x : R3) (B : Nat) : Prop := x.key.size ≤ B ∧ x.gs.length ≤ B ∧ (∀ i, (x.gs.getD i g3z).le B) ∧ x.out.size ≤ B
def RecAt (w : World) (b o : Nat) (x : R3) : Prop := ∃ ai ci, w.cell? ⟨b, o, none⟩ = some (.string x.key) ∧ w.cell? ⟨b, o + 1, none⟩ = some (.slice ai x.gs.length ci) ∧ w.cell? ⟨b, o + 2, none⟩ = some (.string x.out) ∧ GlsAt w ai x.gs
def RecsAt (w : World) (a : Option Addr) (is : List R3) : Prop := is = [] ∨ ∃ b off, a = some ⟨b, off, none⟩ ∧ b < w.heap.size ∧ ∀ i, i < is.length → RecAt w b (off + i * 3) (is.getD i r3z)
theorem RecAt.below {w w' : World} {b o : Nat} {x : R3} (h : RecAt w b o x) (hlt : b < w.heap.size) (hb : Below w.heap.size w w') : RecAt w' b o x := by
 obtain ⟨ai, ci, h0, h1, h2, h3⟩ := h
 exact ⟨ai, ci, (hb.cell (by exact hlt)).trans h0, (hb.cell (by exact hlt)).trans h1, (hb.cell (by exact hlt)).trans h2, gls_below h3 hb⟩
theorem recs_some {w : World} {a : Option Addr} {is : List R3} (h : RecsAt w a is) : ∃ b off, (is = [] ∨ (a = some ⟨b, off, none⟩ ∧ b < w.heap.size ∧ ∀ i, i < is.length → RecAt w b (off + i * 3) (is.getD i r3z))) := by
 rcases h with h | ⟨b, off, h⟩
 · exact ⟨0, 0, .inl h⟩
 · exact ⟨b, off, .inr h⟩
theorem recs_below {w w' : World} {a : Option Addr} {is : List R3} (h : RecsAt w a is) (hb : Below w.heap.size w w') : RecsAt w' a is := by
 rcases h with h | ⟨b, off, h1, h2, h3⟩
 · exact .inl h
 · exact .inr ⟨b, off, h1, Nat.lt_of_lt_of_le h2 hb.size, fun i hi => (h3 i hi).below h2 hb⟩
theorem getD_smallR {is : List R3} {B : Nat} (h : ∀ i, i < is.length → (is.getD i r3z).le B) (i : Nat) : (is.getD i r3z).le B := by
 rcases Nat.lt_or_ge i is.length with h' | h'
 · exact h i h'
 · have e : is.getD i r3z = r3z := by simp [List.getD, List.getElem?_eq_none h']
   rw [e]; exact ⟨Nat.zero_le _, Nat.zero_le _, fun i => ⟨Nat.zero_le _, Nat.zero_le _⟩, Nat.zero_le _⟩
def gsum (is : List R3) : Nat := (is.map fun x => x.gs.length).sum
theorem gsum_next {is : List R3} {k : Nat} (h : k < is.length) : gsum (is.take (k + 1)) = gsum (is.take k) + (is.getD k r3z).gs.length := by
 unfold gsum
 rw [List.take_add_one, List.map_append, List.sum_append]
 simp [List.getD, List.getElem?_eq_getElem h]
set_option maxHeartbeats 1000000 in
theorem c61 (x : R3) (ai : Option Addr) (ci : Nat) (l : Int) (w : World) (hs : x.le 9223372036854775807) (h0 : 0 ≤ l) (h1 : l ≤ 1048576) (hat : GlsAt w ai x.gs) :
 Calls Tryz.prog 61 #[.agg #[.string x.key, .slice ai x.gs.length ci, .string x.out], .int .i64 l] w fun e w' => (∃ r : Int, e = .returned (.int .i64 r) ∧ (0 ≤ r → x.le 1048576 ∧ r ≤ l - x.gs.length)) ∧ Below w.heap.size w w' := by
 obtain ⟨s1, s2, s3, s4⟩ := hs
 have hB0 : Below w.heap.size w (w.alloc (.cells #[.string x.key, .slice ai x.gs.length ci, .string x.out] 119)) := (Below.refl _ _).alloc (Nat.le_refl _) _
 by_cases h : l < x.key.size
 · go_enter Tryz.func61, Tryz.ntmps61
   go_wp2
   go_ret
   exact ⟨⟨-1, rfl, fun h => by omega⟩, hB0⟩
 · have h42 := c102 ai ci x.gs (l - x.key.size) _ (by omega) (by omega) s3 s2 (gls_below hat hB0)
   go_enter Tryz.func61, Tryz.ntmps61
   go_wp2_with fail
   refine h42.mono ?_
   rintro e w1 ⟨⟨r1, rfl, hr⟩, hb1⟩
   have hB1 : Below w.heap.size w w1 := hB0.trans (hb1.mono (by simp))
   have g2 : w1.cell? ⟨w.heap.size, 2, none⟩ = some (.string x.out) := by rw [hb1.cell (by simp)]; simp
   clear h42 hat
   by_cases hneg : r1 < 0
   · clear hr
     go_wp2
     go_ret
     exact ⟨⟨-1, rfl, fun h => by omega⟩, hB1⟩
   · obtain ⟨q1, q2, q3⟩ := hr (by omega)
     have HQ : Hid (∀ i, (x.gs.getD i g3z).le 1048576) := q2
     clear hr q2 s3
     by_cases ho : r1 < x.out.size
     · go_wp2
       go_ret
       exact ⟨⟨-1, rfl, fun h => by omega⟩, hB1⟩
     · go_wp2
       go_ret
       exact ⟨⟨_, rfl, fun h => ⟨⟨by omega, q1, HQ.out, by omega⟩, by omega⟩⟩, hB1⟩
set_option maxHeartbeats 1000000 in
theorem c25 (a : Option Addr) (cap : Nat) (is : List R3) (l : Int) (w : World) (h0 : 0 ≤ l) (h1 : l ≤ 1048576) (hs : ∀ i, (is.getD i r3z).le 9223372036854775807) (hl : is.length ≤ 9223372036854775807) (hat : RecsAt w a is) :
 Calls Tryz.prog 25 #[.slice a is.length cap, .int .i64 l] w fun e w' => (∃ r : Int, e = .returned (.int .i64 r) ∧ (0 ≤ r → is.length ≤ 1048576 ∧ (∀ i, (is.getD i r3z).le 1048576) ∧ r ≤ l - is.length - gsum is)) ∧ Below w.heap.size w w' := by
 obtain ⟨b, off, hc⟩ := recs_some hat
 have HC : Hid (is = [] ∨ (a = some ⟨b, off, none⟩ ∧ b < w.heap.size ∧ ∀ i, i < is.length → RecAt w b (off + i * 3) (is.getD i r3z))) := hc
 have HS : Hid (∀ i, (is.getD i r3z).le 9223372036854775807) := hs
 clear hc hat hs
 by_cases hbig : l < is.length
 · go_enter Tryz.func25, Tryz.ntmps25
   go_wp2
   go_ret
   exact ⟨⟨-1, rfl, fun h => by omega⟩, Below.refl _ _⟩
 · go_enter Tryz.func25, Tryz.ntmps25
   go_wp2_with fail
   go_loopw [1, 5] (fun l' i wr => ∃ (k : Nat) (r : Int), k ≤ is.length ∧ i = .int .i64 k ∧ l' = .int .i64 r ∧ 0 ≤ r ∧ r ≤ l - is.length - gsum (is.take k) ∧ Hid (∀ i, i < k → (is.getD i r3z).le 1048576) ∧ Below w.heap.size w wr) (fun _ i _ => is.length - (intOf i).toNat)
   case atStart => exact ⟨0, _, Nat.zero_le _, rfl, rfl, by omega, by simp [gsum], fun i h => absurd h (Nat.not_lt_zero _), Below.refl _ _⟩
   case round =>
    obtain ⟨k, r, hk, rfl, rfl, hr0, hr1, hsm, hb⟩ := hrel
    by_cases hlt : k < is.length
    · rcases HC.out with hss | ⟨ha, hbw, hcell⟩
      · rw [hss] at hlt; exact absurd hlt (Nat.not_lt_zero _)
      subst ha
      obtain ⟨ai, ci, e0, e1, e2, e3⟩ := (hcell k hlt).below hbw hb
      have hxs := HS.out k
      have hgs := gsum_next hlt
      generalize hx : is.getD k r3z = x at *
      have HX : Hid (is.getD k r3z = x) := hx
      clear hx hcell
      go_wp2_with fail
      refine (c61 x ai ci r wr hxs hr0 (by omega) e3).mono ?_
      rintro e w1 ⟨⟨r1, rfl, hr⟩, hb1⟩
      have hB1 : Below w.heap.size w w1 := hb.trans (hb1.mono hb.size)
      by_cases hneg : r1 < 0
      · clear hr
        go_wp2
        go_ret
        exact ⟨⟨-1, rfl, fun h => by omega⟩, hB1⟩
      · have hr' := hr (by omega)
        have hsm' : Hid (∀ i, i < k + 1 → (is.getD i r3z).le 1048576) := by
         intro i h
         rcases Nat.lt_or_ge i k with h1 | h1
         · exact hsm.out i h1
         · obtain rfl : i = k := by omega
           rw [HX.out]; exact hr'.1
        have hr2 := hr'.2
        clear hr hr'
        go_wp2
        go_roundw
        case rel => exact ⟨k + 1, _, by omega, by go_num, rfl, by omega, by omega, hsm', hB1⟩
        case measure => simp [intOf]; omega
    · have hsm' : Hid (∀ i, (is.getD i r3z).le 1048576) := getD_smallR (fun i h => hsm.out i (by omega))
      go_wp2
      go_ret
      exact ⟨⟨r, rfl, fun _ => ⟨by omega, hsm'.out, by rw [List.take_of_length_le (by omega)] at hr1; exact hr1⟩⟩, hb⟩
set_option maxHeartbeats 1000000 in
theorem c98 (x : R3) (ai bi : Option Addr) (ci di : Nat) (w : World) (hl : x.gs.length ≤ 1048576) (hat : GlsAt w ai x.gs) (hat' : GlsAt w bi x.gs) :
 Calls Tryz.prog 98 #[.agg #[.string x.key, .slice ai x.gs.length ci, .string x.out], .agg #[.string x.key, .slice bi x.gs.length di, .string x.out]] w fun e w' => e = .returned (.bool true) ∧ Below w.heap.size w w' := by
 have hB0 : Below w.heap.size w ((w.alloc (.cells #[.string x.key, .slice ai x.gs.length ci, .string x.out] 82)).alloc (.cells #[.string x.key, .slice bi x.gs.length di, .string x.out] 82)) := ((Below.refl _ _).alloc (Nat.le_refl _) _).alloc (by simp) _
 have h45 := c119 ai bi ci di x.gs _ hl (gls_below hat hB0) (gls_below hat' hB0)
 go_enter Tryz.func98, Tryz.ntmps98
 go_wp2_with fail
 refine h45.mono ?_
 rintro e w1 ⟨rfl, hb1⟩
 have hB1 : Below w.heap.size w w1 := hB0.trans (hb1.mono (by simp; omega))
 have g2 : w1.cell? ⟨w.heap.size, 2, none⟩ = some (.string x.out) := by rw [hb1.cell (by simp; omega)]; simp [go_sem]
 have g3 : w1.cell? ⟨w.heap.size + 1, 2, none⟩ = some (.string x.out) := by rw [hb1.cell (by simp)]; simp [go_sem]
 clear h45 hat hat'
 go_wp2
 go_ret
 exact ⟨rfl, hB1⟩
set_option maxHeartbeats 1000000 in
theorem c54 (a a' : Option Addr) (cap cap' : Nat) (is : List R3) (w : World) (hl : is.length ≤ 1048576) (hs : ∀ i, (is.getD i r3z).le 1048576) (hat : RecsAt w a is) (hat' : RecsAt w a' is) :
 Calls Tryz.prog 54 #[.slice a is.length cap, .slice a' is.length cap'] w fun e w' => e = .returned (.bool true) ∧ Below w.heap.size w w' := by
 obtain ⟨b, off, hc⟩ := recs_some hat
 have HC : Hid (is = [] ∨ (a = some ⟨b, off, none⟩ ∧ b < w.heap.size ∧ ∀ i, i < is.length → RecAt w b (off + i * 3) (is.getD i r3z))) := hc
 obtain ⟨b', off', hc'⟩ := recs_some hat'
 have HC' : Hid (is = [] ∨ (a' = some ⟨b', off', none⟩ ∧ b' < w.heap.size ∧ ∀ i, i < is.length → RecAt w b' (off' + i * 3) (is.getD i r3z))) := hc'
 have HS : Hid (∀ i, (is.getD i r3z).le 1048576) := hs
 clear hc hat hc' hat' hs
 go_enter Tryz.func54, Tryz.ntmps54
 go_wp2_with fail
 go_loopw [5] (fun i wr => ∃ (k : Nat), k ≤ is.length ∧ i = .int .i64 k ∧ Below w.heap.size w wr) (fun i _ => is.length - (intOf i).toNat)
 case atStart => exact ⟨0, Nat.zero_le _, rfl, Below.refl _ _⟩
 case round =>
  obtain ⟨k, hk, rfl, hb⟩ := hrel
  by_cases hlt : k < is.length
  · rcases HC.out with hss | ⟨ha, hbw, hcell⟩
    · rw [hss] at hlt; exact absurd hlt (Nat.not_lt_zero _)
    rcases HC'.out with hss | ⟨ha', hbw', hcell'⟩
    · rw [hss] at hlt; exact absurd hlt (Nat.not_lt_zero _)
    subst ha
    subst ha'
    obtain ⟨ai, ci, e0, e1, e2, e3⟩ := (hcell k hlt).below hbw hb
    obtain ⟨bi, di, f0, f1, f2, f3⟩ := (hcell' k hlt).below hbw' hb
    have hxl := (HS.out k).2.1
    generalize is.getD k r3z = x at *
    have HE : Hid (GlsAt wr ai x.gs) := e3
    have HF : Hid (GlsAt wr bi x.gs) := f3
    clear hcell hcell' e3 f3
    go_wp2_with fail
    go_region_with (go_at_call 98; refine (c98 x ai bi ci di _ hxl (gls_below HE.out (Below.refl _ _).drew) (gls_below HF.out (Below.refl _ _).drew)).mono ?_; rintro e w1 ⟨rfl, hb1⟩)
    all_goals go_wp2
    all_goals go_roundw
    all_goals first
     | exact ⟨k + 1, by omega, by go_num, (hb.drew).trans (hb1.mono hb.size)⟩
     | (simp [intOf]; omega)
  · go_wp2
    go_ret
    exact ⟨rfl, hb⟩
end Go.Proofs.YtboojefodbjbcaaGreatDoor
namespace Go.Proofs.YtboojefodbjbcaaGreatDoor
open Go.RowKit
set_option maxRecDepth 100000
def NewRec (L : Nat) (w : World) (b o : Nat) (x : R3) : Prop := ∃ gi, L ≤ gi ∧ w.cell? ⟨b, o, none⟩ = some (.string x.key) ∧ w.cell? ⟨b, o + 1, none⟩ = some (.slice (some ⟨gi, 0, none⟩) x.gs.length x.gs.length) ∧ w.cell? ⟨b, o + 2, none⟩ = some (.string x.out) ∧ GlsAt w (some ⟨gi, 0, none⟩) x.gs
def RecsNew (w : World) (g : Nat) (is : List R3) : Prop := g < w.heap.size ∧ ∀ i, i < is.length → NewRec (g + 1) w g (i * 3) (is.getD i r3z)
theorem toR_cells {w w1 : World} {k o : ByteArray} {v : Value} (hb : Below (w.heap.size + 3) (((w.alloc (.cells #[.string k, v, .string o] 119)).alloc (.cells #[.string ⟨#[]⟩, .slice none 0 0, .string ⟨#[]⟩] 82)).alloc (.cells #[.string k, .slice none 0 0, .string ⟨#[]⟩] 82)) w1) :
 (w1.cell? ⟨w.heap.size, 2, none⟩ = some (.string o) ∧ w1.cell? ⟨w.heap.size + 1, 0, none⟩ = some (.string ⟨#[]⟩) ∧ w1.cell? ⟨w.heap.size + 1, 1, none⟩ = some (.slice none 0 0) ∧ w1.cell? ⟨w.heap.size + 1, 2, none⟩ = some (.string ⟨#[]⟩)) ∧ (w1.cell? ⟨w.heap.size + 1 + 1, 0, none⟩ = some (.string k) ∧ w1.cell? ⟨w.heap.size + 1 + 1, 1, none⟩ = some (.slice none 0 0) ∧ w1.cell? ⟨w.heap.size + 1 + 1, 2, none⟩ = some (.string ⟨#[]⟩)) ∧ (∀ j, w1.frozen? ⟨w.heap.size + 1, j, none⟩ = false) ∧ ∀ j, w1.frozen? ⟨w.heap.size + 1 + 1, j, none⟩ = false := by
 have c : ∀ b j, b < w.heap.size + 3 → w1.cell? ⟨b, j, none⟩ = (((w.alloc (.cells #[.string k, v, .string o] 119)).alloc (.cells #[.string ⟨#[]⟩, .slice none 0 0, .string ⟨#[]⟩] 82)).alloc (.cells #[.string k, .slice none 0 0, .string ⟨#[]⟩] 82)).cell? ⟨b, j, none⟩ := fun b j h => hb.cell (by exact h)
 have f : ∀ b j, b < w.heap.size + 3 → w1.frozen? ⟨b, j, none⟩ = (((w.alloc (.cells #[.string k, v, .string o] 119)).alloc (.cells #[.string ⟨#[]⟩, .slice none 0 0, .string ⟨#[]⟩] 82)).alloc (.cells #[.string k, .slice none 0 0, .string ⟨#[]⟩] 82)).frozen? ⟨b, j, none⟩ := fun b j h => hb.frozen (by exact h)
 refine ⟨⟨?_, ?_, ?_, ?_⟩, ⟨?_, ?_, ?_⟩, fun j => ?_, fun j => ?_⟩
 all_goals first
  | (rw [c _ _ (by omega)]; simp [go_sem]; done)
  | (rw [f _ _ (by omega)]; simp [go_sem])
theorem info82 : (Tryz.prog.info? 82).map (fun i => (i.zero, i.size, i.bytes)) = some (some (.agg #[.string ⟨#[]⟩, .slice none 0 0, .string ⟨#[]⟩]), 3, 56) := by kernel_rfl
theorem madeR (n j : Nat) (h : j < n * 3) : (madeCells #[Value.string ⟨#[]⟩, .slice none 0 0, .string ⟨#[]⟩] (n * 3))[j]? = (#[Value.string ⟨#[]⟩, .slice none 0 0, .string ⟨#[]⟩] : Array Value)[j % 3]? := by
 have h3 : j % 3 < 3 := Nat.mod_lt _ (by omega)
 rw [Array.getElem?_eq_getElem (by simpa [size_madeCells] using h), Array.getElem?_eq_getElem (by simpa using h3)]
 simp [madeCells, h3]
end Go.Proofs.YtboojefodbjbcaaGreatDoor
namespace Go.Proofs.YtboojefodbjbcaaGreatDoor
open Go.RowKit
set_option maxRecDepth 100000
structure St where
 wd : Int
 ts : List ByteArray
 rs : List R3
def St.le (s : St) (B : Nat) : Prop := (s.ts.length ≤ B ∧ ∀ i, (s.ts.getD i ByteArray.empty).size ≤ B) ∧ s.rs.length ≤ B ∧ ∀ i, (s.rs.getD i r3z).le B
def StAt (w : World) (ta ra : Option Addr) (s : St) : Prop := StrsAt w ta s.ts ∧ RecsAt w ra s.rs
theorem StAt.below {w w' : World} {ta ra : Option Addr} {s : St} (h : StAt w ta ra s) (hb : Below w.heap.size w w') : StAt w' ta ra s := ⟨strs_below h.1 hb, recs_below h.2 hb⟩
set_option maxHeartbeats 1000000 in
theorem c4 (ta ra : Option Addr) (tc rc : Nat) (s : St) (w : World) (hs : s.le 9223372036854775807) (hat : StAt w ta ra s) :
 Calls Tryz.prog 4 #[.agg #[.int .i64 s.wd, .slice ta s.ts.length tc, .slice ra s.rs.length rc], .int .i64 1048576] w fun e w' => (∃ r : Int, e = .returned (.int .i64 r) ∧ (0 ≤ r → (s.le 1048576 ∧ s.ts.length + s.rs.length + gsum s.rs ≤ 1048576) ∧ r ≤ 1048576)) ∧ Below w.heap.size w w' := by
 obtain ⟨⟨h1, h2⟩, h3, h4⟩ := hs
 have hB0 : Below w.heap.size w (w.alloc (.cells #[.int .i64 s.wd, .slice ta s.ts.length tc, .slice ra s.rs.length rc] 25)) := (Below.refl _ _).alloc (Nat.le_refl _) _
 have HAT := (Hid.out (show Hid (StAt _ ta ra s) from hat.below hB0))
 have h17 := c24 ta tc s.ts _ h2 h1 HAT.1
 have H4 : Hid (∀ i, (s.rs.getD i r3z).le 9223372036854775807) := h4
 have HR : Hid (RecsAt (w.alloc (.cells #[.int .i64 s.wd, .slice ta s.ts.length tc, .slice ra s.rs.length rc] 25)) ra s.rs) := HAT.2
 clear hat HAT h4 h2
 go_enter Tryz.func4, Tryz.ntmps4
 go_wp2_with fail
 refine h17.mono ?_
 rintro e w1 ⟨⟨r1, rfl, hr⟩, hw⟩
 obtain rfl := hw
 clear h17
 by_cases hneg : r1 < 0
 · clear hr
   go_wp2
   go_ret
   exact ⟨⟨-1, rfl, fun h => by omega⟩, hB0⟩
 · obtain ⟨q1, q2, q3⟩ := hr (by omega)
   have HQ : Hid (∀ i, (s.ts.getD i ByteArray.empty).size ≤ 1048576) := q2
   clear hr q2
   have h18 := c25 ra rc s.rs r1 _ (by omega) (by omega) H4.out h3 HR.out
   go_wp2_with fail
   refine h18.mono ?_
   rintro e w2 ⟨⟨r2, rfl, hr⟩, hb2⟩
   have hB2 : Below w.heap.size w w2 := hB0.trans (hb2.mono (by simp))
   have HR2 : Hid (0 ≤ r2 → s.rs.length ≤ 1048576 ∧ (∀ i, (s.rs.getD i r3z).le 1048576) ∧ r2 ≤ r1 - s.rs.length - gsum s.rs) := hr
   clear h18 hr
   by_cases hneg : r2 < 0
   · go_wp2
     go_ret
     exact ⟨⟨-1, rfl, fun h => by omega⟩, hB2⟩
   · have hr2 := (HR2.out (by omega)).2.2
     go_wp2
     go_ret
     exact ⟨⟨_, rfl, fun h => ⟨⟨⟨⟨q1, HQ.out⟩, (HR2.out h).1, (HR2.out h).2.1⟩, by omega⟩, by omega⟩⟩, hB2⟩
set_option maxHeartbeats 1000000 in
theorem c16 (ta ra ta' ra' : Option Addr) (tc rc tc' rc' : Nat) (s : St) (w : World) (hs : s.le 1048576) (hat : StAt w ta ra s) (hat' : StAt w ta' ra' s) :
 Calls Tryz.prog 16 #[.agg #[.int .i64 s.wd, .slice ta s.ts.length tc, .slice ra s.rs.length rc], .agg #[.int .i64 s.wd, .slice ta' s.ts.length tc', .slice ra' s.rs.length rc']] w fun e w' => e = .returned (.bool true) ∧ Below w.heap.size w w' := by
 have HS : Hid (s.le 1048576) := hs
 have HA : Hid (StAt w ta ra s) := hat
 have HA' : Hid (StAt w ta' ra' s) := hat'
 have hB0 : Below w.heap.size w ((w.alloc (.cells #[.int .i64 s.wd, .slice ta s.ts.length tc, .slice ra s.rs.length rc] 45)).alloc (.cells #[.int .i64 s.wd, .slice ta' s.ts.length tc', .slice ra' s.rs.length rc'] 45)) := ((Below.refl _ _).alloc (Nat.le_refl _) _).alloc (by simp) _
 have h27 := c53 ta ta' tc tc' s.ts _ hs.1.1 (strs_below hat.1 hB0) (strs_below hat'.1 hB0)
 clear hs hat hat'
 go_enter Tryz.func16, Tryz.ntmps16
 go_wp2_with fail
 refine h27.mono ?_
 rintro e w1 ⟨rfl, hb1⟩
 have hB1 : Below w.heap.size w w1 := hB0.trans (hb1.mono (by simp; omega))
 have g2 : w1.cell? ⟨w.heap.size, 2, none⟩ = some (.slice ra s.rs.length rc) := by rw [hb1.cell (by simp; omega)]; simp [go_sem]
 have g3 : w1.cell? ⟨w.heap.size + 1, 2, none⟩ = some (.slice ra' s.rs.length rc') := by rw [hb1.cell (by simp)]; simp [go_sem]
 have h28 := c54 ra ra' rc rc' s.rs w1 HS.out.2.1 HS.out.2.2 (recs_below HA.out.2 hB1) (recs_below HA'.out.2 hB1)
 clear h27
 go_wp2_with fail
 refine h28.mono ?_
 rintro e w2 ⟨rfl, hb2⟩
 have hB2 : Below w.heap.size w w2 := hB1.trans (hb2.mono hB1.size)
 clear h28
 go_wp2
 go_ret
 exact ⟨rfl, hB2⟩
theorem toS_cells {w w1 : World} {k : Int} {v u : Value} (hb : Below (w.heap.size + 3) (((w.alloc (.cells #[.int .i64 k, v, u] 25)).alloc (.cells #[.int .i64 0, .slice none 0 0, .slice none 0 0] 45)).alloc (.cells #[.int .i64 k, .slice none 0 0, .slice none 0 0] 45)) w1) :
 (w1.cell? ⟨w.heap.size, 2, none⟩ = some u ∧ w1.cell? ⟨w.heap.size + 1, 0, none⟩ = some (.int .i64 0) ∧ w1.cell? ⟨w.heap.size + 1, 1, none⟩ = some (.slice none 0 0) ∧ w1.cell? ⟨w.heap.size + 1, 2, none⟩ = some (.slice none 0 0)) ∧ (w1.cell? ⟨w.heap.size + 1 + 1, 0, none⟩ = some (.int .i64 k) ∧ w1.cell? ⟨w.heap.size + 1 + 1, 1, none⟩ = some (.slice none 0 0) ∧ w1.cell? ⟨w.heap.size + 1 + 1, 2, none⟩ = some (.slice none 0 0)) ∧ (∀ j, w1.frozen? ⟨w.heap.size + 1, j, none⟩ = false) ∧ ∀ j, w1.frozen? ⟨w.heap.size + 1 + 1, j, none⟩ = false := by
 have c : ∀ b j, b < w.heap.size + 3 → w1.cell? ⟨b, j, none⟩ = (((w.alloc (.cells #[.int .i64 k, v, u] 25)).alloc (.cells #[.int .i64 0, .slice none 0 0, .slice none 0 0] 45)).alloc (.cells #[.int .i64 k, .slice none 0 0, .slice none 0 0] 45)).cell? ⟨b, j, none⟩ := fun b j h => hb.cell (by exact h)
 have f : ∀ b j, b < w.heap.size + 3 → w1.frozen? ⟨b, j, none⟩ = (((w.alloc (.cells #[.int .i64 k, v, u] 25)).alloc (.cells #[.int .i64 0, .slice none 0 0, .slice none 0 0] 45)).alloc (.cells #[.int .i64 k, .slice none 0 0, .slice none 0 0] 45)).frozen? ⟨b, j, none⟩ := fun b j h => hb.frozen (by exact h)
 refine ⟨⟨?_, ?_, ?_, ?_⟩, ⟨?_, ?_, ?_⟩, fun j => ?_, fun j => ?_⟩
 all_goals first
  | (rw [c _ _ (by omega)]; simp [go_sem]; done)
  | (rw [f _ _ (by omega)]; simp [go_sem])
end Go.Proofs.YtboojefodbjbcaaGreatDoor
