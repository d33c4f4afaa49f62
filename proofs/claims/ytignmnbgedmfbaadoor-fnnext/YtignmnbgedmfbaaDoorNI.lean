import Derived.Test.YtignmnbgedmfbaaDoorNG
import Derived.Test.YtignmnbgedmfbaaDoorNH
import Derived.Test.YtignmnbgedmfbaaDoorN9
import Derived.Test.YtignmnbgedmfbaaDoorNA
namespace Go.Proofs.YtignmnbgedmfbaaDoor
open Go.RowKit
structure Three (T : List I3) (arg : ByteArray) (reps : List R2) : Prop where
  tl : T.length ≤ 1048576
  ts : ∀ i, (T.getD i i3z).tx.size ≤ 1048576
  al : arg.size ≤ 1048576
  rl : reps.length ≤ 1048576
  rs : ∀ i, (reps.getD i r2z).tx.size ≤ 1048576
theorem c18 (a : Option Addr) (cap : Nat) (T : List I3) (arg : ByteArray) (a2 : Option Addr) (cap2 : Nat) (reps : List R2) (w : World) (h3 : Three T arg reps) (hat : InsAt w a T) (hat2 : ResAt w a2 reps) :
    Calls Tryd.prog 18 #[.agg #[.slice a T.length cap], .string arg, .slice a2 reps.length cap2] w fun e w' => e = .returned (nextT T arg reps).v ∧ Below w.heap.size w w' := by
  have hs : ∀ i, (T.getD i i3z).tx.size ≤ 1048700 := fun i => Nat.le_trans (h3.ts i) (by omega)
  by_cases h : okT T = true ∧ arg.size ≤ 300 ∧ reps.length ≤ 14
  · exact c18y a cap T arg a2 cap2 reps w hs h3.tl hat h.1 h.2.2 h.2.1 hat2 (fun i => Nat.le_trans (h3.rs i) (by omega))
  · refine c18n a cap T arg a2 cap2 reps w hs h3.tl hat ?_ h3.al h3.rl
    by_cases h1 : okT T = true
    · by_cases h2 : arg.size ≤ 300
      · exact .inr (.inr (by have h4 : ¬ reps.length ≤ 14 := fun h4 => h ⟨h1, h2, h4⟩; omega))
      · exact .inr (.inl (by omega))
    · exact .inl (by simpa using h1)
theorem c17 (a : Option Addr) (cap : Nat) (T : List I3) (arg : ByteArray) (a2 : Option Addr) (cap2 : Nat) (reps : List R2) (w : World) (h3 : Three T arg reps) (hat : InsAt w a T) (hat2 : ResAt w a2 reps) (hsh : ShapesAt w) (hmx : MaxAt w) :
    Calls Tryd.prog 17 #[.agg #[.slice a T.length cap], .string arg, .slice a2 reps.length cap2] w fun e w' => e = .returned (nextT T arg reps).v ∧ Below w.heap.size w w' := by
  have hs : ∀ i, (T.getD i i3z).tx.size ≤ 1048700 := fun i => Nat.le_trans (h3.ts i) (by omega)
  by_cases h : okT T = true ∧ arg.size ≤ 300 ∧ reps.length ≤ 14
  · exact c17y a cap T arg a2 cap2 reps w hs h3.tl hat h.1 h.2.2 h.2.1 hat2 (fun i => Nat.le_trans (h3.rs i) (by omega)) hsh hmx
  · refine c17n a cap T arg a2 cap2 reps w hs h3.tl hat ?_ hsh h3.al h3.rl
    by_cases h1 : okT T = true
    · by_cases h2 : arg.size ≤ 300
      · exact .inr (.inr (by have h4 : ¬ reps.length ≤ 14 := fun h4 => h ⟨h1, h2, h4⟩; omega))
      · exact .inr (.inl (by omega))
    · exact .inl (by simpa using h1)

theorem c18t {o : Bool} {c : Int} {t : ByteArray} {h : Bool} {n : ByteArray} {k : Int} (a : Option Addr) (cap : Nat) (T : List I3) (arg : ByteArray) (a2 : Option Addr) (cap2 : Nat) (reps : List R2) (w : World) (h3 : Three T arg reps) (hat : InsAt w a T) (hat2 : ResAt w a2 reps) (e : nextT T arg reps = ⟨o, c, t, h, n, k⟩) :
    Calls Tryd.prog 18 #[.agg #[.slice a T.length cap], .string arg, .slice a2 reps.length cap2] w fun e w' => e = .returned (.agg #[.bool o, .int .i64 c, .string t, .bool h, .string n, .int .i64 k]) ∧ Below w.heap.size w w' := by
  have := c18 a cap T arg a2 cap2 reps w h3 hat hat2
  rw [e] at this
  exact this
theorem c17t {o : Bool} {c : Int} {t : ByteArray} {h : Bool} {n : ByteArray} {k : Int} (a : Option Addr) (cap : Nat) (T : List I3) (arg : ByteArray) (a2 : Option Addr) (cap2 : Nat) (reps : List R2) (w : World) (h3 : Three T arg reps) (hat : InsAt w a T) (hat2 : ResAt w a2 reps) (hsh : ShapesAt w) (hmx : MaxAt w) (e : nextT T arg reps = ⟨o, c, t, h, n, k⟩) :
    Calls Tryd.prog 17 #[.agg #[.slice a T.length cap], .string arg, .slice a2 reps.length cap2] w fun e w' => e = .returned (.agg #[.bool o, .int .i64 c, .string t, .bool h, .string n, .int .i64 k]) ∧ Below w.heap.size w w' := by
  have := c17 a cap T arg a2 cap2 reps w h3 hat hat2 hsh hmx
  rw [e] at this
  exact this
theorem c21t (o : Bool) (c : Int) (t : ByteArray) (h : Bool) (n : ByteArray) (k : Int) (w : World) :
    Calls Tryd.prog 21 #[.agg #[.bool o, .int .i64 c, .string t, .bool h, .string n, .int .i64 k], .agg #[.bool o, .int .i64 c, .string t, .bool h, .string n, .int .i64 k]] w fun e w' => e = .returned (.bool true) ∧ Below w.heap.size w w' := c21 ⟨o, c, t, h, n, k⟩ w
def tcells (o : Bool) (c : Int) (t : ByteArray) (h : Bool) (n : ByteArray) (k : Int) : Obj := .cells #[.bool o, .int .i64 c, .string t, .bool h, .string n, .int .i64 k] 44
theorem turn_cells {o : Bool} {c : Int} {t : ByteArray} {h : Bool} {n : ByteArray} {k : Int} {w u : World} (hb : Below (w.heap.size + 1) (w.alloc (tcells o c t h n k)) u) :
    u.cell? ⟨w.heap.size, 0, none⟩ = some (.bool o) ∧ u.cell? ⟨w.heap.size, 1, none⟩ = some (.int .i64 c) ∧ u.cell? ⟨w.heap.size, 2, none⟩ = some (.string t) ∧ u.cell? ⟨w.heap.size, 3, none⟩ = some (.bool h) ∧ u.cell? ⟨w.heap.size, 4, none⟩ = some (.string n) ∧ u.cell? ⟨w.heap.size, 5, none⟩ = some (.int .i64 k) := by
  have e : ∀ j, u.cell? ⟨w.heap.size, j, none⟩ = (w.alloc (tcells o c t h n k)).cell? ⟨w.heap.size, j, none⟩ := fun j => hb.cell (by simp)
  rw [e, e, e, e, e, e]
  unfold tcells
  simp

set_option maxHeartbeats 4000000 in
set_option maxRecDepth 100000 in
theorem c6 (a : Option Addr) (cap : Nat) (T : List I3) (arg : ByteArray) (a2 : Option Addr) (cap2 : Nat) (reps : List R2) (w : World) (hs : ∀ i, (T.getD i i3z).tx.size ≤ 9223372036854775807) (hl : T.length ≤ 9223372036854775807) (har : arg.size ≤ 9223372036854775807) (hs2 : ∀ i, (reps.getD i r2z).tx.size ≤ 9223372036854775807) (hl2 : reps.length ≤ 9223372036854775807) (hat : InsAt w a T) (hat2 : ResAt w a2 reps) (hsh : ShapesAt w) (hmx : MaxAt w) :
    Calls Tryd.prog 6 #[.agg #[.slice a T.length cap], .string arg, .slice a2 reps.length cap2] w fun e w' => e = .returned (.bool true) ∧ Below w.heap.size w w' := by
  have HAT : Hid (InsAt w a T) := hat
  have HAR : Hid (ResAt w a2 reps) := hat2
  have HSH : Hid (ShapesAt w) := hsh
  have HMX : Hid (MaxAt w) := hmx
  have hB0 : Below w.heap.size w (w.alloc (.cells #[.slice a T.length cap] 24)) := (Below.refl _ _).alloc (Nat.le_refl _) _
  clear hat hsh hat2 hmx
  by_cases hbig : 1048576 < arg.size
  · go_enter Tryd.func6, Tryd.ntmps6
    go_wp2
    go_ret
    exact ⟨rfl, hB0⟩
  go_enter Tryd.func6, Tryd.ntmps6
  go_wp2_with fail
  refine (c7 a cap T _ hs hl (ins_below HAT.out hB0)).mono ?_
  rintro e w1 ⟨⟨r, rfl, hr⟩, hb1⟩
  have hB1 : Below w.heap.size w w1 := hB0.trans (hb1.mono hB0.size)
  have d1 : w1.cell? ⟨w.heap.size, 0, none⟩ = some (.slice a T.length cap) := (hb1.cell (p := ⟨w.heap.size, 0, none⟩) (by simp)).trans (by simp [go_sem])
  have z1 : w.heap.size + 1 ≤ w1.heap.size := by have := hb1.size; simp at this; omega
  clear hb1
  by_cases hr0 : r < 0
  · clear hr
    go_wp2
    go_ret
    exact ⟨rfl, hB1⟩
  obtain ⟨hl1, hs1, hrm⟩ := hr (by omega)
  have HS1 : Hid (∀ i, (T.getD i i3z).tx.size ≤ 1048576) := hs1
  clear hs hs1 hr
  go_wp2_with fail
  refine (c19 a2 cap2 reps r w1 hs2 hl2 (res_below HAR.out hB1) (by omega) hrm).mono ?_
  rintro e w2 ⟨⟨q, rfl, hq⟩, hb2⟩
  have hB2 : Below w.heap.size w w2 := hB1.trans (hb2.mono hB1.size)
  have d2 : w2.cell? ⟨w.heap.size, 0, none⟩ = some (.slice a T.length cap) := (hb2.cell (p := ⟨w.heap.size, 0, none⟩) (Nat.lt_of_lt_of_le (Nat.lt_succ_self _) z1)).trans d1
  have z2 : w.heap.size + 1 ≤ w2.heap.size := Nat.le_trans z1 hb2.size
  clear hb2 d1
  by_cases hq0 : q < 0
  · clear hq
    go_wp2
    go_ret
    exact ⟨rfl, hB2⟩
  obtain ⟨hq1, hq2, hq3⟩ := hq (by omega)
  have H3 : Hid (Three T arg reps) := ⟨hl1, HS1.out, by omega, hq1, hq2⟩
  clear hq hq2 hs2 HS1
  go_wp2_with fail
  refine (c9 a cap T w2 hl1 (ins_below HAT.out hB2)).mono ?_
  rintro e w3 ⟨⟨a3, rfl, h3⟩, hb3⟩
  have HA3 : Hid (InsAt w3 a3 T) := h3
  have hB3 : Below w.heap.size w w3 := hB2.trans (hb3.mono hB2.size)
  have d3 : w3.cell? ⟨w.heap.size, 0, none⟩ = some (.slice a T.length cap) := (hb3.cell (p := ⟨w.heap.size, 0, none⟩) (Nat.lt_of_lt_of_le (Nat.lt_succ_self _) z2)).trans d2
  have z3 : w.heap.size + 1 ≤ w3.heap.size := Nat.le_trans z2 hb3.size
  clear h3 hb3 d2
  go_wp2_with fail
  refine (c20 a2 cap2 reps w3 hq1 (res_below HAR.out hB3)).mono ?_
  rintro e w4 ⟨⟨rfl, h4⟩, hb4⟩
  have HR4 : Hid (ResAt w4 (some ⟨w3.heap.size, 0, none⟩) reps) := h4
  have HA4 : Hid (InsAt w4 a3 T) := ins_below HA3.out hb4
  have hB4 : Below w.heap.size w w4 := hB3.trans (hb4.mono hB3.size)
  have d4 : w4.cell? ⟨w.heap.size, 0, none⟩ = some (.slice a T.length cap) := (hb4.cell (p := ⟨w.heap.size, 0, none⟩) (Nat.lt_of_lt_of_le (Nat.lt_succ_self _) z3)).trans d3
  have z4 : w.heap.size + 1 ≤ w4.heap.size := Nat.le_trans z3 hb4.size
  clear h4 hb4 d3 HA3
  obtain ⟨o, c, t, h, n, k, HN⟩ : ∃ o c t h n k, Hid (nextT T arg reps = ⟨o, c, t, h, n, k⟩) := ⟨_, _, _, _, _, _, rfl⟩
  go_wp2_with fail
  refine (c18t a3 T.length T arg (some ⟨w3.heap.size, 0, none⟩) reps.length reps w4 H3.out HA4.out HR4.out HN.out).mono ?_
  rintro e w5 ⟨rfl, hb5⟩
  have hB5 : Below w.heap.size w w5 := hB4.trans (hb5.mono hB4.size)
  have d5 : w5.cell? ⟨w.heap.size, 0, none⟩ = some (.slice a T.length cap) := (hb5.cell (p := ⟨w.heap.size, 0, none⟩) (Nat.lt_of_lt_of_le (Nat.lt_succ_self _) z4)).trans d4
  have z5 : w.heap.size + 1 ≤ w5.heap.size := Nat.le_trans z4 hb5.size
  have d5' := past (p := ⟨w.heap.size, 0, none⟩) (by show w.heap.size < w5.heap.size; omega) d5
  have hB5a : ∀ o, Below w.heap.size w (w5.alloc o) := hB5.alloc (by omega)
  have HB5a : Hid (∀ o, Below w.heap.size w (w5.alloc o)) := hB5a
  clear hb5 d4 HA4 HR4 hB5a
  go_wp2_with fail
  refine (c9 a cap T (w5.alloc (tcells o c t h n k)) hl1 (ins_below HAT.out (HB5a.out _))).mono ?_
  rintro e w6 ⟨⟨a6, rfl, h6⟩, hb6⟩
  have hT6 : Below (w5.heap.size + 1) (w5.alloc (tcells o c t h n k)) w6 := by have h := hb6; simp at h; exact h
  have HA6 : Hid (InsAt w6 a6 T) := h6
  have hB6 : Below w.heap.size w w6 := (HB5a.out _).trans (hb6.mono (by simp; omega))
  have d6 : w6.cell? ⟨w.heap.size, 0, none⟩ = some (.slice a T.length cap) := (hb6.cell (p := ⟨w.heap.size, 0, none⟩) (by simp; omega)).trans (d5' _)
  have z6' : w5.heap.size + 1 ≤ w6.heap.size := by have := hT6.size; simpa using this
  clear h6 hb6 d5 d5' HB5a
  have hA6 : Below w6.heap.size w6 (w6.alloc (.cells #[.slice a6 T.length T.length] 29)) := (Below.refl _ _).alloc (Nat.le_refl _) _
  have hB6a : Below w.heap.size w (w6.alloc (.cells #[.slice a6 T.length T.length] 29)) := hB6.trans (hA6.mono (by omega))
  go_wp2_with fail
  refine (c20 a2 cap2 reps (w6.alloc (.cells #[.slice a6 T.length T.length] 29)) hq1 (res_below HAR.out hB6a)).mono ?_
  rintro e w7 ⟨⟨rfl, h7⟩, hb7⟩
  have hb7' : Below (w6.heap.size + 1) (w6.alloc (.cells #[.slice a6 T.length T.length] 29)) w7 := by have h := hb7; simp at h; exact h
  have hb67 : Below w6.heap.size w6 w7 := hA6.trans (hb7'.mono (by omega))
  have HR7 : Hid (ResAt w7 (some ⟨w6.heap.size + 1, 0, none⟩) reps) := by have h := h7; simp at h; exact h
  have HA7 : Hid (InsAt w7 a6 T) := ins_below HA6.out hb67
  have hB7 : Below w.heap.size w w7 := hB6.trans (hb67.mono (by omega))
  have d7 : w7.cell? ⟨w.heap.size, 0, none⟩ = some (.slice a T.length cap) := (hb67.cell (p := ⟨w.heap.size, 0, none⟩) (by show w.heap.size < w6.heap.size; omega)).trans d6
  have f7 : w7.cell? ⟨w6.heap.size, 0, none⟩ = some (.slice a6 T.length T.length) := (hb7'.cell (p := ⟨w6.heap.size, 0, none⟩) (by simp)).trans (by simp)
  have hT7 : Below (w5.heap.size + 1) (w5.alloc (tcells o c t h n k)) w7 := hT6.trans (hb67.mono (by omega))
  have z7 : w6.heap.size + 1 ≤ w7.heap.size := by have := hb7'.size; simpa using this
  clear h7 hb7 hb7' hb67 d6 hT6 HA6 hA6 hB6a
  go_wp2_with fail
  refine (c17t a6 T.length T arg (some ⟨w6.heap.size + 1, 0, none⟩) reps.length reps w7 H3.out HA7.out HR7.out (shapes_below HSH.out hB7) (max_below HMX.out hB7) HN.out).mono ?_
  rintro e w8 ⟨rfl, hb8⟩
  have hB8 : Below w.heap.size w w8 := hB7.trans (hb8.mono hB7.size)
  have d8 : w8.cell? ⟨w.heap.size, 0, none⟩ = some (.slice a T.length cap) := (hb8.cell (p := ⟨w.heap.size, 0, none⟩) (by show w.heap.size < w7.heap.size; omega)).trans d7
  have f8 : w8.cell? ⟨w6.heap.size, 0, none⟩ = some (.slice a6 T.length T.length) := (hb8.cell (p := ⟨w6.heap.size, 0, none⟩) (by show w6.heap.size < w7.heap.size; omega)).trans f7
  have hT8 : Below (w5.heap.size + 1) (w5.alloc (tcells o c t h n k)) w8 := hT7.trans (hb8.mono (by omega))
  have HR8 : Hid (ResAt w8 (some ⟨w6.heap.size + 1, 0, none⟩) reps) := res_below HR7.out hb8
  have HA8 : Hid (InsAt w8 a6 T) := ins_below HA7.out hb8
  have z8 : w7.heap.size ≤ w8.heap.size := hb8.size
  have hA8 : Below w8.heap.size w8 (w8.alloc (tcells o c t h n k)) := (Below.refl _ _).alloc (Nat.le_refl _) _
  obtain ⟨t0, t1, t2, t3, t4, t5⟩ := turn_cells hT8
  have hw58 : w5.heap.size < w8.heap.size := by omega
  clear hb8 d7 f7 hT7 HR7 HA7
  go_wp2_with fail
  refine (c21t o c t h n k (w8.alloc (tcells o c t h n k))).mono ?_
  rintro e w9 ⟨rfl, hb9⟩
  have hb89 : Below w8.heap.size w8 w9 := hA8.trans (hb9.mono (by simp))
  have hB9 : Below w.heap.size w w9 := hB8.trans (hb89.mono (by omega))
  have d9 : w9.cell? ⟨w.heap.size, 0, none⟩ = some (.slice a T.length cap) := (hb89.cell (p := ⟨w.heap.size, 0, none⟩) (by show w.heap.size < w8.heap.size; omega)).trans d8
  have f9 : w9.cell? ⟨w6.heap.size, 0, none⟩ = some (.slice a6 T.length T.length) := (hb89.cell (p := ⟨w6.heap.size, 0, none⟩) (by show w6.heap.size < w8.heap.size; omega)).trans f8
  have HR9 : Hid (ResAt w9 (some ⟨w6.heap.size + 1, 0, none⟩) reps) := res_below HR8.out hb89
  have HA9 : Hid (InsAt w9 a6 T) := ins_below HA8.out hb89
  have HAA9 : Hid (InsAt w9 a T) := ins_below HAT.out hB9
  have z9 : w6.heap.size < w9.heap.size := by have := hb89.size; omega
  clear hb89 hb9 d8 f8 hT8 HR8 HA8 t0 t1 t2 t3 t4 t5 hA8
  go_wp2_with fail
  go_region_with (first | (go_at_call 9; refine (c9 a cap T _ hl1 ?_).mono ?_; exact ins_below HAA9.out ((Below.refl _ _).drew); rintro e wa ⟨⟨aa, rfl, ha⟩, hba⟩; have xa : wa.cell? ⟨w6.heap.size, 0, none⟩ = some (.slice a6 T.length T.length) := (hba.cell (p := ⟨w6.heap.size, 0, none⟩) z9).trans f9) | (go_at_call 11; refine (c11 a6 aa T.length T.length T _ hl1 ?_ ?_).mono ?_; exact ins_below (ins_below HA9.out ((Below.refl _ _).drew)) hba; exact ha; rintro e wb ⟨rfl, hbb⟩))
  all_goals
    have hB11 : Below w.heap.size w wb := ((hB9.drew).trans (hba.mono hB9.size)).trans (hbb.mono (Nat.le_trans hB9.size hba.size))
    have h911 : Below w9.heap.size w9 wb := (((Below.refl _ w9).drew).trans hba).trans (hbb.mono hba.size)
    have HR11 : Hid (ResAt wb (some ⟨w6.heap.size + 1, 0, none⟩) reps) := res_below HR9.out h911
    clear ha hba xa hbb h911 HR9 HA9 HAA9 d9 f9
    go_wp2_with fail
    refine (c20 a2 cap2 reps wb hq1 (res_below HAR.out hB11)).mono ?_
    rintro e wc ⟨⟨rfl, hc⟩, hbc⟩
    have HRc : Hid (ResAt wc (some ⟨wb.heap.size, 0, none⟩) reps) := hc
    have HRc' : Hid (ResAt wc (some ⟨w6.heap.size + 1, 0, none⟩) reps) := res_below HR11.out hbc
    have hB12 : Below w.heap.size w wc := hB11.trans (hbc.mono hB11.size)
    clear hc hbc HR11
    go_wp2_with fail
    refine (c22 (some ⟨w6.heap.size + 1, 0, none⟩) (some ⟨wb.heap.size, 0, none⟩) reps.length reps.length reps wc hq1 HRc'.out HRc.out).mono ?_
    rintro e wd ⟨rfl, hbd⟩
    go_wp2
    go_ret
    exact ⟨rfl, hB12.trans (hbd.mono hB12.size)⟩
end Go.Proofs.YtignmnbgedmfbaaDoor
