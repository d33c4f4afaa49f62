import Derived.Test.YtolihfbnbkaflaaW6
namespace Go.Proofs.Ytolihfbnbkaflaa
open Go.RowKit
def BlkAt (u : World) (b : Nat) (v : Value) (t : TypeId) : Prop := u.heap[b]? = some (.cells #[v] t (0, 0))
theorem BlkAt.lt {u : World} {b : Nat} {v : Value} {t : TypeId} (h : BlkAt u b v t) : b < u.heap.size := blk_lt h
theorem BlkAt.later {u u' : World} {b : Nat} {v : Value} {t : TypeId} (h : BlkAt u b v t) (hb : Below u.heap.size u u') : BlkAt u' b v t := by
  unfold BlkAt; rw [hb.block _ h.lt]; exact h
theorem BlkAt.but {u u' : World} {b g : Nat} {v : Value} {t : TypeId} (h : BlkAt u b v t) (hb : But g u u') (hne : b ≠ g) : BlkAt u' b v t := by
  unfold BlkAt; rw [hb.block _ h.lt hne]; exact h
theorem BlkAt.cell {u : World} {b : Nat} {v : Value} {t : TypeId} (h : BlkAt u b v t) : u.cell? ⟨b, 0, none⟩ = some v := by rw [Lib.cell_of_heap h]; rfl
theorem BlkAt.new (u : World) (v : Value) (t : TypeId) : BlkAt (u.alloc (.cells #[v] t)) u.heap.size v t := alloc_new rfl _
/-- The four variables of the law. -/
structure LawAt (w u : World) (tA tW tX tG : Value) (Wb Xb Gb : Nat) : Prop where
  bel : Below w.heap.size w u
  hA : BlkAt u w.heap.size tA 24
  hW : BlkAt u Wb tW 29
  hX : BlkAt u Xb tX 29
  hG : BlkAt u Gb tG 29
theorem LawAt.later {w u u' : World} {tA tW tX tG : Value} {Wb Xb Gb : Nat} (h : LawAt w u tA tW tX tG Wb Xb Gb) (hb : Below u.heap.size u u') : LawAt w u' tA tW tX tG Wb Xb Gb :=
  ⟨h.bel.trans (hb.mono h.bel.size), h.hA.later hb, h.hW.later hb, h.hX.later hb, h.hG.later hb⟩
theorem LawAt.but {w u u' : World} {tA tW tX tG : Value} {Wb Xb Gb g : Nat} (h : LawAt w u tA tW tX tG Wb Xb Gb) (hb : But g u u') (hA : w.heap.size < g) (hW : Wb ≠ g) (hX : Xb ≠ g) (hG : Gb ≠ g) : LawAt w u' tA tW tX tG Wb Xb Gb :=
  ⟨h.bel.trans (hb.below (by omega) h.bel.size), h.hA.but hb (by omega), h.hW.but hb hW, h.hX.but hb hX, h.hG.but hb hG⟩
theorem LawAt.cells {w u : World} {tA tW tX tG : Value} {Wb Xb Gb : Nat} (h : LawAt w u tA tW tX tG Wb Xb Gb) : u.cell? ⟨w.heap.size, 0, none⟩ = some tA ∧ u.cell? ⟨Wb, 0, none⟩ = some tW ∧ u.cell? ⟨Xb, 0, none⟩ = some tX ∧ u.cell? ⟨Gb, 0, none⟩ = some tG := ⟨h.hA.cell, h.hW.cell, h.hX.cell, h.hG.cell⟩
theorem files_but {u u' : World} {a : Option Addr} {gs : List F2} {g : Nat} (h : FilesAt u a gs) (hb : But g u u') (hne : ∀ b off, a = some ⟨b, off, none⟩ → gs ≠ [] → b ≠ g) : FilesAt u' a gs := by
  rcases h with h | ⟨b, off, h1, h2, h3⟩
  · exact .inl h
  · by_cases h0 : gs = []
    · exact .inl h0
    · have hn := hne b off h1 h0
      exact .inr ⟨b, off, h1, Nat.lt_of_lt_of_le h2 hb.size, fun i hi => by rw [hb.cell (by exact h2) (by exact hn), hb.cell (by exact h2) (by exact hn)]; exact h3 i hi⟩
theorem files_lt {u : World} {a : Option Addr} {gs : List F2} (h : FilesAt u a gs) (b off : Nat) (ha : a = some ⟨b, off, none⟩) (h0 : gs ≠ []) : b < u.heap.size := by
  rcases h with h | ⟨b', off', h1, h2, _⟩
  · exact absurd h h0
  · rw [ha] at h1; injection h1 with h1; injection h1 with e _; omega
/-- The block that a mark turns, if any. -/
theorem newF_block {B : Nat} {u : World} {a : Option Addr} {gs : List F2} (h : NewF B u a gs) (hB : B ≤ u.heap.size) : ∃ g, B ≤ g ∧ g ≠ u.heap.size ∧ (gs.length = 0 ∨ a = some ⟨g, 0, none⟩) ∧ (gs.length = 0 ∨ Open2 u g gs.length) := by
  rcases h.2 with h0 | ⟨g, ha, hg, ho⟩
  · have : gs.length = 0 := by rw [h0]; rfl
    exact ⟨u.heap.size + 1, by omega, by omega, .inl this, .inl this⟩
  · exact ⟨g, hg, by have := ho.1; omega, .inr ha, .inr ho⟩
theorem Open2.but {u u' : World} {b n g : Nat} (h : Open2 u b n) (hb : But g u u') (hne : b ≠ g) : Open2 u' b n :=
  ⟨Nat.lt_of_lt_of_le h.1 hb.size, fun j hj => by rw [hb.cell (by exact h.1) (by exact hne)]; exact h.2.1 j hj, fun j => by
    have := h.2.2 j
    unfold World.frozen? at this ⊢
    rw [hb.block b h.1 hne]; exact this⟩
set_option maxHeartbeats 4000000 in
set_option maxRecDepth 100000 in
theorem c5 (a : Option Addr) (cap : Nat) (fs : List F2) (nm : ByteArray) (w : World) (hs : ∀ i, (fs.getD i f2z).le 9223372036854775807) (hl : fs.length ≤ 9223372036854775807) (hn : nm.size ≤ 9223372036854775807) (hat : FilesAt w a fs) :
    Calls Try.prog 5 #[.agg #[.slice a fs.length cap], .string nm] w fun e w' => e = .returned (.bool true) ∧ Below w.heap.size w w' := by
  have HAT : Hid (FilesAt w a fs) := hat
  have hB0 : Below w.heap.size w (w.alloc (.cells #[.slice a fs.length cap] 24)) := (Below.refl _ _).alloc (Nat.le_refl _) _
  have hA0 : BlkAt (w.alloc (.cells #[.slice a fs.length cap] 24)) w.heap.size (.slice a fs.length cap) 24 := BlkAt.new _ _ _
  have HA0 : Hid (BlkAt (w.alloc (.cells #[.slice a fs.length cap] 24)) w.heap.size (.slice a fs.length cap) 24) := hA0
  clear hat hA0
  by_cases hbig : 1048576 < nm.size
  · go_enter Try.func5, Try.ntmps5
    go_wp2
    go_ret
    exact ⟨rfl, hB0⟩
  go_enter Try.func5, Try.ntmps5
  go_wp2_with fail
  refine (c6 a cap fs _ hs hl (files_below HAT.out hB0)).mono ?_
  rintro e u1 ⟨⟨r, rfl, hr⟩, hb1⟩
  have hB1 : Below w.heap.size w u1 := hB0.trans (hb1.mono hB0.size)
  have HA1 : Hid (BlkAt u1 w.heap.size (.slice a fs.length cap) 24) := HA0.out.later hb1
  have d1 := HA1.out.cell
  clear hb1 HA0
  by_cases hr0 : r < 0
  · clear hr
    go_wp2
    go_ret
    exact ⟨rfl, hB1⟩
  obtain ⟨hl1, hs1, hrm⟩ := hr (by omega)
  have HS1 : Hid (∀ i, (fs.getD i f2z).le 1048576) := hs1
  clear hs hs1 hr
  go_wp2_with fail
  refine (c8 a cap fs u1 hl1 (files_below HAT.out hB1)).mono ?_
  rintro e u2 ⟨⟨a2, rfl, h2⟩, hb2⟩
  have HF2 : Hid (FilesAt u2 a2 fs) := h2
  have hB2 : Below w.heap.size w u2 := hB1.trans (hb2.mono hB1.size)
  have HA2 : Hid (BlkAt u2 w.heap.size (.slice a fs.length cap) 24) := HA1.out.later hb2
  clear h2 hb2 d1 HA1
  go_wp2_with fail
  refine (c17 a2 fs.length fs nm u2 hl1 HS1.out HF2.out).mono ?_
  rintro e u3 ⟨⟨vw, c, gs, rfl, how, hdr⟩, hb3⟩
  obtain ⟨aw, cw, hvw, hfw⟩ := how.form
  subst hvw
  have HDR : Hid (DropR fs nm c gs) := hdr
  have hgl : gs.length ≤ 40 := dropR_len hdr
  have hB3 : Below w.heap.size w u3 := hB2.trans (hb3.mono hB2.size)
  have HA3 : Hid (BlkAt u3 w.heap.size (.slice a fs.length cap) 24) := HA2.out.later hb3
  have hA3' : Below u3.heap.size u3 (u3.alloc (.cells #[.slice aw gs.length cw] 29)) := (Below.refl _ _).alloc (Nat.le_refl _) _
  have HWL : Hid (∀ b off, aw = some ⟨b, off, none⟩ → gs ≠ [] → b < u3.heap.size) := files_lt hfw
  have HFW : Hid (FilesAt (u3.alloc (.cells #[.slice aw gs.length cw] 29)) aw gs) := files_below hfw hA3'
  have HAW : Hid (BlkAt (u3.alloc (.cells #[.slice aw gs.length cw] 29)) w.heap.size (.slice a fs.length cap) 24) := HA3.out.later hA3'
  have HW : Hid (BlkAt (u3.alloc (.cells #[.slice aw gs.length cw] 29)) u3.heap.size (.slice aw gs.length cw) 29) := BlkAt.new _ _ _
  have hBW : Below w.heap.size w (u3.alloc (.cells #[.slice aw gs.length cw] 29)) := hB3.trans (hA3'.mono hB3.size)
  have hzw : (u3.alloc (.cells #[.slice aw gs.length cw] 29)).heap.size = u3.heap.size + 1 := by simp
  have hwu : w.heap.size < u3.heap.size := HA3.out.lt
  have dW := HAW.out.cell
  clear hfw how hdr hb3 HA2 HF2 hA3' HA3 hB3 hB2
  go_wp2_with fail
  generalize (u3.alloc (.cells #[.slice aw gs.length cw] 29)) = U3 at *
  generalize u3.heap.size = Wb at *
  refine (c8s a cap fs U3 hl1 (files_below HAT.out hBW)).mono ?_
  rintro e u4 ⟨⟨B, hB, rfl, hfx, hox⟩, hb4⟩
  have hA4 : Below u4.heap.size u4 (u4.alloc (.cells #[.slice (some ⟨B, 0, none⟩) fs.length fs.length] 29)) := (Below.refl _ _).alloc (Nat.le_refl _) _
  have hb4' : Below U3.heap.size U3 (u4.alloc (.cells #[.slice (some ⟨B, 0, none⟩) fs.length fs.length] 29)) := hb4.trans (hA4.mono hb4.size)
  have HFX : Hid (FilesAt (u4.alloc (.cells #[.slice (some ⟨B, 0, none⟩) fs.length fs.length] 29)) (some ⟨B, 0, none⟩) fs) := files_below hfx hA4
  have HOX : Hid (Open2 (u4.alloc (.cells #[.slice (some ⟨B, 0, none⟩) fs.length fs.length] 29)) B fs.length) := hox.below hA4
  have HFW4 : Hid (FilesAt (u4.alloc (.cells #[.slice (some ⟨B, 0, none⟩) fs.length fs.length] 29)) aw gs) := files_below HFW.out hb4'
  have HA4 : Hid (BlkAt (u4.alloc (.cells #[.slice (some ⟨B, 0, none⟩) fs.length fs.length] 29)) w.heap.size (.slice a fs.length cap) 24) := HAW.out.later hb4'
  have HW4 : Hid (BlkAt (u4.alloc (.cells #[.slice (some ⟨B, 0, none⟩) fs.length fs.length] 29)) Wb (.slice aw gs.length cw) 29) := HW.out.later hb4'
  have HX4 : Hid (BlkAt (u4.alloc (.cells #[.slice (some ⟨B, 0, none⟩) fs.length fs.length] 29)) u4.heap.size (.slice (some ⟨B, 0, none⟩) fs.length fs.length) 29) := BlkAt.new _ _ _
  have hB4 : Below w.heap.size w (u4.alloc (.cells #[.slice (some ⟨B, 0, none⟩) fs.length fs.length] 29)) := hBW.trans (hb4'.mono hBW.size)
  have hBx : B < u4.heap.size := hox.1
  have hz4 : (u4.alloc (.cells #[.slice (some ⟨B, 0, none⟩) fs.length fs.length] 29)).heap.size = u4.heap.size + 1 := by simp
  have dX := HX4.out.cell
  clear hfx hox hb4 hb4' hA4 HFW HAW HW hBW dW
  go_wp2_with fail
  generalize (u4.alloc (.cells #[.slice (some ⟨B, 0, none⟩) fs.length fs.length] 29)) = U4 at *
  generalize u4.heap.size = Xb at *
  refine (c18 (some ⟨B, 0, none⟩) fs.length fs nm U4 hl1 HS1.out HFX.out).mono ?_
  rintro e u5 ⟨⟨ag, cg, c', gs', rfl, hng, hdr⟩, hb5⟩
  obtain ⟨h1, h2⟩ := dropR_one HDR.out hdr
  subst h1
  subst h2
  obtain ⟨g, hgB, hgz, hga, hgo⟩ := newF_block hng hb5.size
  have hA5 : Below u5.heap.size u5 (u5.alloc (.cells #[.slice ag gs'.length cg] 29)) := (Below.refl _ _).alloc (Nat.le_refl _) _
  have hb5' : Below U4.heap.size U4 (u5.alloc (.cells #[.slice ag gs'.length cg] 29)) := hb5.trans (hA5.mono hb5.size)
  have HFG : Hid (FilesAt (u5.alloc (.cells #[.slice ag gs'.length cg] 29)) ag gs') := files_below hng.1 hA5
  have HGO : Hid (gs'.length = 0 ∨ Open2 (u5.alloc (.cells #[.slice ag gs'.length cg] 29)) g gs'.length) := hgo.imp id (fun h => h.below hA5)
  have HFX5 : Hid (FilesAt (u5.alloc (.cells #[.slice ag gs'.length cg] 29)) (some ⟨B, 0, none⟩) fs) := files_below HFX.out hb5'
  have HOX5 : Hid (Open2 (u5.alloc (.cells #[.slice ag gs'.length cg] 29)) B fs.length) := HOX.out.below hb5'
  have HFW5 : Hid (FilesAt (u5.alloc (.cells #[.slice ag gs'.length cg] 29)) aw gs') := files_below HFW4.out hb5'
  have HL5 : Hid (LawAt w (u5.alloc (.cells #[.slice ag gs'.length cg] 29)) (.slice a fs.length cap) (.slice aw gs'.length cw) (.slice (some ⟨B, 0, none⟩) fs.length fs.length) (.slice ag gs'.length cg) Wb Xb u5.heap.size) := ⟨hB4.trans (hb5'.mono hB4.size), HA4.out.later hb5', HW4.out.later hb5', HX4.out.later hb5', BlkAt.new _ _ _⟩
  have hzg : U4.heap.size ≤ u5.heap.size := hb5.size
  have HGA : Hid (gs'.length = 0 ∨ ag = some ⟨g, 0, none⟩) := hga
  obtain ⟨k1, k2, k3, k4⟩ := HL5.out.cells
  clear hng hdr hb5 hA5 hb5' HFX HOX HFW4 HA4 HW4 HX4 hB4 dX hgo hga
  go_wp2_with fail
  generalize (u5.alloc (.cells #[.slice ag gs'.length cg] 29)) = U5 at *
  generalize u5.heap.size = Gb at *
  refine (c10 ag aw cg cw gs' U5 (by omega) HFG.out HFW5.out).mono ?_
  rintro e u6 ⟨rfl, hb6⟩
  have HL6 : Hid (LawAt w u6 (.slice a fs.length cap) (.slice aw gs'.length cw) (.slice (some ⟨B, 0, none⟩) fs.length fs.length) (.slice ag gs'.length cg) Wb Xb Gb) := HL5.out.later hb6
  have HFG6 : Hid (FilesAt u6 ag gs') := files_below HFG.out hb6
  have HFW6 : Hid (FilesAt u6 aw gs') := files_below HFW5.out hb6
  have HFX6 : Hid (FilesAt u6 (some ⟨B, 0, none⟩) fs) := files_below HFX5.out hb6
  have HOX6 : Hid (Open2 u6 B fs.length) := HOX5.out.below hb6
  have HGO6 : Hid (gs'.length = 0 ∨ Open2 u6 g gs'.length) := HGO.out.imp id (fun h => h.below hb6)
  have HFA6 : Hid (FilesAt u6 a fs) := files_below HAT.out HL6.out.bel
  clear hb6 HL5 HFG HFW5 HFX5 HOX5 HGO k1 k2 k3 k4
  obtain ⟨k1, k2, k3, k4⟩ := HL6.out.cells
  have hXz : Xb < u6.heap.size := HL6.out.hX.lt
  go_wp2_with fail
  go_region_with (first | (go_at_call 8; refine (c8 a cap fs _ hl1 ?_).mono ?_; exact files_below HFA6.out ((Below.refl _ _).drew); rintro e wa ⟨⟨aa, rfl, ha⟩, hba⟩; have xa : wa.cell? ⟨Xb, 0, none⟩ = some (.slice (some ⟨B, 0, none⟩) fs.length fs.length) := (hba.cell (p := ⟨Xb, 0, none⟩) hXz).trans k3) | (go_at_call 10; refine (c10 (some ⟨B, 0, none⟩) aa fs.length fs.length fs _ hl1 ?_ ?_).mono ?_; exact files_below (files_below HFX6.out ((Below.refl _ _).drew)) hba; exact ha; rintro e u8 ⟨rfl, hbb⟩))
  all_goals
    have hb8 : Below u6.heap.size u6 u8 := (((Below.refl _ u6).drew).trans hba).trans (hbb.mono hba.size)
    have HL8 : Hid (LawAt w u8 (.slice a fs.length cap) (.slice aw gs'.length cw) (.slice (some ⟨B, 0, none⟩) fs.length fs.length) (.slice ag gs'.length cg) Wb Xb Gb) := HL6.out.later hb8
    have HFG8 : Hid (FilesAt u8 ag gs') := files_below HFG6.out hb8
    have HFW8 : Hid (FilesAt u8 aw gs') := files_below HFW6.out hb8
    have HOX8 : Hid (Open2 u8 B fs.length) := HOX6.out.below hb8
    have HGO8 : Hid (gs'.length = 0 ∨ Open2 u8 g gs'.length) := HGO6.out.imp id (fun h => h.below hb8)
    clear ha hba xa hbb hb8 HL6 HFG6 HFW6 HFX6 HOX6 HGO6 HFA6 k1 k2 k3 k4
    obtain ⟨k1, k2, k3, k4⟩ := HL8.out.cells
    go_wp2_with fail
    refine (c15 (some ⟨B, 0, none⟩) B fs.length fs.length u8 (.inr rfl) hl1 (.inr HOX8.out)).mono ?_
    rintro e u9 ⟨rfl, hb9, _⟩
    have HL9 : Hid (LawAt w u9 (.slice a fs.length cap) (.slice aw gs'.length cw) (.slice (some ⟨B, 0, none⟩) fs.length fs.length) (.slice ag gs'.length cg) Wb Xb Gb) := HL8.out.but hb9 (by omega) (by omega) (by omega) (by omega)
    have HFG9 : Hid (FilesAt u9 ag gs') := files_but HFG8.out hb9 (fun b off hab h0 => by
      rcases HGA.out with h | h
      · exact absurd (List.length_eq_zero_iff.1 h) h0
      · rw [hab] at h; injection h with h; injection h with h _; omega)
    have HFW9 : Hid (FilesAt u9 aw gs') := files_but HFW8.out hb9 (fun b off hab h0 => by have := HWL.out b off hab h0; omega)
    have HGO9 : Hid (gs'.length = 0 ∨ Open2 u9 g gs'.length) := HGO8.out.imp id (fun h => h.but hb9 (by omega))
    clear hb9 HL8 HFG8 HFW8 HOX8 HGO8 k1 k2 k3 k4
    obtain ⟨k1, k2, k3, k4⟩ := HL9.out.cells
    go_wp2_with fail
    refine (c10 ag aw cg cw gs' u9 (by omega) HFG9.out HFW9.out).mono ?_
    rintro e u10 ⟨rfl, hb10⟩
    have HL10 : Hid (LawAt w u10 (.slice a fs.length cap) (.slice aw gs'.length cw) (.slice (some ⟨B, 0, none⟩) fs.length fs.length) (.slice ag gs'.length cg) Wb Xb Gb) := HL9.out.later hb10
    have HFW10 : Hid (FilesAt u10 aw gs') := files_below HFW9.out hb10
    have HGO10 : Hid (gs'.length = 0 ∨ Open2 u10 g gs'.length) := HGO9.out.imp id (fun h => h.below hb10)
    clear hb10 HL9 HFG9 HFW9 HGO9 k1 k2 k3 k4
    obtain ⟨k1, k2, k3, k4⟩ := HL10.out.cells
    go_wp2_with fail
    refine (c15 ag g gs'.length cg u10 HGA.out (by omega) HGO10.out).mono ?_
    rintro e u11 ⟨rfl, hb11, hmk⟩
    have HL11 : Hid (LawAt w u11 (.slice a fs.length cap) (.slice aw gs'.length cw) (.slice (some ⟨B, 0, none⟩) fs.length fs.length) (.slice ag gs'.length cg) Wb Xb Gb) := HL10.out.but hb11 (by omega) (by omega) (by omega) (by omega)
    have HFW11 : Hid (FilesAt u11 aw gs') := files_but HFW10.out hb11 (fun b off hab h0 => by have := HWL.out b off hab h0; omega)
    have HMK : Hid (MarksAt u11 g gs'.length) := hmk
    have HGL : Hid (gs'.length = 0 ∨ g < u11.heap.size) := HGO10.out.imp id (fun h => Nat.lt_of_lt_of_le h.1 hb11.size)
    clear hb11 hmk HL10 HFW10 HGO10 k1 k2 k3 k4
    obtain ⟨k1, k2, k3, k4⟩ := HL11.out.cells
    go_wp2_with fail
    refine (c16 ag g gs'.length cg u11 HGA.out (by omega) HGL.out HMK.out).mono ?_
    rintro e u12 ⟨rfl, hb12⟩
    have HL12 : Hid (LawAt w u12 (.slice a fs.length cap) (.slice aw gs'.length cw) (.slice (some ⟨B, 0, none⟩) fs.length fs.length) (.slice ag gs'.length cg) Wb Xb Gb) := HL11.out.later hb12
    have HFW12 : Hid (FilesAt u12 aw gs') := files_below HFW11.out hb12
    have HMK12 : Hid (MarksAt u12 g gs'.length) := by
      rcases HGL.out with h | h
      · intro j hj; omega
      · exact marks_below HMK.out h hb12
    have HGL12 : Hid (gs'.length = 0 ∨ g < u12.heap.size) := HGL.out.imp id (fun h => Nat.lt_of_lt_of_le h hb12.size)
    clear hb12 HL11 HFW11 HMK HGL k1 k2 k3 k4
    obtain ⟨k1, k2, k3, k4⟩ := HL12.out.cells
    go_wp2_with fail
    refine (c8 a cap fs u12 hl1 (files_below HAT.out HL12.out.bel)).mono ?_
    rintro e u13 ⟨⟨a13, rfl, hf13⟩, hb13⟩
    have HL13 : Hid (LawAt w u13 (.slice a fs.length cap) (.slice aw gs'.length cw) (.slice (some ⟨B, 0, none⟩) fs.length fs.length) (.slice ag gs'.length cg) Wb Xb Gb) := HL12.out.later hb13
    have HFW13 : Hid (FilesAt u13 aw gs') := files_below HFW12.out hb13
    have HF13 : Hid (FilesAt u13 a13 fs) := hf13
    have HMK13 : Hid (MarksAt u13 g gs'.length) := by
      rcases HGL12.out with h | h
      · intro j hj; omega
      · exact marks_below HMK12.out h hb13
    have HGL13 : Hid (gs'.length = 0 ∨ g < u13.heap.size) := HGL12.out.imp id (fun h => Nat.lt_of_lt_of_le h hb13.size)
    clear hf13 hb13 HL12 HFW12 HMK12 HGL12 k1 k2 k3 k4
    go_wp2_with fail
    refine (c18 a13 fs.length fs nm u13 hl1 HS1.out HF13.out).mono ?_
    rintro e u14 ⟨⟨ah, ch, c2, gs2, rfl, hnh, hdr2⟩, hb14⟩
    obtain ⟨h1, h2⟩ := dropR_one HDR.out hdr2
    subst h1
    subst h2
    have hA14 : Below u14.heap.size u14 (u14.alloc (.cells #[.slice ah gs2.length ch] 29)) := (Below.refl _ _).alloc (Nat.le_refl _) _
    have hb14' : Below u13.heap.size u13 (u14.alloc (.cells #[.slice ah gs2.length ch] 29)) := hb14.trans (hA14.mono hb14.size)
    have HL14 : Hid (LawAt w (u14.alloc (.cells #[.slice ah gs2.length ch] 29)) (.slice a fs.length cap) (.slice aw gs2.length cw) (.slice (some ⟨B, 0, none⟩) fs.length fs.length) (.slice ag gs2.length cg) Wb Xb Gb) := HL13.out.later hb14'
    have HFH : Hid (FilesAt (u14.alloc (.cells #[.slice ah gs2.length ch] 29)) ah gs2) := files_below hnh.1 hA14
    have HFW14 : Hid (FilesAt (u14.alloc (.cells #[.slice ah gs2.length ch] 29)) aw gs2) := files_below HFW13.out hb14'
    have HH : Hid (BlkAt (u14.alloc (.cells #[.slice ah gs2.length ch] 29)) u14.heap.size (.slice ah gs2.length ch) 29) := BlkAt.new _ _ _
    have dH := HH.out.cell
    have HMK14 : Hid (MarksAt (u14.alloc (.cells #[.slice ah gs2.length ch] 29)) g gs2.length) := by
      rcases HGL13.out with h | h
      · intro j hj; omega
      · exact marks_below HMK13.out h hb14'
    have HGL14 : Hid (gs2.length = 0 ∨ g < (u14.alloc (.cells #[.slice ah gs2.length ch] 29)).heap.size) := HGL13.out.imp id (fun h => Nat.lt_of_lt_of_le h hb14'.size)
    obtain ⟨k1, k2, k3, k4⟩ := HL14.out.cells
    clear hnh hdr2 hb14 hA14 hb14' HL13 HFW13 HF13 HMK13 HGL13
    go_wp2_with fail
    generalize (u14.alloc (.cells #[.slice ah gs2.length ch] 29)) = U14 at *
    refine (c10 ah aw ch cw gs2 U14 (by omega) HFH.out HFW14.out).mono ?_
    rintro e u15 ⟨rfl, hb15⟩
    have HL15 : Hid (LawAt w u15 (.slice a fs.length cap) (.slice aw gs2.length cw) (.slice (some ⟨B, 0, none⟩) fs.length fs.length) (.slice ag gs2.length cg) Wb Xb Gb) := HL14.out.later hb15
    have HMK15 : Hid (MarksAt u15 g gs2.length) := by
      rcases HGL14.out with h | h
      · intro j hj; omega
      · exact marks_below HMK14.out h hb15
    have HGL15 : Hid (gs2.length = 0 ∨ g < u15.heap.size) := HGL14.out.imp id (fun h => Nat.lt_of_lt_of_le h hb15.size)
    clear hb15 HL14 HFH HFW14 HH dH HMK14 HGL14 k1 k2 k3 k4
    obtain ⟨k1, k2, k3, k4⟩ := HL15.out.cells
    go_wp2_with fail
    refine (c16 ag g gs2.length cg u15 HGA.out (by omega) HGL15.out HMK15.out).mono ?_
    rintro e u16 ⟨rfl, hb16⟩
    have hBe : Below w.heap.size w u16 := HL15.out.bel.trans (hb16.mono HL15.out.bel.size)
    go_wp2
    go_ret
    exact ⟨rfl, hBe⟩
end Go.Proofs.Ytolihfbnbkaflaa
