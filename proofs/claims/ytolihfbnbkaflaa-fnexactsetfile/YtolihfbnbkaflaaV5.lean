import Derived.Test.YtolihfbnbkaflaaV4
namespace Go.Proofs.Ytolihfbnbkaflaa
open Go.RowKit
theorem files_setCell {w : World} {g : Nat} {is : List F2} {q : Addr} {v : Value} (h : FilesAt w (some ⟨g, 0, none⟩) is) (hq : q.block ≠ g) : FilesAt (w.setCell q v) (some ⟨g, 0, none⟩) is := by
  rcases h with h | ⟨b, off, h1, h2, h3⟩
  · exact .inl h
  · have hg : b = g := by injection h1 with h1; injection h1 with h1 _; exact h1.symm
    have hne : ∀ j, q ≠ ⟨b, j, none⟩ := fun j e => hq (by rw [e]; exact hg)
    refine .inr ⟨b, off, h1, by simpa using h2, fun i hi => ?_⟩
    rw [World.cell?_setCell_other _ _ _ _ (hne _), World.cell?_setCell_other _ _ _ _ (hne _)]
    exact h3 i hi
set_option maxHeartbeats 400000 in
theorem c6 (a : Option Addr) (cap : Nat) (is : List F2) (w : World) (hs : ∀ i, (is.getD i f2z).le 9223372036854775807) (hl : is.length ≤ 9223372036854775807) (hat : FilesAt w a is) :
    Calls Try.prog 6 #[.agg #[.slice a is.length cap], .int .i64 1048576] w fun e w' => (∃ r : Int, e = .returned (.int .i64 r) ∧ (0 ≤ r → is.length ≤ 1048576 ∧ (∀ i, (is.getD i f2z).le 1048576) ∧ r ≤ 1048576)) ∧ Below w.heap.size w w' := by
  have HA : Hid (FilesAt w a is) := hat
  clear hat
  go_enter Try.func6, Try.ntmps6
  go_wp2_with fail
  refine (c19 a cap is 1048576 _ hs hl (files_below HA.out ((Below.refl _ _).alloc (Nat.le_refl _) _)) (by omega) (by omega)).mono ?_
  rintro e w1 ⟨⟨r, rfl, hr⟩, hb1⟩
  have HR : Hid (0 ≤ r → is.length ≤ 1048576 ∧ (∀ i, (is.getD i f2z).le 1048576) ∧ r ≤ 1048576) := hr
  have hB : Below w.heap.size w w1 := ((Below.refl _ _).alloc (Nat.le_refl _) _).trans (hb1.mono (by simp))
  clear hr
  by_cases hneg : r < 0
  · go_wp2
    go_ret
    exact ⟨⟨-1, rfl, fun h => by omega⟩, hB⟩
  · go_wp2
    go_ret
    exact ⟨⟨r, rfl, HR.out⟩, hB⟩

set_option maxHeartbeats 400000 in
theorem c8 (a : Option Addr) (cap : Nat) (is : List F2) (w : World) (hl : is.length ≤ 1048576) (hat : FilesAt w a is) :
    Calls Try.prog 8 #[.agg #[.slice a is.length cap]] w fun e w' => (∃ a', e = .returned (.agg #[.slice a' is.length is.length]) ∧ FilesAt w' a' is) ∧ Below w.heap.size w w' := by
  have HA : Hid (FilesAt w a is) := hat
  clear hat
  go_enter Try.func8, Try.ntmps8
  go_wp2_with fail
  refine (c21 a cap is _ hl (files_below HA.out ((((Below.refl _ _).alloc (Nat.le_refl _) _).alloc (by simp) _).alloc (by simp; omega) _))).mono ?_
  rintro e w1 ⟨⟨rfl, h1⟩, hb1⟩
  have hsz : (((w.alloc (.cells #[.slice a is.length cap] 24)).alloc (.cells #[.slice none 0 0] 29)).alloc (.cells #[.slice none 0 0] 29)).heap.size = w.heap.size + 3 := by simp
  have H1 : Hid (FilesAt w1 (some ⟨w.heap.size + 3, 0, none⟩) is) := by rw [← hsz]; exact h1
  have hB : Below w.heap.size w w1 := ((((Below.refl _ _).alloc (Nat.le_refl _) _).alloc (by simp) _).alloc (by simp; omega) _).trans (hb1.mono (by simp; omega))
  have e1 : w1.cell? ⟨w.heap.size + 1, 0, none⟩ = some (.slice none 0 0) := (hb1.cell (p := ⟨w.heap.size + 1, 0, none⟩) (by simp)).trans (by simp [go_sem])
  have e2 : w1.cell? ⟨w.heap.size + 1 + 1, 0, none⟩ = some (.slice none 0 0) := (hb1.cell (p := ⟨w.heap.size + 1 + 1, 0, none⟩) (by simp)).trans (by simp [go_sem])
  have f1 : w1.frozen? ⟨w.heap.size + 1, 0, none⟩ = false := (hb1.frozen (p := ⟨w.heap.size + 1, 0, none⟩) (by simp)).trans (by simp [go_sem])
  have f2 : w1.frozen? ⟨w.heap.size + 1 + 1, 0, none⟩ = false := (hb1.frozen (p := ⟨w.heap.size + 1 + 1, 0, none⟩) (by simp)).trans (by simp [go_sem])
  clear h1 hsz
  go_wp2
  refine bodyPost_ret (v := .agg #[.slice (some ⟨w.heap.size + 3, 0, none⟩) is.length is.length]) (by simp [results, Try.results8, go_sem, e1]) rfl ⟨⟨_, rfl, ?_⟩, ?_⟩
  · exact files_setCell (files_setCell H1.out (by simp)) (by simp)
  · exact (hB.setCell (by simp; omega) _).setCell (by simp) _

set_option maxHeartbeats 400000 in
theorem c10 (a a' : Option Addr) (cap cap' : Nat) (is : List F2) (w : World) (hl : is.length ≤ 1048576) (hat : FilesAt w a is) (hat' : FilesAt w a' is) :
    Calls Try.prog 10 #[.agg #[.slice a is.length cap], .agg #[.slice a' is.length cap']] w fun e w' => e = .returned (.bool true) ∧ Below w.heap.size w w' := by
  have HA : Hid (FilesAt w a is) := hat
  have HA' : Hid (FilesAt w a' is) := hat'
  clear hat hat'
  have hB0 : Below w.heap.size w ((w.alloc (.cells #[.slice a is.length cap] 29)).alloc (.cells #[.slice a' is.length cap'] 29)) := ((Below.refl _ _).alloc (Nat.le_refl _) _).alloc (by simp) _
  go_enter Try.func10, Try.ntmps10
  go_wp2_with fail
  refine (c23 a a' cap cap' is _ hl (files_below HA.out hB0) (files_below HA'.out hB0)).mono ?_
  rintro e w1 ⟨rfl, hb1⟩
  go_wp2
  go_ret
  exact ⟨rfl, hB0.trans (hb1.mono hB0.size)⟩

theorem past {w : World} {p : Addr} {v : Value} (hp : p.block < w.heap.size) (h : w.cell? p = some v) (o : Obj) : (w.alloc o).cell? p = some v := by
  rw [World.cell?_alloc_lt _ _ _ hp]; exact h
set_option maxHeartbeats 4000000 in
set_option maxRecDepth 100000 in
theorem c3 (a : Option Addr) (cap : Nat) (fs : List F2) (w : World) (hs : ∀ i, (fs.getD i f2z).le 9223372036854775807) (hl : fs.length ≤ 9223372036854775807) (hat : FilesAt w a fs) :
    Calls Try.prog 3 #[.agg #[.slice a fs.length cap]] w fun e w' => e = .returned (.bool true) ∧ Below w.heap.size w w' := by
  have HAT : Hid (FilesAt w a fs) := hat
  have hB0 : Below w.heap.size w (w.alloc (.cells #[.slice a fs.length cap] 24)) := (Below.refl _ _).alloc (Nat.le_refl _) _
  clear hat
  go_enter Try.func3, Try.ntmps3
  go_wp2_with fail
  refine (c6 a cap fs _ hs hl (files_below HAT.out hB0)).mono ?_
  rintro e w1 ⟨⟨r, rfl, hr⟩, hb1⟩
  have hB1 : Below w.heap.size w w1 := hB0.trans (hb1.mono hB0.size)
  have d1 : w1.cell? ⟨w.heap.size, 0, none⟩ = some (.slice a fs.length cap) := (hb1.cell (p := ⟨w.heap.size, 0, none⟩) (by simp)).trans (by simp [go_sem])
  have z1 : w.heap.size + 1 ≤ w1.heap.size := by have := hb1.size; simp at this; omega
  clear hb1
  by_cases hr0 : r < 0
  · clear hr
    go_wp2
    go_ret
    exact ⟨rfl, hB1⟩
  obtain ⟨hl1, hs1, hrm⟩ := hr (by omega)
  have HS1 : Hid (∀ i, (fs.getD i f2z).le 1048576) := hs1
  clear hs hs1 hr
  go_wp2_with fail
  refine (c8 a cap fs w1 hl1 (files_below HAT.out hB1)).mono ?_
  rintro e w2 ⟨⟨a2, rfl, h2⟩, hb2⟩
  have HA2 : Hid (FilesAt w2 a2 fs) := h2
  have hB2 : Below w.heap.size w w2 := hB1.trans (hb2.mono hB1.size)
  have d2 : w2.cell? ⟨w.heap.size, 0, none⟩ = some (.slice a fs.length cap) := (hb2.cell (p := ⟨w.heap.size, 0, none⟩) (Nat.lt_of_lt_of_le (Nat.lt_succ_self _) z1)).trans d1
  have z2 : w.heap.size + 1 ≤ w2.heap.size := Nat.le_trans z1 hb2.size
  clear h2 hb2 d1
  go_wp2_with fail
  refine (c7 a2 fs.length fs w2 hl1 HS1.out HA2.out).mono ?_
  rintro e w3 ⟨⟨v, rfl, hv⟩, hb3⟩
  have HV : Hid (v = true ↔ treeOk fs) := hv
  have hB3 : Below w.heap.size w w3 := hB2.trans (hb3.mono hB2.size)
  have d3 : w3.cell? ⟨w.heap.size, 0, none⟩ = some (.slice a fs.length cap) := (hb3.cell (p := ⟨w.heap.size, 0, none⟩) (Nat.lt_of_lt_of_le (Nat.lt_succ_self _) z2)).trans d2
  have z3 : w.heap.size + 1 ≤ w3.heap.size := Nat.le_trans z2 hb3.size
  clear hv hb3 d2 HA2
  go_wp2_with fail
  refine (c8 a cap fs w3 hl1 (files_below HAT.out hB3)).mono ?_
  rintro e w4 ⟨⟨a4, rfl, h4⟩, hb4⟩
  have HA4 : Hid (FilesAt w4 a4 fs) := h4
  have hB4 : Below w.heap.size w w4 := hB3.trans (hb4.mono hB3.size)
  have d4 : w4.cell? ⟨w.heap.size, 0, none⟩ = some (.slice a fs.length cap) := (hb4.cell (p := ⟨w.heap.size, 0, none⟩) (Nat.lt_of_lt_of_le (Nat.lt_succ_self _) z3)).trans d3
  have z4 : w.heap.size + 1 ≤ w4.heap.size := Nat.le_trans z3 hb4.size
  clear h4 hb4 d3
  go_wp2_with fail
  have hA4 : Below w4.heap.size w4 (w4.alloc (.cells #[.slice a4 fs.length fs.length] 29)) := (Below.refl _ _).alloc (Nat.le_refl _) _
  refine (c9 a4 fs.length fs (w4.alloc (.cells #[.slice a4 fs.length fs.length] 29)) hl1 HS1.out (files_below HA4.out hA4)).mono ?_
  rintro e w5 ⟨⟨v', rfl, hv⟩, hb5⟩
  obtain rfl : v' = v := by
    have h := HV.out
    cases v <;> cases v' <;> simp_all
  have hb5' : Below (w4.heap.size + 1) (w4.alloc (.cells #[.slice a4 fs.length fs.length] 29)) w5 := by have h := hb5; simp at h; exact h
  have hb45 : Below w4.heap.size w4 w5 := hA4.trans (hb5'.mono (by omega))
  have hB5 : Below w.heap.size w w5 := hB4.trans (hb45.mono (by omega))
  have d5 : w5.cell? ⟨w.heap.size, 0, none⟩ = some (.slice a fs.length cap) := (hb45.cell (p := ⟨w.heap.size, 0, none⟩) (by show w.heap.size < w4.heap.size; omega)).trans d4
  have f5 : w5.cell? ⟨w4.heap.size, 0, none⟩ = some (.slice a4 fs.length fs.length) := (hb5'.cell (p := ⟨w4.heap.size, 0, none⟩) (by simp)).trans (by simp)
  have HA5 : Hid (FilesAt w5 a4 fs) := files_below HA4.out hb45
  have HAA5 : Hid (FilesAt w5 a fs) := files_below HAT.out hB5
  have z5 : w4.heap.size < w5.heap.size := by have h := hb5'.size; simp at h; omega
  clear hb5 hb5' hb45 d4 hv HA4 hA4 HV
  go_wp2_with fail
  go_region_with (first | (go_at_call 8; refine (c8 a cap fs _ hl1 ?_).mono ?_; exact files_below HAA5.out ((Below.refl _ _).drew); rintro e wa ⟨⟨aa, rfl, ha⟩, hba⟩; have xa : wa.cell? ⟨w4.heap.size, 0, none⟩ = some (.slice a4 fs.length fs.length) := (hba.cell (p := ⟨w4.heap.size, 0, none⟩) z5).trans f5) | (go_at_call 10; refine (c10 a4 aa fs.length fs.length fs _ hl1 ?_ ?_).mono ?_; exact files_below (files_below HA5.out ((Below.refl _ _).drew)) hba; exact ha; rintro e wb ⟨rfl, hbb⟩))
  all_goals
    have hB11 : Below w.heap.size w wb := ((hB5.drew).trans (hba.mono hB5.size)).trans (hbb.mono (Nat.le_trans hB5.size hba.size))
    clear ha hba xa hbb HA5 HAA5 d5 f5
    go_wp2
    go_ret
    exact ⟨rfl, hB11⟩
end Go.Proofs.Ytolihfbnbkaflaa
