import Derived.Test.YtggcgnfockpgmaaGreatDoorV1
namespace Go.Proofs.YtggcgnfockpgmaaGreatDoor.T
open Go.RowKit
theorem adr_ne {B i j : Nat} (h : i ≠ j) : (⟨B, i, none⟩ : Addr) ≠ ⟨B, j, none⟩ := by intro e; injection e with _ e; exact h e
/-- A file: Name, Text. -/
structure F2 where
  nm : ByteArray
  tx : ByteArray
def f2z : F2 := ⟨⟨#[]⟩, ⟨#[]⟩⟩
/-- A slice's cells hold these files. -/
def FilesAt (w : World) (a : Option Addr) (rs : List F2) : Prop :=
  rs = [] ∨ ∃ b off, a = some ⟨b, off, none⟩ ∧ b < w.heap.size ∧ ∀ i, i < rs.length → w.cell? ⟨b, off + i * 2, none⟩ = some (.string (rs.getD i f2z).nm) ∧ w.cell? ⟨b, off + i * 2 + 1, none⟩ = some (.string (rs.getD i f2z).tx)
theorem files_some {w : World} {a : Option Addr} {rs : List F2} (h : FilesAt w a rs) : ∃ b off, (rs = [] ∨ (a = some ⟨b, off, none⟩ ∧ b < w.heap.size ∧ ∀ i, i < rs.length → w.cell? ⟨b, off + i * 2, none⟩ = some (.string (rs.getD i f2z).nm) ∧ w.cell? ⟨b, off + i * 2 + 1, none⟩ = some (.string (rs.getD i f2z).tx))) := by
  rcases h with h | ⟨b, off, h⟩
  · exact ⟨0, 0, .inl h⟩
  · exact ⟨b, off, .inr h⟩
theorem files_below {w w' : World} {a : Option Addr} {rs : List F2} (h : FilesAt w a rs) (hb : Below w.heap.size w w') : FilesAt w' a rs := by
  rcases h with h | ⟨b, off, h1, h2, h3⟩
  · exact .inl h
  · exact .inr ⟨b, off, h1, Nat.lt_of_lt_of_le h2 hb.size, fun i hi => by rw [hb.cell (by exact h2), hb.cell (by exact h2)]; exact h3 i hi⟩
/-- A file of texts of at most B bytes. -/
def F2.le (x : F2) (B : Nat) : Prop := x.nm.size ≤ B ∧ x.tx.size ≤ B
theorem getD_small2 {rs : List F2} {B : Nat} (h : ∀ i, i < rs.length → (rs.getD i f2z).le B) (i : Nat) : (rs.getD i f2z).le B := by
  rcases Nat.lt_or_ge i rs.length with h' | h'
  · exact h i h'
  · have e : rs.getD i f2z = f2z := by simp [List.getD, List.getElem?_eq_none h']
    rw [e]; exact ⟨Nat.zero_le _, Nat.zero_le _⟩

set_option maxHeartbeats 400000 in
theorem c27 (x : F2) (l : Int) (w : World) (hs : x.le 9223372036854775807) (h0 : 0 ≤ l) (h1 : l ≤ 1048576) :
    Calls Tryz.prog 27 #[.agg #[.string x.nm, .string x.tx], .int .i64 l] w fun e w' => (∃ r : Int, e = .returned (.int .i64 r) ∧ (0 ≤ r → x.le 1048576 ∧ r ≤ 1048576)) ∧ Below w.heap.size w w' := by
  obtain ⟨hs1, hs2⟩ := hs
  by_cases h : l < x.nm.size
  · go_enter Tryz.func27, Tryz.ntmps27
    go_wp2
    go_ret
    exact ⟨⟨-1, rfl, fun h => by omega⟩, (Below.refl _ _).alloc (Nat.le_refl _) _⟩
  · by_cases h' : l - x.nm.size < x.tx.size
    · go_enter Tryz.func27, Tryz.ntmps27
      go_wp2
      go_ret
      exact ⟨⟨-1, rfl, fun h => by omega⟩, (Below.refl _ _).alloc (Nat.le_refl _) _⟩
    · go_enter Tryz.func27, Tryz.ntmps27
      go_wp2
      go_ret
      exact ⟨⟨_, rfl, fun h => ⟨⟨by omega, by omega⟩, by omega⟩⟩, (Below.refl _ _).alloc (Nat.le_refl _) _⟩

set_option maxHeartbeats 1000000 in
theorem c12 (a : Option Addr) (cap : Nat) (rs : List F2) (l : Int) (w : World) (hs : ∀ i, (rs.getD i f2z).le 9223372036854775807) (hl : rs.length ≤ 9223372036854775807) (hat : FilesAt w a rs) (h0 : 0 ≤ l) (h1 : l ≤ 1048576) :
    Calls Tryz.prog 12 #[.slice a rs.length cap, .int .i64 l] w fun e w' => (∃ r : Int, e = .returned (.int .i64 r) ∧ (0 ≤ r → rs.length ≤ 1048576 ∧ (∀ i, (rs.getD i f2z).le 1048576) ∧ r ≤ 1048576)) ∧ Below w.heap.size w w' := by
  obtain ⟨b, off, hc⟩ := files_some hat
  have HC : Hid (rs = [] ∨ (a = some ⟨b, off, none⟩ ∧ b < w.heap.size ∧ ∀ i, i < rs.length → w.cell? ⟨b, off + i * 2, none⟩ = some (.string (rs.getD i f2z).nm) ∧ w.cell? ⟨b, off + i * 2 + 1, none⟩ = some (.string (rs.getD i f2z).tx))) := hc
  clear hc hat
  by_cases hbig : l < rs.length
  · go_enter Tryz.func12, Tryz.ntmps12
    go_wp2
    go_ret
    exact ⟨⟨-1, rfl, fun h => by omega⟩, Below.refl _ _⟩
  · go_enter Tryz.func12, Tryz.ntmps12
    go_wp2_with fail
    go_loopw [1, 5] (fun l i wr => ∃ (k : Nat) (r : Int), k ≤ rs.length ∧ i = .int .i64 k ∧ l = .int .i64 r ∧ 0 ≤ r ∧ r ≤ 1048576 ∧ Hid (∀ i, i < k → (rs.getD i f2z).le 1048576) ∧ Below w.heap.size w wr) (fun _ i _ => rs.length - (intOf i).toNat)
    case atStart => exact ⟨0, _, Nat.zero_le _, rfl, rfl, by omega, by omega, fun i h => absurd h (Nat.not_lt_zero _), Below.refl _ _⟩
    case round =>
      obtain ⟨k, r, hk, rfl, rfl, hr0, hr1, hsm, hb⟩ := hrel
      by_cases hlt : k < rs.length
      · rcases HC.out with hss | ⟨ha, hbw, hcell⟩
        · rw [hss] at hlt; exact absurd hlt (Nat.not_lt_zero _)
        subst ha
        have g0 := (hb.cell (p := ⟨b, off + k * 2, none⟩) hbw).trans (hcell k hlt).1
        have g1 := (hb.cell (p := ⟨b, off + k * 2 + 1, none⟩) hbw).trans (hcell k hlt).2
        have hxs := hs k
        generalize hx : rs.getD k f2z = x at *
        have HX : Hid (rs.getD k f2z = x) := hx
        clear hx hcell
        go_wp2_with fail
        refine (c27 x r wr hxs hr0 hr1).mono ?_
        rintro e w1 ⟨⟨r1, rfl, hr⟩, hb1⟩
        have hB1 : Below w.heap.size w w1 := hb.trans (hb1.mono hb.size)
        by_cases hneg : r1 < 0
        · clear hr
          go_wp2
          go_ret
          exact ⟨⟨-1, rfl, fun h => by omega⟩, hB1⟩
        · have hr' := hr (by omega)
          have hsm' : Hid (∀ i, i < k + 1 → (rs.getD i f2z).le 1048576) := by
            intro i h
            rcases Nat.lt_or_ge i k with h1 | h1
            · exact hsm.out i h1
            · obtain rfl : i = k := by omega
              rw [HX.out]; exact hr'.1
          clear hr
          go_wp2
          go_roundw
          case rel => exact ⟨k + 1, _, by omega, by go_num, rfl, by omega, hr'.2, hsm', hB1⟩
          case measure => simp [intOf]; omega
      · have hsm' : Hid (∀ i, (rs.getD i f2z).le 1048576) := getD_small2 (fun i h => hsm.out i (by omega))
        go_wp2
        go_ret
        exact ⟨⟨r, rfl, fun _ => ⟨by omega, hsm'.out, hr1⟩⟩, hb⟩

set_option maxHeartbeats 400000 in
theorem c35b (x : F2) (w : World) :
    Calls Tryz.prog 35 #[.agg #[.string x.nm, .string x.tx]] w fun e w' => e = .returned (.agg #[.string x.nm, .string x.tx]) ∧ Below w.heap.size w w' := by
  go_enter Tryz.func35, Tryz.ntmps35
  go_wp2
  refine bodyPost_ret (v := .agg #[.string x.nm, .string x.tx]) (by simp [results, Tryz.results35, go_sem]) rfl ⟨rfl, ?_⟩
  exact (((Below.refl _ _).alloc (Nat.le_refl _) _).alloc (by simp) _).alloc (by simp; omega) _

theorem set2_other (u : World) (B j m : Nat) (v0 v1 : Value) (h0 : m ≠ j) (h1 : m ≠ j + 1) : ((u.setCell ⟨B, j, none⟩ v0).setCell ⟨B, j + 1, none⟩ v1).cell? ⟨B, m, none⟩ = u.cell? ⟨B, m, none⟩ := by
  rw [World.cell?_setCell_other _ _ _ _ (adr_ne (Ne.symm h1)), World.cell?_setCell_other _ _ _ _ (adr_ne (Ne.symm h0))]
theorem set2_at (u : World) (B j : Nat) (v0 v1 x0 x1 : Value) (h0 : u.cell? ⟨B, j, none⟩ = some x0) (h1 : u.cell? ⟨B, j + 1, none⟩ = some x1) :
    ((u.setCell ⟨B, j, none⟩ v0).setCell ⟨B, j + 1, none⟩ v1).cell? ⟨B, j, none⟩ = some v0 ∧ ((u.setCell ⟨B, j, none⟩ v0).setCell ⟨B, j + 1, none⟩ v1).cell? ⟨B, j + 1, none⟩ = some v1 := by
  have a1 : (u.setCell ⟨B, j, none⟩ v0).cell? ⟨B, j + 1, none⟩ = some x1 := by rw [World.cell?_setCell_other _ _ _ _ (adr_ne (by omega))]; exact h1
  refine ⟨?_, World.cell?_setCell_same _ _ _ a1⟩
  rw [World.cell?_setCell_other _ _ _ _ (adr_ne (by omega))]; exact World.cell?_setCell_same _ _ _ h0
theorem info75 : (Tryz.prog.info? 75).map (fun i => (i.zero, i.size, i.bytes)) = some (some (.agg #[.string ⟨#[]⟩, .string ⟨#[]⟩]), 2, 32) := by kernel_rfl
theorem made2 (n j : Nat) (h : j < n * 2) : (madeCells #[Value.string ⟨#[]⟩, .string ⟨#[]⟩] (n * 2))[j]? = (#[Value.string ⟨#[]⟩, .string ⟨#[]⟩] : Array Value)[j % 2]? := by
  have h3 : j % 2 < 2 := Nat.mod_lt _ (by omega)
  rw [Array.getElem?_eq_getElem (by simpa [size_madeCells] using h), Array.getElem?_eq_getElem (by simpa using h3)]
  simp [madeCells, h3]

set_option maxHeartbeats 1000000 in
theorem c19 (a : Option Addr) (cap : Nat) (rs : List F2) (w : World) (hl : rs.length ≤ 1048576) (hat : FilesAt w a rs) :
    Calls Tryz.prog 19 #[.slice a rs.length cap] w fun e w' => (e = .returned (.slice (some ⟨w.heap.size, 0, none⟩) rs.length rs.length) ∧ FilesAt w' (some ⟨w.heap.size, 0, none⟩) rs) ∧ Below w.heap.size w w' := by
  obtain ⟨b, off, hc⟩ := files_some hat
  have HC : Hid (rs = [] ∨ (a = some ⟨b, off, none⟩ ∧ b < w.heap.size ∧ ∀ i, i < rs.length → w.cell? ⟨b, off + i * 2, none⟩ = some (.string (rs.getD i f2z).nm) ∧ w.cell? ⟨b, off + i * 2 + 1, none⟩ = some (.string (rs.getD i f2z).tx))) := hc
  clear hc hat
  obtain ⟨i0, hi, hz0, hz1, hz2⟩ := info_parts info75
  have hmk : ∀ u : World, (Instr.makeSlice 29 (.int .i64 (rs.length : Int)) (.int .i64 (rs.length : Int))).run Tryz.prog u =
      .ok (.slice (some ⟨u.heap.size, 0, none⟩) rs.length rs.length) (u.alloc (.cells (madeCells #[.string ⟨#[]⟩, .string ⟨#[]⟩] (rs.length * 2)) 75)) := fun u => by
    have h := run_make (P := Tryz.prog) u 29 75 i0 (.agg #[.string ⟨#[]⟩, .string ⟨#[]⟩]) Tryz.underlying29 hi hz0 .i64 .i64 (rs.length : Int) (rs.length : Int) (by omega) (Int.le_refl _) (by rw [hz2]; omega) (by omega)
    simpa [hz1, Value.cells] using h
  go_enter Tryz.func19, Tryz.ntmps19
  go_wp2_with fail
  go_loopw [4] (fun i wr => ∃ (k : Nat), k ≤ rs.length ∧ i = .int .i64 k ∧ Below w.heap.size w wr ∧ w.heap.size + 1 ≤ wr.heap.size ∧ (∀ j, wr.frozen? ⟨w.heap.size, j, none⟩ = false) ∧ Hid (∀ j, j < k → wr.cell? ⟨w.heap.size, j * 2, none⟩ = some (.string (rs.getD j f2z).nm) ∧ wr.cell? ⟨w.heap.size, j * 2 + 1, none⟩ = some (.string (rs.getD j f2z).tx)) ∧ Hid (∀ j, k ≤ j → j < rs.length → wr.cell? ⟨w.heap.size, j * 2, none⟩ = some (.string ⟨#[]⟩) ∧ wr.cell? ⟨w.heap.size, j * 2 + 1, none⟩ = some (.string ⟨#[]⟩))) (fun i _ => rs.length - (intOf i).toNat)
  case atStart =>
    refine ⟨0, Nat.zero_le _, rfl, (Below.refl _ _).alloc (Nat.le_refl _) _, by simp, fun j => by simp, fun j h => absurd h (Nat.not_lt_zero _), fun j _ h => ?_⟩
    have e0 := made2 rs.length (j * 2) (by omega)
    have e1 := made2 rs.length (j * 2 + 1) (by omega)
    rw [show j * 2 % 2 = 0 by omega] at e0
    rw [show (j * 2 + 1) % 2 = 1 by omega] at e1
    simp [e0, e1]
  case round =>
    obtain ⟨k, hk, rfl, hb, hz, hfz, hdone, hrest⟩ := hrel
    by_cases hlt : k < rs.length
    · rcases HC.out with hss | ⟨ha, hbw, hcell⟩
      · rw [hss] at hlt; exact absurd hlt (Nat.not_lt_zero _)
      subst ha
      have g0 := (hb.cell (p := ⟨b, off + k * 2, none⟩) hbw).trans (hcell k hlt).1
      have g1 := (hb.cell (p := ⟨b, off + k * 2 + 1, none⟩) hbw).trans (hcell k hlt).2
      obtain ⟨q0, q1⟩ := hrest.out k (Nat.le_refl _) hlt
      generalize hx : rs.getD k f2z = x at *
      have HX : Hid (rs.getD k f2z = x) := hx
      clear hx hcell
      go_wp2_with fail
      refine (c35b x wr).mono ?_
      rintro e w1 ⟨rfl, hb1⟩
      have hB1 : Below w.heap.size w w1 := hb.trans (hb1.mono hb.size)
      have p0 := (hb1.cell (p := ⟨w.heap.size, k * 2, none⟩) (by simp; omega)).trans q0
      have p1 := (hb1.cell (p := ⟨w.heap.size, k * 2 + 1, none⟩) (by simp; omega)).trans q1
      have f0 := (hb1.frozen (p := ⟨w.heap.size, k * 2, none⟩) (by simp; omega)).trans (hfz _)
      have f1 := (hb1.frozen (p := ⟨w.heap.size, k * 2 + 1, none⟩) (by simp; omega)).trans (hfz _)
      have hold : ∀ j, w1.cell? ⟨w.heap.size, j, none⟩ = wr.cell? ⟨w.heap.size, j, none⟩ := fun j => hb1.cell (by simp; omega)
      have HO : Hid (∀ j, w1.cell? ⟨w.heap.size, j, none⟩ = wr.cell? ⟨w.heap.size, j, none⟩) := hold
      have hoz : w.heap.size + 1 ≤ w1.heap.size := Nat.le_trans hz hb1.size
      have HFZ : Hid (∀ j, w1.frozen? ⟨w.heap.size, j, none⟩ = false) := fun j => (hb1.frozen (p := ⟨w.heap.size, j, none⟩) (by simp; omega)).trans (hfz j)
      clear hold
      go_wp2
      go_roundw
      case rel =>
        refine ⟨k + 1, by omega, by go_num, (hB1.setCell (by simp) _).setCell (by simp) _, by simpa using hoz, fun j => by rw [← HFZ.out j]; simp, fun j hj => ?_, fun j h1 h2 => ?_⟩
        · by_cases e : j = k
          · subst e
            rw [HX.out]
            exact set2_at w1 w.heap.size (j * 2) _ _ _ _ p0 p1
          · have hd := hdone.out j (by omega)
            rw [set2_other _ _ _ _ _ _ (by omega) (by omega), set2_other _ _ _ _ _ _ (by omega) (by omega), HO.out, HO.out]
            exact hd
        · have hd := hrest.out j (by omega) h2
          rw [set2_other _ _ _ _ _ _ (by omega) (by omega), set2_other _ _ _ _ _ _ (by omega) (by omega), HO.out, HO.out]
          exact hd
      case measure => simp [intOf]; omega
    · have hdone' : Hid (FilesAt wr (some ⟨w.heap.size, 0, none⟩) rs) := .inr ⟨w.heap.size, 0, rfl, by omega, fun i hi => by simp only [Nat.zero_add]; exact hdone.out i (by omega)⟩
      go_wp2
      go_ret
      exact ⟨⟨rfl, hdone'.out⟩, hb⟩

set_option maxHeartbeats 400000 in
theorem c45 (x : F2) (w : World) :
    Calls Tryz.prog 45 #[.agg #[.string x.nm, .string x.tx], .agg #[.string x.nm, .string x.tx]] w fun e w' => e = .returned (.bool true) ∧ Below w.heap.size w w' := by
  go_enter Tryz.func45, Tryz.ntmps45
  go_wp2
  go_ret
  exact ⟨rfl, ((Below.refl _ _).alloc (Nat.le_refl _) _).alloc (by simp) _⟩

set_option maxHeartbeats 1000000 in
theorem c25 (a a' : Option Addr) (cap cap' : Nat) (rs : List F2) (w : World) (hl : rs.length ≤ 1048576) (hat : FilesAt w a rs) (hat' : FilesAt w a' rs) :
    Calls Tryz.prog 25 #[.slice a rs.length cap, .slice a' rs.length cap'] w fun e w' => e = .returned (.bool true) ∧ Below w.heap.size w w' := by
  obtain ⟨b, off, hc⟩ := files_some hat
  have HC : Hid (rs = [] ∨ (a = some ⟨b, off, none⟩ ∧ b < w.heap.size ∧ ∀ i, i < rs.length → w.cell? ⟨b, off + i * 2, none⟩ = some (.string (rs.getD i f2z).nm) ∧ w.cell? ⟨b, off + i * 2 + 1, none⟩ = some (.string (rs.getD i f2z).tx))) := hc
  clear hc hat
  obtain ⟨b', off', hc'⟩ := files_some hat'
  have HC' : Hid (rs = [] ∨ (a' = some ⟨b', off', none⟩ ∧ b' < w.heap.size ∧ ∀ i, i < rs.length → w.cell? ⟨b', off' + i * 2, none⟩ = some (.string (rs.getD i f2z).nm) ∧ w.cell? ⟨b', off' + i * 2 + 1, none⟩ = some (.string (rs.getD i f2z).tx))) := hc'
  clear hc' hat'
  go_enter Tryz.func25, Tryz.ntmps25
  go_wp2_with fail
  go_loopw [5] (fun i wr => ∃ (k : Nat), k ≤ rs.length ∧ i = .int .i64 k ∧ Below w.heap.size w wr) (fun i _ => rs.length - (intOf i).toNat)
  case atStart => exact ⟨0, Nat.zero_le _, rfl, Below.refl _ _⟩
  case round =>
    obtain ⟨k, hk, rfl, hb⟩ := hrel
    by_cases hlt : k < rs.length
    · rcases HC.out with hss | ⟨ha, hbw, hcell⟩
      · rw [hss] at hlt; exact absurd hlt (Nat.not_lt_zero _)
      rcases HC'.out with hss | ⟨ha', hbw', hcell'⟩
      · rw [hss] at hlt; exact absurd hlt (Nat.not_lt_zero _)
      subst ha
      subst ha'
      have g0 := (hb.cell (p := ⟨b, off + k * 2, none⟩) hbw).trans (hcell k hlt).1
      have g1 := (hb.cell (p := ⟨b, off + k * 2 + 1, none⟩) hbw).trans (hcell k hlt).2
      have g0' := (hb.cell (p := ⟨b', off' + k * 2, none⟩) hbw').trans (hcell' k hlt).1
      have g1' := (hb.cell (p := ⟨b', off' + k * 2 + 1, none⟩) hbw').trans (hcell' k hlt).2
      generalize rs.getD k f2z = x at *
      clear hcell hcell'
      go_wp2_with fail
      go_region_with (go_at_call 45; refine (c45 x _).mono ?_; rintro e w1 ⟨rfl, hb1⟩)
      all_goals go_wp2
      all_goals go_roundw
      all_goals first
        | exact ⟨k + 1, by omega, by go_num, (hb.drew).trans (hb1.mono hb.size)⟩
        | (simp [intOf]; omega)
    · go_wp2
      go_ret
      exact ⟨rfl, hb⟩
end Go.Proofs.YtggcgnfockpgmaaGreatDoor.T
